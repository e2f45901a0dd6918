import PyProof.Rows.All
import Wide.All
import OpenK.AllK
import Wide.FinOn
import PyProof.EqAt
import PyProof.EqKinds
import PyProof.TupleCall
import KE.BitLaws
import Open.SpecLaws
import KE.OsHead
import KE.OsGo
import KE.KSortRegAny
import KE.KRevIter
import PyProof.CollectIter
import PyProof.ListNew
import PyProof.Rows.SetFrom
import PySem.Challenge.RW_drillrounds_s01_answers
import PyProof.Rows.FStr
import PyProof.MinMaxWalk
import PyProof.WalkInts
import PyProof.EnumMake
import PyProof.Rows.CallKwBuiltin
import PyProof.ZipIter
import KE.KMinKey
import KE.KDflt
import VbpcakSpec
import PyProof.TupleKey
import PyProof.IsRules
import PyVbpcak
set_option Elab.async false
set_option linter.all false
set_option maxRecDepth 100000
set_option maxHeartbeats 4000000
set_option tactic.hygienic false
set_option compiler.extract_closed false
set_option bootstrap.genMatcherCode false
set_option genSizeOf false
open Array renaming forIn_toList->NJ,getD_eq_getD_getElem?->fW,getElem?_eq_getElem->bT,getElem?_eq_none->lV,getElem?_toList->eV,getElem_toList->ku,length_toList->bO,mem_of_getElem?->sM,mem_toList_iff->fU,toList->YM,toList_inj->RZ,toList_push->N2
open Bool renaming and_eq_false_iff->tI,and_eq_true->bq,and_false->eS,and_self->YZ,and_true->fq,eq_false_iff->pY,eq_iff_iff->iR,false->ag,false_and->eR,false_eq_true->dG,false_ne_true->fQ,false_or->FP,noConfusion->SG,not_eq_true'->gk,not_false->DX,not_true->wy,or_eq_true->iS,or_false->YW,true->af,true_and->cX,true_or->Zy
open Char renaming toNat->wC
open Classical renaming byContradiction->fu
open Decidable renaming decide->ah
open False renaming elim->Cn
open ForInStep renaming yield->qa
open Int renaming mul_nonneg->FC,natCast_nonneg->pq,ofNat->oU,toNat->IC,toNat_natCast->dw,toNat_of_nonneg->N6
open List renaming all_cons->jU,all_eq_false->R6,all_eq_true->gD,all_map->yo,any_eq_true->zq,append_assoc->bJ,append_nil->bZ,cons_append->iy,count_append->R7,count_nil->WE,count_pos_iff->N7,dropLast_concat->gS,dropLast_concat_getLast->nE,drop_append_of_le_length->mY,drop_drop->kA,drop_eq_getElem_cons->c_,drop_eq_nil_of_le->jH,drop_left->uk,drop_length->qU,drop_succ_cons->n8,drop_zero->lZ,elem_iff->mN,eraseIdx_cons_succ->Ik,eraseIdx_eq_take_drop_succ->yX,erase_cons_head->kB,erase_cons_tail->iW,ext_getElem?->fF,filterMap_cons->ve,filterMap_cons_some->qb,filter_append->fi,filter_congr->pX,filter_cons->iA,filter_cons_of_neg->dq,filter_cons_of_pos->du,filter_eq_self->n9,filter_map->U7,filter_sublist->NN,find?_cons->jR,find?_eq_none->wG,find?_range_eq_none->FT,find?_some->U8,findSome?_eq_none_iff->DY,flatMap_append->cV,flatMap_cons->bR,flatMap_nil->dv,foldl_append->iX,foldl_cons->iT,forIn_cons->Bw,forIn_nil->DS,getD_eq_getElem?_getD->bh,getElem?_append_left->cH,getElem?_append_right->cM,getElem?_concat_length->ou,getElem?_cons_succ->hE,getElem?_drop->wF,getElem?_eq_getElem->aP,getElem?_eq_none->dH,getElem?_eq_some_iff->aV,getElem?_map->bp,getElem?_mapIdx->i5,getElem?_of_mem->kC,getElem?_range->d7,getElem?_set->yt,getElem?_set_ne->uh,getElem?_set_self->Iv,getElem?_take_of_lt->FN,getElem?_toArray->tH,getElem_drop->R0,getElem_mem->mG,getLastD_concat->L8,length_append->aG,length_cons->aK,length_drop->cz,length_eq_zero_iff->bX,length_eraseIdx_of_lt->cY,length_erase_of_mem->FR,length_filter_le->dz,length_map->aE,length_mapIdx->lB,length_nil->bQ,length_pos_iff->kW,length_pos_of_mem->l5,length_range->bG,length_reverse->dN,length_set->UU,length_singleton->Kf,length_tail->SO,length_take->bA,length_zip->BB,lookup->lP,lookup_cons->eT,map_append->a_,map_congr_left->fD,map_cons->b5,map_drop->YY,map_eq_nil_iff->NC,map_flatMap->SM,map_id->L1,map_map->dI,map_nil->jG,map_take->YX,mem_append->cN,mem_append_left->gQ,mem_append_right->eX,mem_cons->aZ,mem_cons_of_mem->aO,mem_cons_self->aT,mem_erase_of_ne->L6,mem_filter->b_,mem_filterMap->lx,mem_flatMap->ju,mem_iff_getElem->eG,mem_map->bK,mem_of_find?_eq_some->kQ,mem_of_getElem?->bC,mem_of_getLast?->L4,mem_of_mem_eraseIdx->qe,mem_range->bU,mem_reverse->zu,mem_singleton->a0,min?_eq_some_iff->Kn,nil_append->dR,nodup_append->hG,nodup_cons->c8,nodup_nil->fh,nodup_range->dS,not_mem_nil->dD,of_mem_zip->Bv,pairwise_cons->fR,pairwise_lt_range->IA,pairwise_map->gj,perm_cons_erase->L5,perm_ext_iff_of_nodup->oS,perm_middle->zr,range_succ->de,reverse_append->NB,reverse_cons->dW,singleton_append->Ko,size_toArray->bz,sum_cons->wA,take_add_one->pW,take_append_drop->d5,take_append_of_le_length->mX,take_left->DW,take_length->cR,take_of_length_le->b8,take_sublist->ym,take_succ_cons->nY,take_zero->WC,toList_toArray->Ny,zipIdx_cons->SK,zipIdx_nil->U4
open List.Pairwise renaming and_mem->lb
open List.Perm renaming refl->yZ,trans->L9
open List.cons renaming injEq->dP
open Nat renaming add_assoc->wH,add_le_add_right->va,add_sub_cancel->pB,add_zero->sL,digitChar->Ij,div_div_eq_div_mul->Kp,eq_zero_or_pos->xN,le_add_right->rn,le_of_ble_eq_true->LX,le_of_eq->yT,le_of_lt->oB,le_of_lt_succ->mh,le_of_succ_le->p_,le_refl->aQ,le_succ->pZ,le_trans->bY,lt_irrefl->c9,lt_of_le_of_lt->bo,lt_of_lt_of_le->bN,lt_succ_of_lt->et,lt_succ_self->fY,lt_trans->sI,min_eq_left->n_,min_eq_right->U6,min_le_right->eU,mod_eq_of_lt->rk,mod_lt->mQ,mul_assoc->wI,mul_comm->y3,mul_le_mul->u_,mul_le_mul_right->ND,mul_mod->NH,ne_of_gt->gN,ne_of_lt->b9,not_lt_zero->nZ,one_mul->NI,pos_of_ne_zero->R4,pow_add->NG,pow_le_pow_right->u7,pow_succ->jN,strongRecOn->WD,sub_self->i7,succ_le_succ->Bt,succ_ne_self->UX,succ_pos->kR,toDigits->oC,toDigits_of_lt_base->Iz,two_pow_pos->Cv,zero_add->i8,zero_le->cg
open Ne renaming symm->bF
open Option renaming bind_assoc->iN,getD_none->yn,getD_some->jk,isSome_iff_exists->pD,isSome_map->Nw,isSome_some->LZ,map_eq_some_iff->FO,map_some->fI,none->ae,some->aa
open Option.some renaming inj->aW,injEq->kY
open Or renaming inr->SE
open Prod renaming ext->L7,fst->gC,snd->oR
open Prod.mk renaming injEq->dC
open PyFlat renaming calls->kD,played->vc
open PyInside renaming calls->rG
open PyProof.Rows renaming AllBare->Iu,Call_->NZ,FormattedValue_plain->U3,IntsAre->qc,IntsAre->rB,Subscript_->Bs,boot_range->YN,callWith_builtin1->lA,callWith_type1->cU,joinParts_cons->Km,seqObj->Cq,subscriptTail_builtinR->RV
open PyProof.Rows.F renaming entry_set_update_loop->gF,plain_set_update_loop->dX
open PyProof.Rows.IntsAre renaming int_at->N4
open PySem renaming Around->gK,IsEnum->Fx,IsPair->me,IsTupleKey->g9,IsZip->Cs,ItemsOf->ZC,KeyKind->Wx,Keyword->Iw,Meets->Zv,Moved->UY,NameKind->jo,Program->b7,PyData->u0,Scope->tQ,SetTable->U0,Shared->bH,Str->y6,Value->bj,WalksS->YR,Within->Ih,World->cW,argsOk->Kk,assignEach->nU,atKey->N0,backTo->gA,backToKw->lU,behindInMarks->lT,bindC->UR,bindL->UQ,bootBuiltins->uX,boot_len->Cr,builtinLookup_eq_fast->nB,cLine->ly,call_meets->nX,call_meetsIn->RY,carriedByValue->mS,cellsFrom->fE,closureFor->Kg,codeAny->mM,codeAny_builtin->fC,codeAny_call_builtin->xJ,codeAny_extend_loopS->UZ,codeAny_mono->mO,codeAny_of_tree->Il,compEnvC->hZ,entryFor->Kj,evalArgs_none->LY,fits_of_scanBound->kJ,foldedSetIterable->kI,hashInt->Zt,intKind->jS,intKind_is->YT,intText_digits->Kq,isSubtype_stop->xK,isSubtype_type->xH,keywordEach->iG,layNew->YS,letOwnedTupleGo->Ii,mainGlobals->hX,mem_of_lookup->c7,notedBy->Iy,ofAClassStatement->Cw,pickOrder->yp,plainId_quiet->iH,pushCells->p9,pushCells_keeps->vg,putSet_of->N1,rawInt->f9,recursionLimit->Ke,relayAll->xI,richCompare->US,scanBound->lr,searchCouldBeSeen->ZH,seqIndex?->Fw,seqIndex_neg->RT,seqIndex_of->UT,setNext->IB,setSearchFrom->oo,signature?_of->Nz,sizeLine->br,sizeLine_eq->d8,sliceBounds->xG,slot_list_getitem->Zw,standAt->uY,starEach->bV,swapsWith->yl,sysModules->iq,tupleKeyHash->b4,tupleKind->yk,tupleKind_room_in1->qK,typeIs_str->qJ,typeLookup->Br,typeLookup_type->vi,updateSeq->N5,valueAt->Zz,weight_type_call_type->SH,wpAny->bL,wpAny_Call_Name_kw->dM,wpAny_Call_method->ZA,wpAny_Constant_int->Bm,wpAny_Name->Bl,wpAny_askSetting->Fz,wpAny_assign_Name->Zu,wpAny_attempt->kz,wpAny_bind->aF,wpAny_call->Bp,wpAny_callSpecial?_slot->eF,wpAny_call_entry->eE,wpAny_eqIsQuiet_tuple->SN,wpAny_execs_nil->vf,wpAny_field->fM,wpAny_forIn_list->tT,wpAny_holding->d4,wpAny_isInstance->lq,wpAny_isTrue_Compare1->SA,wpAny_letGo->my,wpAny_letOwnedTupleGo_enum->Kh,wpAny_load->uZ,wpAny_loadName_cell->Wy,wpAny_loadName_free->Wz,wpAny_loadName_local->xF,wpAny_loadPart'->lY,wpAny_mono->gZ,wpAny_newObj_type->fe,wpAny_newTuple->Kl,wpAny_nextOf_list_end->SI,wpAny_nextOf_list_item->R5,wpAny_of_eq->jq,wpAny_onRaise->NA,wpAny_passesOwn->kq,wpAny_pure->aU,wpAny_pyIter_enum->rC,wpAny_pyIter_list->jn,wpAny_pyIter_slot->ZE,wpAny_pyIter_tuple->YU,wpAny_rule->u6,wpAny_seqItems->eY,wpAny_setEntries_of->lR,wpAny_setField->k_,wpAny_setField_rec->fz,wpAny_setState_of->fg,wpAny_specialOf->pb,wpAny_standAt->zo,wpAny_storeSet_of->rE,wpAny_truthy_bool->eJ,wpAny_tryCatch->xM,wpAny_typeOf->u5,wpAny_updateSeq->kr,wpAny_updateSeq_pair->U5
open PySem.Around renaming under_plain->L0,under_plainId->eA
open PySem.Builtin renaming bitAnd->Bo
open PySem.Builtin.Builtins renaming bindParams->WB
open PySem.Builtin.Frozenset renaming newClass->U1,updateFrom->U2
open PySem.Builtin.List renaming listExtendWith->jA,listSameRef->ka,listTooLong->nA
open PySem.Builtin.Range renaming rangeFitsLong->vh,rangeSize->nV,small->By
open PySem.Builtin.SmallTypes renaming nextOf->SJ
open PySem.Builtin.Str renaming occurrences->zp,strKind->fo,strKind->ui,strSliceIndices->eO
open PySem.Calls renaming Constant_str->Nu,Name_function_global->Cm,callWith_builtin->h_,evalArgs_plain->mP,spliced_cons->fP,spliced_nil->g_
open PySem.Challenge renaming pw_drillrounds_s01_answers->iU,rw_drillrounds_s01_answers->iV
open PySem.Code renaming quiet_builtin->N3
open PySem.F renaming args_dict_get_3->DT,args_enumerate_next_1->yq,args_list_extend_2->RW,args_str_split_2->yV,args_zip_next_1->DV,called_enumerate->pj,called_set->kZ,entry_dict_get->qL,entry_enumerate_next->yW,entry_list_extend->SD,entry_list_pop->YO,entry_min_loop->qM,entry_str_split->Bu,entry_zip_next->FA,plainAttrs_dict->DU,plainAttrs_list->aX,plainAttrs_str->YQ,plain_extend_loop->SF,plain_list_iadd->WA,plain_min_loop->gb,plain_set_new->ZD,slot_dict_get->jK,slot_dict_getitem->Bx,slot_enumerate_next->jT,slot_list_append->bu,slot_list_extend->UW,slot_list_extend->eP,slot_list_pop->Zx,slot_list_pop->jL,slot_list_remove->Ct,slot_set_iter->ZF,slot_str_split->sJ,slot_str_startswith->nk,slot_tuple_iterator_next->wx,slot_zip_next->l4,type_dict_get->FQ,type_list_append->bw,type_list_extend->eQ,type_list_pop->jM,type_list_remove->Cu,type_str_startswith->nq
open PySem.Heap renaming ExtBut->uj,SameBut->d6,get?_push_of_some->aJ,get?_push_size->bc,get?_update_other->dU,get?_update_self->dc,lt_size->bD,size_push->cG
open PySem.Heap.SameBut renaming extBut->Cp,refl->Fy
open PySem.Moved renaming trans->Ki
open PySem.NameKind renaming cell->RX
open PySem.NumText renaming digitsVal->wz
open PySem.Obj renaming cls_mapFields->qd,data_mapFields->d0,isFreed_of_fields->j9,mapFields->wD,mapSeq->jJ,putSet->lQ
open PySem.Paired renaming snoc->yU
open PySem.PassesOwn renaming never->gf
open PySem.PyData renaming canLayAll0->NF,depthAll->zt,eqv->la,eqvAll->u9
open PySem.SeqAt renaming shaped->kH
open PySem.SetTable renaming below->dA,fill->BA,grown->gE,insertAt->fy,slot->tU,toList_insertAt->iL
open PySem.SetTable.below renaming go->mR
open PySem.SetTable.probe renaming go->rD
open PySem.Shared renaming heap->YV
open PySem.Str renaming ofString->aD,ofString->cq
open PySem.StrLaws renaming sliceText->gB
open PySem.Unicode renaming isDigit->mT
open PySem.Value renaming isInt->zm,isInt_shape->NY,isStrOf->Ww
open PySem.W renaming Frag->aM,callWith_K->nW,callWith_K0->tS,cellsFrom_some->Fv,codeHd_of_K->ID,codeIn->Bq,emptyDict->gR,findIn->f_,fnOf->nj,handedIn->Nv,hasDictIn->oQ,instObj->iF,isFn->Fu,keepIn->jh,kla_fn->n0,lookIn->sH,makesIn->yS,methodCall_KW->FK,mg_of->um,nsIn->qO,plainGet->md,plainGet_of->tR,plainOver->wu,takerIn->yR
open PySem.pickOrder renaming go->Co
open PyVbpcak renaming answers->h9,answers_asked->DZ,whole->dQ
open Sum renaming inl->ma,inr->Kd
open Sum.inl renaming inj->oP
open True renaming intro->rA
open UInt8 renaming ofNat->Kr,toNat->kx,toNat_ofNat'->wB
open VbpcText renaming linesFrom->eZ,number->NL,passed->NK,readText->vj,wordsFrom->dh
open Vbpcak renaming Ans->kc,BIG->eI,FEW->ZG,Fit->ZI,HOLES->WH,Hole->yY,LINES->WG,LONG->Y1,MANY->mH,MOST->jC,Machine->jr,NEST->y4,PANEL->gg,Panel->wJ,Reading->ib,THICK->iM,alongCost->yr,asked->gG,best->pA,bestFit->jm,bytesOut->R8,changes->iz,changesOf->mz,copyHole->cE,cost->ia,doesAll->SQ,doesAll->iZ,drilledBy->fS,fitWith->oq,fresh->qV,goInto->cA,grouped->oh,groupedFrom->oj,growTree->tV,holeAt->bb,home->jB,improve->jl,inOrder->bE,insert_->eN,insert_->vb,leastBy->cn,leastBy->iD,missing->gM,moved->fJ,nearest->Bz,nearestFrom->dY,onBoard->ot,orders->iY,parentOf->jO,programLast->rF,programLine->d9,ran->ow,readProgram->jV,sameSteps->oa,shortest->bW,shownAll->R9,shownIns->qN,stepCost->rj,stepsOf->mU,tools->cC,treeLength->NM,unlike->pE,walkFrom->Ks,writeFrom->qf,writePanel->Y2,writePanel->wK
open Vbpcak.Ins renaming tool->Y0
theorem Z{a:α}:a=a:=rfl
def ai{c:Prop}{i:Decidable c}{α:Sort u}{t e:α}(h:c):ite c t e=t:=if_pos h
def ak{c:Prop}{i:Decidable c}{α:Sort u}{t e:α}(h:¬c):ite c t e=e:=if_neg h
def aq[Decidable p](h:decide p=true):p:=of_decide_eq_true h
def au[Decidable p](h:p):decide p=true:=decide_eq_true h
def aw[Decidable p](h:¬p):decide p=false:=decide_eq_false h
def az{a:Prop}{b:Sort v}(h:a)(g:¬a):b:=absurd h g
def aA[Decidable p]:(decide p=true)=p:=decide_eq_true_eq
def aB[Decidable p]:decide p=false↔¬p:=decide_eq_false_iff_not
namespace L2
open PySem PySem.Spec PyProof.Rows
abbrev Key:=Sum Int Str
def Cy:Key->bj->Bool| .inl k,v=>zm k v| .inr x,v=>Ww x v
def ab5(w:cW):Key->Int| .inl k=>Zt k| .inr x=>hashStr w x
theorem iI:∀{k:Key} {v:bj},Cy k v=af->(∃i t,k=ma i/\v=bj.int i t)\/(∃x t,k=Kd x/\v=bj.str x t)
 | .inl i,v,h=>by obtain⟨t,e⟩:=NY h;exact .inl ⟨i,t,Z,e⟩
 | .inr x,v,h=>by obtain⟨t,e⟩:=bj.isStrOf_shape h;exact .inr ⟨x,t,Z,e⟩
theorem L_(i:Int)(t:Tok):Cy (.inl i) (.int i t)=true:=by simp[Cy,zm]
theorem Ma(x:Str)(t:Tok):Cy (.inr x) (.str x t)=true:=by simp[Cy,Ww]
theorem WI(a b:Int):ah ((ma a:Key)=ma b)=(a==b):=by
 by_cases e:a=b
 .subst e;simp
 .rw[aw (fun q=>e (oP q))];exact(beq_eq_false_iff_ne.mpr e).symm
theorem N8(a b:Str):ah ((Kd a:Key)=Kd b)=ah (a=b):=by
 by_cases e:a=b
 .subst e;simp
 .rw[aw (fun q=>e (Kd.inj q)),aw e]
theorem WJ(a:Int)(b:Str):ah ((ma a:Key)=Kd b)=false:=aw (fun q=>nomatch q)
theorem WK(a:Str)(b:Int):ah ((Kd a:Key)=ma b)=false:=aw (fun q=>nomatch q)
def gp(prog:b7)(w:cW):Wx prog w Key where
 is:=Cy
 hash:=ab5 w
 inj:=fun v a b f d=>by
  rcases iI f with⟨i,t,rfl,rfl⟩|⟨x,t,rfl,rfl⟩
  .rcases iI d with⟨j,u,rfl,e⟩|⟨y,u,rfl,e⟩
   .injection e with c _;rw[c]
   .exact nomatch e
  .rcases iI d with⟨j,u,rfl,e⟩|⟨y,u,rfl,e⟩
   .exact nomatch e
   .injection e with c _;rw[c]
 byValue:=fun k v h=>by
  rcases iI h with⟨i,t,rfl,rfl⟩|⟨x,t,rfl,rfl⟩<;>rfl
 pyHash:=fun hv h=>by
  rcases iI hv with⟨i,t,rfl,rfl⟩|⟨x,t,rfl,rfl⟩
  .exact wpAny_pyHash_int h
  .exact wpAny_pyHash_str h
 eqBool:=fun g hv h=>by
  rcases iI g with⟨i,t,rfl,rfl⟩|⟨x,t,rfl,rfl⟩
  .rcases iI hv with⟨j,u,rfl,rfl⟩|⟨y,u,rfl,rfl⟩
   .rw[WI] at h;exact wpAny_eqBool_int h
   .rw[WJ] at h;exact SeqAt.EqAt.int_str i t y u _ _ _ _ h
  .rcases iI hv with⟨j,u,rfl,rfl⟩|⟨y,u,rfl,rfl⟩
   .rw[WK] at h;exact SeqAt.EqAt.str_int x t j u _ _ _ _ h
   .rw[N8] at h;exact wpAny_eqBool_str h
 «strs»:=fun k x t v h=>by
  rcases iI h with⟨i,u,rfl,e⟩|⟨y,u,rfl,e⟩
  .exact nomatch e
  .injection e with c _
   subst c
   cases v<;>rfl
theorem FU(prog:b7)(w:cW)(i:Int)(t:Tok):(gp prog w).is (.inl i) (.int i t)=true:=L_ i t
theorem FV(prog:b7)(w:cW)(x:Str)(t:Tok):(gp prog w).is (.inr x) (.str x t)=true:=Ma x t
inductive V where
 |rH|bl (b:Bool)|int (i:Int)|str (x:Str)|ref (a:Addr)
 deriving DecidableEq
def RelV:V->bj->Prop| .rH,u=>u=bj.none| .bl b,u=>u=bj.bool b| .int i,u=>∃t,u=bj.int i t| .str x,u=>∃t,u=bj.str x t| .ref a,u=>u=bj.ref a
abbrev Vals:List V->List bj->Prop:=Paired RelV
theorem Vals.length(r:Vals xs us):xs.length=us.length:=Paired.length r
theorem Vals.get:∀{xs:List V} {a:List bj} {i:Nat} {x:V},Vals xs a->xs[i]? =aa x->∃u,a[i]? =aa u/\RelV x u
 |_,_,_,_, .nil,e=>by simp at e
 |_,_,0,_, .cons r _,e=>by simp at e;subst e;exact⟨_,Z,r⟩
 |_,_,i+1,x, .cons _ t,e=>by obtain⟨u,h1,b⟩:=Vals.get t (by exact e);exact⟨u,by exact h1,b⟩
theorem Vals.set(r:RelV x u):∀{xs:List V} {a:List bj} (i:Nat),Vals xs a->Vals (xs.set i x) (a.set i u)|_,_,_, .nil=> .nil|_,_,0, .cons _ t=> .cons r t|_,_,i+1, .cons q t=> .cons q (Vals.set r i t)
theorem Vals.append:∀{xs ys:List V} {a b:List bj},Vals xs a->Vals ys b->Vals (xs++ys) (a++b)|_,_,_,_, .nil,s=>s|_,_,_,_, .cons r t,s=> .cons r (Vals.append t s)
theorem Vals.take:∀{xs:List V} {a:List bj} (n:Nat),Vals xs a->Vals (xs.take n) (a.take n)|_,_,0,_=> .nil|_,_,_+1, .nil=> .nil|_,_,n+1, .cons r t=> .cons r (Vals.take n t)
theorem Vals.drop:∀{xs:List V} {a:List bj} (n:Nat),Vals xs a->Vals (xs.drop n) (a.drop n)|_,_,0,r=>r|_,_,_+1, .nil=> .nil|_,_,n+1, .cons _ t=>Vals.drop n t
def qW:Option V->Option bj->Prop|some v,some u=>RelV v u|none,none=>True|_,_=>False
def KV{a:Type}:List (a×V)->List (a×bj)->Prop:=Paired fun p q=>p.1=q.1/\RelV p.2 q.2
def kV:Key->V| .inl i=> .int i| .inr x=> .str x
inductive HO where|lst(xs:List V)|tup(xs:List V)|dK(cw:List (Key×V))|dT(cw:List (List Key×V))|ins(C dx:Addr)(fs:List (Str×V))|own(x:Addr)|N9(o:Obj)(u:HO)|kX(ps:Array bj)|ext(φ:Heap->Prop)
abbrev Hp:=Addr->Option HO
def upd(H:Hp)(a:Addr)(o:HO):Hp:=fun b=>if b=a then aa o else H b
theorem aH:upd H a o a=aa o:=by unfold upd;rw[ai Z]
theorem aL(h:b≠a):upd H a o b=H b:=by unfold upd;rw[ak h]
theorem gq:upd (upd H a o) a u=upd H a u:=by funext b;unfold upd;split<;>rfl
theorem dE{H:Hp}(h:H a=aa o)(h':H b=aa u)(d:o≠u):a≠b:=by intro e;subst e;rw[h] at h';exact d (aW h')
theorem aS{H:Hp}(h:H a=aa o)(h':H b=ae):a≠b:=by lia
theorem zl{n:Nat}(h:Nat.ble n 99=true:=by rfl):n<=br:=bY (LX h) (by decide)
theorem zk{n:Nat}(h:Nat.ble n 99=true:=by rfl):n<1000:=bo (LX h) (by decide)
section
variable (P:b7) (w:cW)
def ie(H:Hp)(h:Heap)(a:Addr):HO->Prop
 | .lst xs=>xs.length<=br/\∃its n,Vals xs its/\h.get? a=aa {cls:= .type "list",data:= .seq its.toArray n}
 | .tup xs=>xs.length<=br/\∃its,Vals xs its/\IsTup h a its.toArray
 | .dK b=>b.length<=br/\(a==iq)=ag/\∃vs,KV b vs/\h.DictOf (gp P w) a vs
 | .dT b=>b.length<=br/\(a==iq)=ag/\∃xs:List (List Key×Addr×bj),
   Paired (fun(p:List Key×V) (q:List Key×Addr×bj)=>p.1=q.1/\H q.2.1=aa (.tup (p.1.map kV))/\RelV p.2 q.2.2) b xs/\
   ∃o g j,h.get? a=aa o/\o.ExactDict/\o.data= .dict g j/\g.toList=xs.map (entryOfKey (yk (gp P w)))/\(xs.map (·.1)).Nodup
 | .ins C c fs=>H c=aa (.own a)/\fs.length<=1000/\c≠a/\h.get? a=aa (iF C c)/\
   ∃d,h.Ns1 c d/\(∀f,qW (fs.lookup f) (d f))/\Ih d (fs.map (·.1))
 | .own _=>∃o,h.get? a=aa o
 | .N9 o u=>h.get? a=aa o/\ie H h a u
 | .kX ps=>h.get? a=aa {cls:= .none,data:= .fields ps}
 | .ext e=>e h/\(∃o,h.get? a=aa o)/\∀h1 i,e h1->(∀o,h1.get? a=aa o->i.get? a=aa o)->e i
def vd(H:Hp)(h:Heap):Prop:=∀a o,H a=aa o->ie P w H h a o
end
section
variable {P:b7} {w:cW} {H H':Hp} {h h':Heap} {a:Addr} {o:HO}
theorem ie.lt(x:ie P w H h a o):a<h.objs.size:=by cases o with|lst xs=>obtain⟨_,_,_,_,e⟩:=x;exact bD e|tup xs=>obtain⟨_,_,_,p⟩:=x;exact p.lt|dK b=>obtain⟨_,_,_,_,o,_,_,e,_⟩:=x;exact bD e|dT b=>obtain⟨_,_,_,_,o,_,_,e,_⟩:=x;exact bD e|ins C c fs=>obtain⟨_,_,_,e,_⟩:=x;exact bD e|own y=>obtain⟨_,e⟩:=x;exact bD e|N9 d u=>obtain⟨e,_⟩:=x;exact bD e|kX ps=>exact bD (show h.get? a=aa _ from x)|ext f=>obtain⟨_,⟨_,e⟩,_⟩:=x;exact bD e
theorem Paired.WL{c d:Type}{F G:c->d->Prop}:∀{l₁:List c} {e:List d},Paired F l₁ e->(∀a b,F a b->G a b)->Paired G l₁ e|_,_, .nil,_=> .nil|_,_, .cons r t,f=> .cons (f _ _ r) (Paired.WL t f)
theorem ie.BC(x:ie P w H h a o)(k:∀b u,(b=a\/H b=aa (.own a))->h.get? b=aa u->h'.get? b=aa u)
  (ho:∀b,H b=aa (.own a)->H' b=aa (.own a)) (j:∀b xs,H b=aa (.tup xs)->H' b=aa (.tup xs)):ie P w H' h' a o:=by
 induction o with
 |lst xs=>obtain⟨z,its,n,r,e⟩:=x;exact⟨z,its,n,r,k _ _ (.inl rfl) e⟩
 |tup xs=>obtain⟨z,its,r,f,e,c⟩:=x;exact⟨z,its,r,f,k _ _ (.inl rfl) e,c⟩
 |dK l=>obtain⟨z,y,vs,r,f,g,i,e,c⟩:=x;exact⟨z,y,vs,r,f,g,i,k _ _ (.inl rfl) e,c⟩
 |dT l=>
  obtain⟨z,y,xs,r,f,g,i,e,c⟩:=x
  exact⟨z,y,xs,Paired.WL r fun p q z=>⟨z.1,j _ _ z.2.1,z.2.2⟩,f,g,i,k _ _ (.inl rfl) e,c⟩
 |ins C v fs=>
  obtain⟨d,z,ne,e,m,⟨od,g,i,s,c⟩,r⟩:=x
  exact⟨ho _ d,z,ne,k _ _ (.inl rfl) e,m,⟨od,g,i,k _ _ (.inr d) s,c⟩,r⟩
 |own y=>obtain⟨f,e⟩:=x;exact⟨f,k _ _ (.inl rfl) e⟩
 |N9 f u t=>obtain⟨e,q⟩:=x;exact⟨k _ _ (.inl rfl) e,t q⟩
 |kX ps=>
  have e:=x
  exact k a _ (.inl rfl) e
 |ext A=>obtain⟨p,⟨o,e⟩,st⟩:=x;exact⟨st _ _ p fun o q=>k _ _ (.inl rfl) q,⟨o,k _ _ (.inl rfl) e⟩,st⟩
theorem vd.lt(x:vd P w H h)(e:H a=aa o):a<h.objs.size:=(x a o e).lt
theorem vd.fresh(x:vd P w H h)(e:h.objs.size<=a):H a=none:=by cases q:H a with|none=>rfl|some u=>exact az (bN (x.lt q) e) (c9 _)
theorem vd.kept(x:vd P w H h)(k:∀b u,h.get? b=aa u->h'.get? b=aa u):vd P w H h':=fun a o e=>
 (x a o e).BC (fun b u _ q=>k b u q) (fun _ q=>q) fun _ _ q=>q
theorem vd.laid(x:vd P w H h)(k:∀b u,h.get? b=aa u->h'.get? b=aa u)(f:h.objs.size<=a)(new:ie P w (upd H a o) h' a o):vd P w (upd H a o) h':=fun b u e=>by
 have hn:=x.fresh f
 by_cases d:b=a
 .subst d;rw[aH] at e;cases e;exact new
 .rw[aL d] at e
  exact(x b u e).BC (fun c v _ q=>k c v q) (fun c q=>by rw[aL (aS q hn)];exact q) fun c xs q=>by rw[aL (aS q hn)];exact q
end
def Rd(H:Hp)(a:Addr)(u:HO):Prop:=H a=aa u\/∃o,H a=aa (.N9 o u)
theorem Rd.of(h:H a=aa u):Rd H a u:= .inl h
theorem Rd.ok(r:Rd H a u)(x:vd P w H h):ie P w H h a u:=by
 rcases r with r|⟨o,r⟩
 .exact x a u r
 .obtain⟨_,q⟩:=x a _ r;exact q
def ZK:Option HO->Prop|some (.lst _)=>True|some (.dK _)=>True|some (.dT _)=>True|some (.ins _ _ _)=>True|some (.ext _)=>True|_=>False
section
variable {P:b7} {w:cW} {H:Hp} {h h':Heap} {x e:Addr} {o':HO}
theorem vd.write(ok:vd P w H h)(a:ZK (H x))(i:e=x\/H e=aa (.own x))(k:∀b u,b≠e->h.get? b=aa u->h'.get? b=aa u)(m:∃u,h'.get? e=aa u)
  (new:ie P w (upd H x o') h' x o'):vd P w (upd H x o') h':=fun b u q=>by
 have j:∀c y,H c=aa (.own y)->c≠x:=fun c y r z=>by subst z;rw[r] at a;exact a
 by_cases d:b=x
 .subst d;rw[aH] at q;cases q;exact new
 .rw[aL d] at q
  by_cases f:b=e
  .have l:H b=aa (.own x):=by
    rcases i with z|z
    .exact az (f.trans z) d
    .rw[f];exact z
   rw[q] at l;cases l
   obtain⟨v,hv⟩:=m
   exact⟨v,by rw[f];exact hv⟩
  .refine(ok b u q).BC (fun c v g r=>k c v ?_ r) (fun c r=>by rw[aL (j c b r)];exact r) fun c xs r=>by rw[aL ((fun c xs r z=>by subst z;rw[r] at a;exact a) c xs r)];exact r
   rcases g with rfl|g
   .exact f
   .rintro rfl
    rcases i with z|z
    .exact j c b g z
    .rw[g] at z;cases z;exact d Z
end
structure Un(fs ex:List Addr)(H H':Hp)(h h':Heap):Prop where
 keep:∀b o,h.get? b=aa o->H b=ae->b∉fs->b∉ex->h'.get? b=aa o
 slot:∀b o,h.get? b=aa o->H b=ae->b∈fs->b∉ex->∃sl,h'.get? b=aa {o with slots:=sl}
 free:∀b o,h.get? b=aa o->H b=ae->b∉ex->H' b=ae
 there:∀b o,h.get? b=aa o->b∉ex->∃o',h'.get? b=aa o'
 BE:∀b xs,H b=aa (.tup xs)->H' b=aa (.tup xs)
 zw:∀b o u,H b=aa (.N9 o u)->H' b=aa (.N9 o u)
 BG:∀b ps,H b=aa (.kX ps)->∃more,H' b=aa (.kX (ps++more))
section
variable {fs fs' ex ex':List Addr} {H H1 H2:Hp} {h h1 h2 h':Heap} {a x e:Addr} {o:HO}
theorem Un.any(u:Un fs ex H H1 h h1)(q:h.get? b=aa ob)(n:H b=ae)(c:b∉ex):∃e,h1.get? b=aa {ob with slots:=e}:=by
 by_cases d:b∈fs
 .exact u.slot b ob q n d c
 .exact⟨ob.slots,u.keep b ob q n d c⟩
theorem Un.kept(k:∀b u,h.get? b=aa u->h'.get? b=aa u):Un fs ex H H h h':=
 ⟨fun b a q _ _ _=>k b a q,fun b a q _ _ _=>⟨a.slots,k b a q⟩,fun _ _ _ n _=>n,fun b a q _=>⟨a,k b a q⟩,fun _ _ q=>q,fun _ _ _ q=>q,fun _ ps q=>⟨#[],by rw[q];simp⟩⟩
theorem Un.refl:Un fs ex H H h h:=Un.kept fun _ _ q=>q
theorem Un.laid(k:∀b u,h.get? b=aa u->h'.get? b=aa u)(c:h.objs.size<=a)(hn:H a=ae):Un fs ex H (upd H a o) h h' where
 keep:=fun b u q _ _ _=>k b u q
 slot:=fun b u q _ _ _=>⟨u.slots,k b u q⟩
 free:=fun b u q n _=>by rw[aL (b9 (bN (bD q) c))];exact n
 there:=fun b u q _=>⟨u,k b u q⟩
 BE:=fun b xs q=>by rw[aL (aS q hn)];exact q
 zw:=fun b u xs q=>by rw[aL (aS q hn)];exact q
 BG:=fun b ps q=>⟨#[],by rw[aL (aS q hn),q];simp⟩
theorem Un.write(a:ZK (H x))(i:e=x\/H e=aa (.own x))(k:∀b u,b≠e->h.get? b=aa u->h'.get? b=aa u)(j:∃u,h'.get? e=aa u):Un fs ex H (upd H x o) h h':=by
 have d:∀b,H b=ae->b≠x:=fun b n z=>by subst z;rw[n] at a;exact a
 have f:∀b,H b=ae->b≠e:=fun b n z=>by
  subst z;rcases i with r|r
  .exact d b n r
  .lia
 have c:∀b u,H b=aa u->¬ZK (aa u)->b≠x:=fun b u q l z=>by subst z;rw[q] at a;exact l a
 refine⟨fun b u q n _ _=>k b u (f b n) q,fun b u q n _ _=>⟨u.slots,k b u (f b n) q⟩,fun b u q n _=>by rw[aL (d b n)];exact n,fun b u q _=> ?_,fun b xs q=>by rw[aL (c b _ q fun z=>z)];exact q,fun b u xs q=>by rw[aL (c b _ q fun z=>z)];exact q,fun b ps q=>⟨#[],by rw[aL (c b _ q fun z=>z),q];simp⟩⟩;by_cases g:b=e
 .subst g;exact j
 .exact⟨u,k b u g q⟩
end
def trk(h:Heap)(H:Hp):List Addr:=(List.range h.objs.size).filter fun a=>(H a).isSome
def IE(h:Heap)(H:Hp):Heap:=PySem.W.hideAll h (trk h H)
theorem Mb(h:Heap)(H:Hp):(IE h H).objs.size=h.objs.size:=PySem.W.hideAll_size _ _
theorem zz(e:h.get? b=aa o)(n:H b=ae):(IE h H).get? b=aa o:=
 PySem.W.hideAll_get _ e fun a=>by
  have q:=(b_.mp a).2
  rw[n] at q;simp at q
theorem SS(e:(IE h H).get? b=aa o):h.get? b=aa o/\H b=none:=by have a:=PySem.W.of_hideAll (trk h H) e;refine⟨a,?_⟩;cases q:H b with|none=>rfl|some x=>have z:(IE h H).get? b=none:=PySem.W.hideAll_none (trk h H) (b_.mpr ⟨bU.mpr (bD a),by simp[q]⟩);rw[z] at e;cases e
def sN(g h:Heap)(L:Addr):List (Addr×Obj):=(List.range h.objs.size).filterMap fun a=>if a=L\/(g.get? a).isSome=af then ae else(h.get? a).map fun o=>(a,o)
theorem xO(h1:a≠L)(h2:g.get? a=ae)(b:h.get? a=aa o):(a,o)∈sN g h L:=
 lx.mpr ⟨a,bU.mpr (bD b),by simp[h1,h2,b]⟩
theorem zA(a:p∈sN g h L):p.1≠L/\g.get? p.1=ae/\h.get? p.1=aa p.2:=by
 obtain⟨b,_,e⟩:=lx.mp a;split at e
 .cases e
 .rename_i hn;cases q:h.get? b with|none=>simp_all|some u=>rw[q] at e;simp only[fI,kY] at e;subst e;simp_all
theorem N_:News g L h (sN g h L):=fun p d=>let ⟨a,b,c⟩:=zA d;⟨c,a,b⟩
structure Mod(K:aM) mg base:Prop where
 Y4:K.In base
 glob:base.Ns hX mg
 blt:∃mb,base.Ns builtinsNs mb/\∀x:Str,x≠"__name__"->mb x=uX x
 nolimit:base.NoLimit
abbrev NE:bj->bH->Prop:=fun _ _=>False
structure Cx where
 prog:b7
 w:cW
 K:aM
 mg:Str->Option bj
 base:Heap
 A:gK
 N:List Str
 Cz:bH
 ZM:Hp
 env:Env
 outer:List Env
 stack:List Env
 ex:List Addr
 fn:Str->Bool
 calm:Bool
 pn:List (Addr×Obj)
def Oa(l:List Env):List Addr:=l.filterMap (·.frame)
abbrev Cx.fs(X:Cx):List Addr:=Oa X.outer
def Vis(a:tQ)(x:Str):Prop:=a.names.lookup x=aa .local\/a.names.lookup x=aa .cell\/a.names.lookup x=aa .free
def Loc(a:tQ)(x:Str):Prop:=a.names.lookup x=aa .local\/a.names.lookup x=aa .cell
def Look(env:Env)(h:Heap)(m:Str->Option bj)(x:Str)(u:bj):Prop:=
 (env.kindOf x=aa .local/\m x=aa u)\/((env.kindOf x=aa .cell\/env.kindOf x=aa .free)/\∃c,env.cells.lookup x=aa c/\h.IsCell c (aa u))
structure Cx.Ok(X:Cx):Prop where
 mod:Mod X.K X.mg X.base
 kind:X.env.scope.kind= .function
 glob:X.env.globals=hX
 blt:X.env.builtins=builtinsNs
 above:X.Cz.heap.objs.size<=X.env.locals
 inj:∀x y c,X.env.cells.lookup x=aa c->X.env.cells.lookup y=aa c->x=y
 has:∀x,(X.env.kindOf x=aa .cell\/X.env.kindOf x=aa .free)->∃c,X.env.cells.lookup x=aa c
 cab:∀x c,X.fn x=af->X.env.cells.lookup x=aa c->X.Cz.heap.objs.size<=c
 hd:X.calm=af->X.A.handled=ae
 frames:X.A.frames=aa X.stack
 stk:X.stack=X.outer\/(X.stack=X.env::X.outer/\X.env.frame=aa X.env.locals)
 exf:∀b∈X.ex,b≠X.env.locals/\∀x c,X.env.cells.lookup x=aa c->c≠b
 bs:∀b o,X.base.get? b=aa o->X.Cz.heap.get? b=aa o/\X.ZM b=ae
 U9:X.base.objs.size<=X.Cz.heap.objs.size
 WM:∀b o,X.base.get? b=aa o->b∉X.ex
 WN:∀b∈X.ex,b∉X.fs
 BH:X.Cz.heap.FunFrames X.base X.outer
 ZN:∀b∈X.fs,X.ZM b=ae
structure Inv(X:Cx) pz(σ:List (Option V)) H(s:bH):Prop where
 ok:X.Ok
 os:s.os=X.Cz.os
 bare:Iu s.gens
 base:Un X.fs X.ex X.ZM H X.Cz.heap s.heap
 loc:∃m,s.heap.Ns X.env.locals m/\∀(i:Nat) x v,X.N[i]? =aa x->σ[i]? =aa (aa v)->Vis X.env.scope x->∃u,RelV v u/\Look X.env s.heap m x u
 cell:∀x c,X.env.cells.lookup x=aa c->∃v,s.heap.IsCell c v
 free:H X.env.locals=ae
 tW:∀x c,X.env.cells.lookup x=aa c->H c=ae
 pin:∀p∈X.pn++pz,s.heap.get? p.1=aa p.2/\H p.1=ae/\p.1≠X.env.locals/\p.1∉X.fs/\∀v,p.2.data≠ .cell v
 gT:vd X.prog X.w H s.heap
 len:σ.length=X.N.length
section
variable {X:Cx} {pz:List (Addr×Obj)} {σ:List (Option V)} {H H':Hp} {s:bH} {h':Heap}
theorem Cx.Ok.ab6(ok:X.Ok)(e:X.base.get? b=aa o):b∉X.fs:=fun a=>by
 have:=(ok.BH.mem a).1
 lia
theorem Inv.bs(I:Inv X pz σ H s):∀b o,X.base.get? b=aa o->s.heap.get? b=aa o/\H b=none:=fun b o e=>
 ⟨I.base.keep b o (I.ok.bs b o e).1 (I.ok.bs b o e).2 (I.ok.ab6 e) (I.ok.WM b o e),I.base.free b o (I.ok.bs b o e).1 (I.ok.bs b o e).2 (I.ok.WM b o e)⟩
theorem Inv.bk(I:Inv X pz σ H s):∀b o,X.base.get? b=aa o->s.heap.get? b=aa o:=fun b o e=>(I.bs b o e).1
theorem Inv.mod(I:Inv X pz σ H s):Mod X.K X.mg X.base:=I.ok.mod
theorem Inv.BI(I:Inv X pz σ H s):X.K.In s.heap:=I.ok.mod.Y4.keeps I.bk
theorem Inv.lt(I:Inv X pz σ H s):X.env.locals<s.heap.objs.size:=let ⟨_,hn,_⟩:=I.loc;hn.lt
theorem Inv.sz(I:Inv X pz σ H s):X.Cz.heap.objs.size<=s.heap.objs.size:=bY I.ok.above (oB I.lt)
theorem Inv.ab7(I:Inv X pz σ H s){a:Addr}(h:s.heap.objs.size<=a):a∉X.fs:=fun b=>by
 obtain⟨_,o,ho,_⟩:=I.ok.BH.mem b
 exact az (bN (bD ho) (bY I.sz h)) (c9 _)
theorem Inv.U_(I:Inv X pz σ H s):∀x c,X.env.cells.lookup x=aa c->c≠X.env.locals:=fun x c e z=>by
 obtain⟨v,o,ho,hd⟩:=I.cell x c e
 obtain⟨m,⟨o',a,b,d,f,_⟩,_⟩:=I.loc
 lia
theorem Inv.BH(I:Inv X pz σ H s):s.heap.FunFrames X.base X.outer:=by
 have all:∀l,(∀b∈Oa l,b∈X.fs)->X.Cz.heap.FunFrames X.base l->s.heap.FunFrames X.base l:=by intro l;induction l with|nil=>intro _ _;trivial|cons env r f=>intro hs hl;obtain⟨hk,⟨L,o,a,hn,ho,hd⟩,g⟩:=hl;have c:=hs L (by unfold Oa;rw[ve,a];exact aT);obtain⟨h,e⟩:=I.base.slot L o ho (I.ok.ZN L c) c fun z=>I.ok.WN L z c;exact⟨hk,⟨L,_,a,hn,e,hd⟩,f (fun b d=>hs b (by unfold Oa;rw[ve,a];exact aO _ d)) g⟩
 exact all X.outer (fun _ d=>d) I.ok.BH
theorem Inv.stack(I:Inv X pz σ H s):s.heap.FunFrames X.base X.stack:=by
 rcases I.ok.stk with e|⟨e,a⟩
 .rw[e];exact I.BH
 .rw[e];obtain⟨m,hn,_⟩:=I.loc;refine .cons (by rw[I.ok.kind];decide) a hn ?_ I.BH;exact Heap.get?_none_of_le (bY I.ok.U9 I.ok.above)
theorem Inv.IF(I:Inv X pz σ H s):∀b∈Oa X.stack,b∈X.env.locals::X.fs:=fun b a=>by
 rcases I.ok.stk with e|⟨e,c⟩
 .rw[e] at a;exact aO _ a
 .rw[e] at a
  unfold Oa at a
  rw[ve,c] at a
  exact a
theorem Inv.Kt(I:Inv X pz σ H s):∀b∈Oa X.stack,H b=none:=fun b a=>by
 rcases aZ.mp (I.IF b a) with e|a
 .rw[e];exact I.free
 .obtain⟨_,o,ho,_⟩:=I.ok.BH.mem a
  exact I.base.free b o ho (I.ok.ZN b a) fun z=>I.ok.WN b z a
theorem Inv.step{ch:List Addr}(I:Inv X pz σ H s)
  (t:∀b∈ch,(b∈X.ex\/X.Cz.heap.objs.size<=b)/\b≠X.env.locals/\(∀x c,X.env.cells.lookup x=aa c->c≠b)/\∀p∈X.pn++pz,p.1≠b)
  (keep:∀b o,b≠X.env.locals->b∉X.fs->b∉ch->s.heap.get? b=aa o->H b=ae->h'.get? b=aa o)
  (slot:∀b o,b≠X.env.locals->b∈X.fs->b∉ch->s.heap.get? b=aa o->H b=ae->∃C,h'.get? b=aa {o with slots:=C}) (free:∀b o,b∉ch->s.heap.get? b=aa o->H b=ae->H' b=ae)
  (there:∀b o,b∉ch->s.heap.get? b=aa o->∃o',h'.get? b=aa o')
  (BE:∀b xs,H b=aa (.tup xs)->H' b=aa (.tup xs)) (zw:∀b o u,H b=aa (.N9 o u)->H' b=aa (.N9 o u)) (BG:∀b ps,H b=aa (.kX ps)->∃w,H' b=aa (.kX (ps++w)))
  (ns:∀m,s.heap.Ns X.env.locals m->h'.Ns X.env.locals m) (gT:vd X.prog X.w H' h') (hg:Iu g'):
  Inv X pz σ H' {s with heap:=h',gens:=g',drawn:=d',toks:=t'}:=by
 have y:∀b o,X.Cz.heap.get? b=aa o->b≠X.env.locals:=fun b o e=>b9 (bN (bD e) I.ok.above)
 have g:∀b o,X.Cz.heap.get? b=aa o->b∉X.ex->b∉ch:=fun b o e a j=>by
  rcases(t b j).1 with z|z
  .exact a z
  .exact az (bN (bD e) z) (c9 _)
 have f:∀x c,X.env.cells.lookup x=aa c->∀v,s.heap.IsCell c v->h'.IsCell c v:=fun x c e v ⟨o,ho,hd⟩=>by
  have A:=fun z=>(t c z).2.2.1 x c e Z
  by_cases F:c∈X.fs
  .obtain⟨C,q⟩:=slot c o (I.U_ x c e) F A ho (I.tW x c e)
   exact⟨_,q,hd⟩
  .exact⟨o,keep c o (I.U_ x c e) F A ho (I.tW x c e),hd⟩
 refine⟨I.ok,I.os,hg,⟨fun b o e n j a=> ?_,fun b o e n j a=> ?_,fun b o e n a=> ?_,fun b o e a=> ?_,fun b xs e=>BE b xs (I.base.BE b xs e),fun b o xs e=>zw b o xs (I.base.zw b o xs e),fun b ps e=> ?_⟩,?_,fun x c e=> ?_,?_,fun x c e=> ?_,fun p G=> ?_,gT,I.len⟩
 .exact keep b o (y b o e) j (g b o e a) (I.base.keep b o e n j a) (I.base.free b o e n a)
 .obtain⟨C,h⟩:=I.base.slot b o e n j a
  obtain⟨sl',B⟩:=slot b _ (y b o e) j (g b o e a) h (I.base.free b o e n a)
  exact⟨sl',B⟩
 .obtain⟨o',h⟩:=I.base.there b o e a
  exact free b o' (g b o e a) h (I.base.free b o e n a)
 .obtain⟨o',h⟩:=I.base.there b o e a
  exact there b o' (g b o e a) h
 .obtain⟨K,h⟩:=I.base.BG b ps e
  obtain⟨L,B⟩:=BG b _ h
  exact⟨K++L,by rw[B,Array.append_assoc]⟩
 .obtain⟨m,hn,hl⟩:=I.loc
  refine⟨m,ns m hn,fun i x v h B M=> ?_⟩
  obtain⟨u,r,l⟩:=hl i x v h B M
  refine⟨u,r,?_⟩
  rcases l with l|⟨k,c,e,z⟩
  .exact .inl l
  .exact .inr ⟨k,c,e,f x c e _ z⟩
 .obtain⟨v,z⟩:=I.cell x c e
  exact⟨v,f x c e v z⟩
 .obtain⟨m,⟨o,_,_,ho,_⟩,_⟩:=I.loc
  exact free _ o (fun z=>(t _ z).2.1 rfl) ho I.free
 .obtain⟨v,o,ho,hd⟩:=I.cell x c e
  exact free c o (fun z=>(t c z).2.2.1 x c e Z) ho (I.tW x c e)
 .obtain⟨e,n,ne,J,d⟩:=I.pin p G
  have A:=fun z=>(t p.1 z).2.2.2 p G Z
  exact⟨keep p.1 p.2 ne J A e n,free p.1 p.2 A e n,ne,J,d⟩
theorem Inv.un(I:Inv X pz σ H s)(u:Un X.fs [] H H' s.heap h')(gT:vd X.prog X.w H' h'):Inv X pz σ H' {s with heap:=h',toks:=t'}:=by obtain⟨m,⟨o,k,l,ho,r⟩,_⟩:=id I.loc;obtain⟨p,g⟩:=u.any ho I.free (by simp);exact I.step (g':=s.gens) (d':=s.drawn) (ch:=[]) (fun _ z=>nomatch z) (fun b o _ a _ e n=>u.keep b o e n a (by simp)) (fun b o _ a _ e n=>u.slot b o e n a (by simp)) (fun b o _ e n=>u.free b o e n (by simp)) (fun b o _ e=>u.there b o e (by simp)) u.BE u.zw u.BG (fun q h=>by obtain⟨o',i,c,f,j⟩:=h;rw[ho] at f;cases f;exact⟨_,i,c,g,j⟩) gT I.bare
theorem Inv.call(I:Inv X pz σ H s)(u:Un (Oa X.stack) ch H H' s.heap h')(gT:vd X.prog X.w H' h')(hg:Iu g')
  (g:∀b∈ch,(b∈X.ex\/X.Cz.heap.objs.size<=b)/\b≠X.env.locals/\(∀x c,X.env.cells.lookup x=aa c->c≠b)/\∀p∈X.pn++pz,p.1≠b):
  Inv X pz σ H' {s with heap:=h',gens:=g',drawn:=d',toks:=t'}:=by
 obtain⟨m,⟨o,t,v,ho,r⟩,_⟩:=id I.loc
 obtain⟨w,d⟩:=u.any ho I.free fun z=>(g _ z).2.1 rfl
 exact I.step g (fun b o d j a e n=>u.keep b o e n (fun z=>(aZ.mp (I.IF b z)).elim d j) a) (fun b o _ _ a e n=>u.any e n a) (fun b o a e n=>u.free b o e n a) (fun b o a e=>u.there b o e a) u.BE u.zw u.BG (fun y k=>by
  obtain⟨o',l,f,i,q⟩:=k
  rw[ho] at i;cases i
  exact⟨_,l,f,d,q⟩) gT hg
theorem Inv.turned(I:Inv X pz σ H s)(k:∀b o,b≠it->s.heap.get? b=aa o->h'.get? b=aa o)(hn:H it=ae)(d:it≠X.env.locals)
  (h1:it∈X.ex\/X.Cz.heap.objs.size<=it) (h2:∀x c,X.env.cells.lookup x=aa c->c≠it) (h:∀p∈X.pn++pz,p.1≠it):Inv X pz σ H {s with heap:=h',toks:=t'}:=by
 have g:∀b u,H b=aa u->b≠it:=fun b u e z=>by lia
 refine I.step (g':=s.gens) (d':=s.drawn) (ch:=[it]) (fun b i=> ?_) (fun b o _ _ a e _=>k b o (fun z=>a (by simp[z])) e) (fun b o _ _ a e _=>⟨o.slots,k b o (fun z=>a (by simp[z])) e⟩) (fun _ _ _ _ n=>n)
  (fun b o a e=>⟨o,k b o (fun z=>a (by simp[z])) e⟩) (fun _ _ e=>e) (fun _ _ _ e=>e) (fun b ps e=>⟨#[],by rw[e];simp⟩) (fun m j=> ?_) (fun b u e=> ?_) I.bare
 .have e:b=it:=by simpa using i
  subst e
  exact⟨h1,d,h2,h⟩
 .obtain⟨o,l,t,ho,r⟩:=j
  exact⟨o,l,t,k _ o (bF d) ho,r⟩
 .refine(I.gT b u e).BC (fun c v a q=>k c v ?_ q) (fun _ q=>q) fun _ _ q=>q
  rcases a with z|z
  .rw[z];exact g b u e
  .exact g c _ z
theorem Inv.tok(I:Inv X pz σ H s)(t:Nat):Inv X pz σ H {s with toks:=t}:=I.un (h':=s.heap) (t':=t) Un.refl I.gT
theorem Inv.kept(I:Inv X pz σ H s)(k:∀b u,s.heap.get? b=aa u->h'.get? b=aa u):Inv X pz σ H {s with heap:=h',toks:=t'}:=I.un (Un.kept k) (I.gT.kept k)
theorem Inv.laid{a:Addr}(I:Inv X pz σ H s)(k:∀b u,s.heap.get? b=aa u->h'.get? b=aa u)(c:s.heap.objs.size<=a)(new:ie X.prog X.w (upd H a o) h' a o):
  Inv X pz σ (upd H a o) {s with heap:=h',toks:=t'}:=I.un (Un.laid k c (I.gT.fresh c)) (I.gT.laid k c new)
theorem Inv.write(I:Inv X pz σ H s)(a:ZK (H x))(c:e=x\/H e=aa (.own x))(k:∀b u,b≠e->s.heap.get? b=aa u->h'.get? b=aa u)(d:∃u,h'.get? e=aa u)
  (new:ie X.prog X.w (upd H x o) h' x o):Inv X pz σ (upd H x o) {s with heap:=h',toks:=t'}:=I.un (Un.write a c k d) (I.gT.write a c k d new)
theorem Inv.weak(I:Inv X pz σ H s)(hl:j_.length=σ.length)(w:∀(i:Nat) v,j_[i]? =aa (aa v)->σ[i]? =aa (aa v)):Inv X pz j_ H s:=
 ⟨I.ok,I.os,I.bare,I.base,let ⟨m,hn,rp⟩:=I.loc;⟨m,hn,fun i x v a b c=>rp i x v a (w i v b) c⟩,I.cell,I.free,I.tW,I.pin,I.gT,hl.trans I.len⟩
theorem Inv.Ku(I:Inv X pz σ H s)(h:∀p∈pz',s.heap.get? p.1=aa p.2/\H p.1=ae/\p.1≠X.env.locals/\p.1∉X.fs/\∀v,p.2.data≠ .cell v):Inv X pz' σ H s:=
 ⟨I.ok,I.os,I.bare,I.base,I.loc,I.cell,I.free,I.tW,fun p a=>(cN.mp a).elim (fun z=>I.pin p (gQ _ z)) (h p),I.gT,I.len⟩
theorem zC{N:List Str}(hN:N.Nodup){i j:Nat}(a:N[i]? =aa x)(b:N[j]? =aa x):i=j:=by obtain⟨h1,c⟩:=aV.mp a;obtain⟨h2,d⟩:=aV.mp b;exact(List.getElem_inj hN).mp (c.trans d.symm)
theorem CD(I:Inv X pz σ H s)(hN:X.N.Nodup)(D:X.N[i]? =aa x)(t:Loc X.env.scope x)(r:RelV v u)
  (h:∀G,Inv X pz (σ.set i (aa v)) H G->(∃a,d6 a s.heap G.heap/\(a=X.env.locals\/X.env.cells.lookup x=aa a))->Q () G) (hf:X.fn x=af\/X.env.scope.names.lookup x=aa .local:=by first|exact .inl rfl|exact .inr rfl|assumption):bL M A (storeName X.env x u) Q E s:=by
 obtain⟨m,hn,hl⟩:=id I.loc
 have V:i<σ.length:=by rw[I.len];exact(aV.mp D).1
 have U_:=I.U_
 have f:∀{a:Addr} {h':Heap},(∃o,s.heap.get? a=aa o/\H a=ae)->d6 a s.heap h'->vd X.prog X.w H h':=fun{a h'} ha hs b ob e=>by
  obtain⟨_,_,W⟩:=ha
  refine(I.gT b ob e).BC (fun c J l q=>(hs.2 c ?_).trans q) (fun _ q=>q) fun _ _ q=>q
  rintro rfl
  rcases l with rfl|l
  .rw[W] at e;cases e
  .rw[W] at l;cases l
 rcases t with hk|hk
 .refine wpAny_storeName_local hk hn (fun h' WO hs=> ?_) (by rw[I.ok.kind];rfl)
  obtain⟨oL,_,_,ZQ,_⟩:=id hn
  refine h _ ⟨I.ok,I.os,I.bare,⟨fun b o e n B t=> ?_,fun b o e n B t=> ?_,I.base.free,fun b o e t=> ?_,I.base.BE,I.base.zw,I.base.BG⟩,⟨_,WO,fun j y K g w L=> ?_⟩,fun y c e=> ?_,I.free,I.tW,fun p N=> ?_,f ⟨oL,ZQ,I.free⟩ hs,by simpa using I.len⟩ ⟨_,hs, .inl rfl⟩
  .exact(hs.2 b (b9 (bN (bD e) I.ok.above))).trans (I.base.keep b o e n B t)
  .obtain⟨O,g⟩:=I.base.slot b o e n B t
   exact⟨O,(hs.2 b (b9 (bN (bD e) I.ok.above))).trans g⟩
  .obtain⟨o',g⟩:=I.base.there b o e t
   exact⟨o',(hs.2 b (b9 (bN (bD e) I.ok.above))).trans g⟩
  .by_cases C:j=i
   .subst C
    rw[D] at g;cases g
    rw[Iv V] at w
    cases w
    exact⟨u,r, .inl ⟨hk,by simp⟩⟩
   .rw[uh (bF C)] at w
    obtain⟨P,R,q⟩:=hl j y K g w L
    refine⟨P,R,?_⟩
    rcases q with⟨k,e⟩|⟨k,c,e,z⟩
    .refine .inl ⟨k,?_⟩
     have:y≠x:=fun e=>C (zC hN g (e▸D))
     simp[this,e]
    .exact .inr ⟨k,c,e,z.sameBut hs (U_ y c e)⟩
  .obtain⟨J,z⟩:=I.cell y c e
   exact⟨J,z.sameBut hs (U_ y c e)⟩
  .obtain⟨e,n,ne,S,d⟩:=I.pin p N
   exact⟨(hs.2 p.1 ne).trans e,n,ne,S,d⟩
 .have T:X.fn x=true:=by
   rcases hf with z|z
   .exact z
   .rw[z] at hk;cases hk
  obtain⟨c,l⟩:=I.ok.has x (.inl hk)
  obtain⟨J,z⟩:=I.cell x c l
  refine wpAny_storeName_cell I.ok.kind hk l z (fun h' Y hs=> ?_)
  obtain⟨oc,U,ado⟩:=id z
  refine h {s with heap:=h'} ⟨I.ok,I.os,I.bare,⟨fun b o e n B t=> ?_,fun b o e n B t=> ?_,I.base.free,fun b o e t=> ?_,I.base.BE,I.base.zw,I.base.BG⟩,⟨m,hn.sameBut hs (bF (U_ x c l)),fun j y K g w L=> ?_⟩,fun y F e=> ?_,I.free,I.tW,fun p N=> ?_,f ⟨oc,U,I.tW x c l⟩ hs,by simpa using I.len⟩ ⟨c,hs, .inr l⟩
  .exact(hs.2 b (b9 (bN (bD e) (I.ok.cab x c T l)))).trans (I.base.keep b o e n B t)
  .obtain⟨O,g⟩:=I.base.slot b o e n B t
   exact⟨O,(hs.2 b (b9 (bN (bD e) (I.ok.cab x c T l)))).trans g⟩
  .obtain⟨o',g⟩:=I.base.there b o e t
   exact⟨o',(hs.2 b (b9 (bN (bD e) (I.ok.cab x c T l)))).trans g⟩
  .by_cases C:j=i
   .subst C
    rw[D] at g;cases g
    rw[Iv V] at w
    cases w
    exact⟨u,r, .inr ⟨.inl hk,c,l,Y⟩⟩
   .rw[uh (bF C)] at w
    obtain⟨P,R,q⟩:=hl j y K g w L
    refine⟨P,R,?_⟩
    rcases q with q|⟨k,F,e,z'⟩
    .exact .inl q
    .refine .inr ⟨k,F,e,z'.sameBut hs ?_⟩
     rintro rfl
     exact C (zC hN g (I.ok.inj _ _ _ e l▸D))
  .by_cases Y5:F=c
   .subst Y5;exact⟨_,Y⟩
   .obtain⟨w2,z2⟩:=I.cell y F e
    exact⟨w2,z2.sameBut hs Y5⟩
  .obtain⟨e,n,ne,S,d⟩:=I.pin p N
   refine⟨(hs.2 p.1 ?_).trans e,n,ne,S,d⟩
   intro q
   simp_all
theorem zD(I:Inv X pz σ H s)(hN:X.N.Nodup)(b:X.N[i]? =aa x)(c:Loc X.env.scope x)(r:RelV v u)
  (h:∀a,Inv X pz (σ.set i (aa v)) H a->Q () a) (d:X.fn x=af\/X.env.scope.names.lookup x=aa .local:=by first|exact .inl rfl|exact .inr rfl|assumption):bL M A (storeName X.env x u) Q E s:=
 CD I hN b c r (fun a e _=>h a e) d
theorem Inv.Vc(I:Inv X pz σ H s)(ho:s'.os=s.os)(u:Un (Oa X.stack) ch H H' s.heap s'.heap)(gT:vd X.prog X.w H' s'.heap)(hg:Iu s'.gens)
  (a:∀b∈ch,(b∈X.ex\/X.Cz.heap.objs.size<=b)/\b≠X.env.locals/\(∀x c,X.env.cells.lookup x=aa c->c≠b)/\∀p∈X.pn++pz,p.1≠b):Inv X pz σ H' s':=by
 obtain⟨h',g',d',t',o'⟩:=s'
 subst ho
 exact I.call (g':=g') (t':=t') (d':=d') u gT hg a
end
abbrev St:=List (Option V)
abbrev VK:=V->Hp->Prop
abbrev TE:=St->Hp->VK->Prop
abbrev TT:=St->Hp->(Bool->Hp->Prop)->Prop
abbrev TA:=St->Hp->(List V->Hp->Prop)->Prop
structure Ends where
 nx:St->Hp->Prop
 rt:VK
 bk:St->Hp->Prop:=fun _ _=>False
 ct:St->Hp->Prop:=fun _ _=>False
abbrev TS:=Ends->St->Hp->Prop
inductive EP X pz(σ:St)(Q:VK) u s':Prop|mk:∀v H',(Inv X pz σ H' s')->(RelV v u)->(Q v H')->EP X pz σ Q u s'
inductive TP X pz(σ:St)(Q:Bool->Hp->Prop) b s':Prop|mk:∀H',(Inv X pz σ H' s')->(Q b H')->TP X pz σ Q b s'
inductive AP X pz(σ:St)(Q:List V->Hp->Prop) us s':Prop|mk:∀vs H',(Inv X pz σ H' s')->(Vals vs us)->(Q vs H')->AP X pz σ Q us s'
def SP(X:Cx)(pz:List (Addr×Obj))(D:Ends)(f:Flow)(b:bH):Prop:=
 match f with
 | .next=>∃a H',Inv X pz a H' b/\D.nx a H'
 | .brk=>∃a H',Inv X pz a H' b/\D.bk a H'
 | .cont=>∃a H',Inv X pz a H' b/\D.ct a H'
 | .ret u=>∃v a H',Inv X pz a H' b/\RelV v u/\D.rt v H'
def PE(X:Cx)(e:Expr)(t:TE):Prop:=
 ∀pz s (σ:St) H Q,Inv X pz σ H s->t σ H Q->bL (model X.prog X.w) X.A (eval e X.env) (EP X pz σ Q) NE s
def PT(X:Cx)(e:Expr)(t:TT):Prop:=
 ∀pz s (σ:St) H Q,Inv X pz σ H s->t σ H Q->bL (model X.prog X.w) X.A (isTrue e X.env (eval e X.env)) (TP X pz σ Q) NE s
def PW(X:Cx)(e:Expr)(t:TT):Prop:=
 ∀a pz s (σ:St) H Q,Inv X pz σ H s->t σ H Q->bL (model X.prog X.w) X.A (isTrue e X.env a) (TP X pz σ Q) NE s
theorem PW.pt(h:PW X e t):PT X e t:=h _
def PA(X:Cx)(b:List Expr)(t:TA):Prop:=
 ∀a pz s (σ:St) H Q,Inv X pz σ H s->t σ H Q->bL (model X.prog X.w) X.A (spliced (gA a (bV b X.env))) (AP X pz σ Q) NE s
def PS(X:Cx)(st:Stmt)(t:TS):Prop:=
 ∀pz s (σ:St) H D,Inv X pz σ H s->t D σ H->bL (model X.prog X.w) X.A (exec st X.env) (SP X pz D) NE s
def Sa(X:Cx)(st:List Stmt)(t:TS):Prop:=
 ∀pz s (σ:St) H D,Inv X pz σ H s->t D σ H->bL (model X.prog X.w) X.A (execs st X.env) (SP X pz D) NE s
theorem fX{b:Type}{t:Sem b}{Q c:b->bH->Prop}(h:bL M A t Q E s)(d:∀a s,Q a s->c a s):bL M A t c E s:=gZ h d fun _ _ x=>x
section
variable {X:Cx}
def oV(i:Nat)(σ:L2.St)(H:Hp)(Q:VK):Prop:=(σ[i]?.getD ae).elim False (Q · H)
theorem CG(h:σ[i]? =aa (aa v))(q:Q v H):oV i σ H Q:=by rwa [oV,h]
theorem FW(h:oV i σ H Q):∃v,σ[i]? =aa (aa v)/\Q v H:=by
 unfold oV at h
 cases e:σ[i]? with
 |none=>rw[e] at h;cases h
 |some o=>
  rw[e] at h
  cases o with
  |none=>cases h
  |some v=>exact⟨v,Z,h⟩
def tC(v:V):TE:=fun _ H Q=>Q v H
theorem WQ(hN:X.N[i]? =aa x)(hv:Vis X.env.scope x)(hd:(x==("__debug__":Str))=false:=by decide)(d:(x==("__classdict__":Str))=false:=by decide):PE X (.Name x pos) (oV i):=by
 intro pz s σ H Q I h;obtain⟨v,e,h⟩:=FW h;obtain⟨m,hn,hl⟩:=I.loc;obtain⟨u,r,l⟩:=hl i x v hN e hv;have fin:EP X pz σ Q u s:=⟨v,H,I,r,h⟩;rcases l with⟨hk,f⟩|⟨hk,c,a,b⟩
 .exact Bl (xF I.ok.kind hk hn f fin) hd
 .rcases hk with hk|hk
  .exact Bl (Wy I.ok.kind hk a b fin) hd
  .exact Bl (Wz I.ok.kind hk a b fin d) hd
theorem aY{i j pos}:PE X (.Constant (.int i) j pos) (tC (.int i)):=fun _ _ _ H _ I h=>Bm ⟨.int i,H,I.tok _,⟨_,Z⟩,h⟩
theorem mV{b j pos}:PE X (.Constant (.bool b) j pos) (tC (.bl b)):=fun _ _ _ H _ I h=>Constant_bool ⟨.bl b,H,I,Z,h⟩
theorem gU{x j pos}:PE X (.Constant (.str x) j pos) (tC (.str x)):=fun _ _ _ H _ I h=>Nu ⟨.str x,H,I.tok _,⟨_,Z⟩,h⟩
def Gl(X:Cx)(x:Str):Prop:=X.env.kindOf x=aa .globalImplicit
theorem vk{σ:St}(I:Inv X pz σ H s)(hg:Gl X x)(a:X.mg x=aa u)(h:Q u s)
  (hd:(x==("__debug__":Str))=false:=by decide):bL (model X.prog X.w) X.A (eval (.Name x pos) X.env) Q E s:=
 Cm I.ok.kind hg (Calls.loadGlobal_global (by rw[I.ok.glob];exact I.mod.glob.keeps I.bk) a h) hd
theorem kE{σ:St}(I:Inv X pz σ H s)(hg:Gl X x)(a:X.mg x=ae)(hv:uX x=aa u)(h:Q u s)
  (hn:x≠"__name__":=by decide) (hd:(x==("__debug__":Str))=false:=by decide):bL (model X.prog X.w) X.A (eval (.Name x pos) X.env) Q E s:=by
 obtain⟨b,h1,h2⟩:=I.mod.blt
 exact Cm I.ok.kind hg (Calls.loadGlobal_builtin (by rw[I.ok.glob];exact I.mod.glob.keeps I.bk) a (by rw[I.ok.blt];exact h1.keeps I.bk) ((h2 x hn).trans hv) h) hd
theorem D0(hg:Gl X x)(a:X.mg x=aa u)(r:RelV v u)(hd:(x==("__debug__":Str))=false:=by decide):PE X (.Name x pos) (tC v):=
 fun _ _ _ H _ I h=>vk I hg a ⟨v,H,I,r,h⟩ hd
variable {a b:Expr} {ta tb:TE} {pos:Pos}
def PC(X:Cx)(op:CmpOp)(a b:Expr)(t:TE):Prop:=
 ∀pz s (σ:St) H Q,Inv X pz σ H s->t σ H Q->
  bL (model X.prog X.w) X.A (eval a X.env) (fun v c=>bL (model X.prog X.w) X.A (eval b X.env) (fun u d=>bL (model X.prog X.w) X.A (compareOp op v u) (EP X pz σ Q) NE d) NE c) NE s
theorem Ob(b:Expr)(h:op≠ .In)(h2:op≠ .NotIn):lT op b=false:=by
 have a:(op==CmpOp.In)=false:=by cases op<;>first|rfl|exact az Z h
 have c:(op==CmpOp.NotIn)=false:=by cases op<;>first|rfl|exact az Z h2
 cases b<;>simp[lT,a,c]
def ab8(ta:TE):TE:=fun σ H Q=>ta σ H fun x H1=>Q (.bl (ah (x= .rH))) H1
theorem RelV.Oc(r:RelV x v):(v==bj.none)=ah (x= .rH):=by cases x with|rH=>subst r;rfl|bl _=>subst r;rfl|int _=>obtain⟨t,rfl⟩:=r;rfl|str _=>obtain⟨t,rfl⟩:=r;rfl|ref _=>subst r;rfl
theorem WR{j pos'}(b:PE X a ta):PC X .Is a (.Constant .none j pos') (ab8 ta):=by intro pz s σ H Q I h;refine fX (b pz s σ H _ I h) ?_;rintro v f ⟨x,H1,c,d,e⟩;exact Constant_none (is_none_gen ⟨.bl _,H1,c,by rw[d.Oc];rfl,e⟩)
inductive tBE(Q:Bool->Hp->Prop)(x:V) H1:Prop|mk:∀c,(x= .bl c)->(Q c H1)->tBE Q x H1
def tB(t:TE):TT:=fun σ H Q=>t σ H fun x H1=>tBE Q x H1
theorem Od(h:PC X op a b t)(h1:lT op b=false:=by first|exact Ob _ (by decide) (by decide)|rfl):PT X (.Compare a [op] [b] pos) (tB t):=by intro pz s σ H Q I hw;refine SA (fX (h pz s σ H _ I hw) fun v i h1=>fX h1 fun u j h2=>fX h2 fun c k ⟨x,H1,e,f,g⟩=> ?_) h1;obtain⟨d,rfl,q⟩:=g;subst f;exact eJ ⟨H1,e,q⟩
theorem jv(h:PE X e t)(b:∀a,isTrue e X.env a=(do let v<-a;uY e.pos;holding [v] (truthy v)):=by intro _;rfl):PT X e (tB t):=by intro pz s σ H Q I hw;refine isTrue_plain (fX (h pz s σ H _ I hw) fun v i ⟨x,H1,c,f,g⟩=> ?_) (b _);obtain⟨d,rfl,q⟩:=g;subst f;exact eJ ⟨H1,c,q⟩
variable {tA tB':TT} {rest:List Expr}
def Oe(t u:TT):TT:=fun σ H Q=>t σ H fun c H1=>if c=af then u σ H1 Q else Q ag H1
def tOr(t u:TT):TT:=fun σ H Q=>t σ H fun c H1=>if c=af then Q af H1 else u σ H1 Q
def Mc(t:TT):TT:=fun σ H Q=>t σ H fun c H1=>Q (!c) H1
theorem lC(b:PT X a tA):PW X (.BoolOp .And [a] pos) tA:=by intro d pz s σ H Q I h;refine isTrue_and (fX (b pz s σ H Q I h) fun c f e=> ?_);cases c with|true=>exact isTrue_and_nil e|false=>exact e
theorem uo(b:PT X a tA):PW X (.BoolOp .Or [a] pos) tA:=by intro d pz s σ H Q I h;refine isTrue_or (fX (b pz s σ H Q I h) fun c f e=> ?_);cases c with|false=>exact isTrue_or_nil e|true=>exact e
theorem nF(f:PT X a tA)(g:PW X (.BoolOp .And (b::rest) pos) tB'):PW X (.BoolOp .And (a::b::rest) pos) (Oe tA tB'):=by intro i pz s σ H Q I h;refine isTrue_and (fX (f pz s σ H _ I h) ?_);rintro c j ⟨H1,d,e⟩;cases c with|true=>exact g i pz j σ H1 Q d e|false=>exact⟨H1,d,e⟩
theorem xQ(f:PT X a tA)(g:PW X (.BoolOp .Or (b::rest) pos) tB'):PW X (.BoolOp .Or (a::b::rest) pos) (tOr tA tB'):=by intro i pz s σ H Q I h;refine isTrue_or (fX (f pz s σ H _ I h) ?_);rintro c j ⟨H1,d,e⟩;cases c with|true=>exact⟨H1,d,e⟩|false=>exact g i pz j σ H1 Q d e
theorem gV(b:PT X a tA):PT X (.UnaryOp .Not a pos) (Mc tA):=by intro pz s σ H Q I h;exact isTrue_not (fX (b pz s σ H (fun c H1=>Q (!c) H1) I h) (by rintro c f ⟨H1,d,e⟩;exact⟨H1,d,e⟩))
inductive Of(tb:TE) σ Q(x:V) H1:Prop|mk:∀c,(x= .bl c)->(if c=af then tb σ H1 Q else Q (.bl ag) H1)->Of tb σ Q x H1
def Og(ta tb:TE):TE:=fun σ H Q=>ta σ H fun x H1=>Of tb σ Q x H1
inductive Vd(tb:TE) σ Q(x:V) H1:Prop|mk:∀c,(x= .bl c)->(if c=af then Q (.bl af) H1 else tb σ H1 Q)->Vd tb σ Q x H1
def ab9(ta tb:TE):TE:=fun σ H Q=>ta σ H fun x H1=>Vd tb σ Q x H1
inductive Oh(Q:VK)(x:V) H1:Prop|mk:∀c,(x= .bl c)->(Q (.bl (!c)) H1)->Oh Q x H1
def Ve(ta:TE):TE:=fun σ H Q=>ta σ H fun x H1=>Oh Q x H1
theorem zE{op}(h:PE X a t):PE X (.BoolOp op [a] pos) t:=fun pz s σ H Q I hw=>BoolOp_one (h pz s σ H Q I hw)
theorem D7(f:PE X a ta)(g:PE X (.BoolOp .And (b::rest) pos) tb):PE X (.BoolOp .And (a::b::rest) pos) (Og ta tb):=by intro pz s σ H Q I h;refine BoolOp_and (fX (f pz s σ H _ I h) ?_);rintro v i ⟨x,H1,e,j,d⟩;obtain⟨c,rfl,d⟩:=d;subst j;refine eJ ?_;cases c with|true=>exact g pz i σ H1 Q e d|false=>exact⟨.bl ag,H1,e,Z,d⟩
theorem Vf(f:PE X a ta)(g:PE X (.BoolOp .Or (b::rest) pos) tb):PE X (.BoolOp .Or (a::b::rest) pos) (ab9 ta tb):=by intro pz s σ H Q I h;refine BoolOp_or (fX (f pz s σ H _ I h) ?_);rintro v i ⟨x,H1,e,j,d⟩;obtain⟨c,rfl,d⟩:=d;subst j;refine eJ ?_;cases c with|false=>exact g pz i σ H1 Q e d|true=>exact⟨.bl af,H1,e,Z,d⟩
theorem WT(d:PE X a ta):PE X (.UnaryOp .Not a pos) (Ve ta):=by intro pz s σ H Q I h;refine UnaryOp_ (fX (d pz s σ H _ I h) ?_);rintro v g ⟨x,H1,e,f,b⟩;obtain⟨c,rfl,b⟩:=b;subst f;exact not_of (eJ ⟨.bl (!c),H1,e,Z,b⟩)
def tIf(t:TT)(ta tb:TE):TE:=fun σ H Q=>t σ H fun c H1=>if c=af then ta σ H1 Q else tb σ H1 Q
theorem FX(i:PT X c tA)(j:PE X a ta)(k:PE X b tb):PE X (.IfExp c a b pos) (tIf tA ta tb):=by intro pz s σ H Q I h;refine wpAny_IfExp (fX (i pz s σ H _ I h) ?_);rintro d e ⟨H1,f,g⟩;cases d with|true=>exact j pz e σ H1 Q f g|false=>exact k pz e σ H1 Q f g
end
def jD(K:aM)(H:Hp)(a:Addr)(xs:List V):Prop:=
 Rd H a (.lst xs)\/
  ∃o its n,K.lookup a=aa o/\o.cls= .type "list"/\o.dict=ae/\o.data= .seq its n/\its.size<=br/\Vals xs its.toList
def oW(K:aM)(H:Hp)(a:Addr)(xs:List V):Prop:=
 Rd H a (.tup xs)\/
  ∃o its n,K.lookup a=aa o/\o.cls= .type "tuple"/\o.data= .seq its n/\its.size<=br/\Vals xs its.toList
def ab_:bj->Option V| .none=>aa .rH| .bool b=>aa (.bl b)| .int i _=>aa (.int i)| .str x _=>aa (.str x)| .ref a=>aa (.ref a)|_=>ae
theorem RelV.abs(r:RelV x u):ab_ u=aa x:=by cases x with|rH=>subst r;rfl|bl _=>subst r;rfl|int _=>obtain⟨t,rfl⟩:=r;rfl|str _=>obtain⟨t,rfl⟩:=r;rfl|ref _=>subst r;rfl
theorem RelV.inj(r:RelV x u)(q:RelV y u):x=y:=aW (r.abs.symm.trans q.abs)
theorem Vals.inj:∀{xs ys:List V} {a:List bj},Vals xs a->Vals ys a->xs=ys|_,_,_, .nil, .nil=>rfl|_,_,_, .cons r t, .cons b t'=>by rw[r.inj b,Vals.inj t t']
section
variable {X:Cx} {pz:List (Addr×Obj)} {σ:St} {H:Hp} {s:bH} {a:Addr} {xs ys:List V}
theorem jD.of{K:aM}(h:H a=aa (.lst xs)):jD K H a xs:= .inl (.inl h)
theorem oW.of{K:aM}(h:H a=aa (.tup xs)):oW K H a xs:= .inl (.inl h)
theorem Inv.list(I:Inv X pz σ H s)(h:jD X.K H a xs):∃its:List bj,Vals xs its/\PlainL s.heap a its.toArray/\xs.length<=br:=by
 rcases h with h|⟨o,its,n,hk,b,hd,hs,c,r⟩
 .obtain⟨z,its,n,r,e⟩:=h.ok I.gT;exact⟨its,r,⟨_,n,e,Z,Z,Z⟩,z⟩
 .refine⟨its.toList,r,⟨o,n,I.BI a o hk,b,hd,by exact hs⟩,?_⟩;have e:=r.length;simp only[bO] at e;lia
theorem Inv.tuple(I:Inv X pz σ H s)(h:oW X.K H a xs):∃its:List bj,Vals xs its/\IsTup s.heap a its.toArray/\xs.length<=br:=by
 rcases h with h|⟨o,its,n,hk,b,hs,c,r⟩
 .obtain⟨z,its,r,p⟩:=h.ok I.gT;exact⟨its,r,p,z⟩
 .refine⟨its.toList,r,⟨o,I.BI a o hk,b,n,by exact hs⟩,?_⟩;have e:=r.length;simp only[bO] at e;lia
theorem Inv.vm(I:Inv X pz σ H s)(h:jD X.K H a xs)(h':jD X.K H a ys):xs=ys:=by
 obtain⟨its,r,⟨o,n,e,_,_,d⟩,_⟩:=I.list h;obtain⟨its',c,⟨o',g,b,_,_,d'⟩,_⟩:=I.list h';rw[e] at b;cases b;rw[d] at d';injection d' with f _;have:its=its':=by exact congrArg YM f
 subst this;exact r.inj c
theorem Inv.Md(I:Inv X pz σ H s)(h:oW X.K H a xs)(h':oW X.K H a ys):xs=ys:=by
 obtain⟨its,r,⟨o,e,_,n,d⟩,_⟩:=I.tuple h;obtain⟨its',c,⟨o',b,_,g,d'⟩,_⟩:=I.tuple h';rw[e] at b;cases b;rw[d] at d';injection d' with f _;have:its=its':=by exact congrArg YM f
 subst this;exact r.inj c
end
section
variable {X:Cx} {st:Stmt} {rest:List Stmt} {t u:TS} {e:Expr} {te:TE} {pos:Pos}
def FY:TS:=fun D σ H=>D.nx σ H
def uq(t u:TS):TS:=fun D σ H=>t {D with nx:=u D} σ H
theorem ck:Sa X [] FY:=fun _ _ σ H _ I h=>vf ⟨σ,H,I,h⟩
theorem aI(h1:PS X st t)(h2:Sa X rest u):Sa X (st::rest) (uq t u):=by intro pz s σ H D I h;refine wpAny_execs_cons (fX (h1 pz s σ H {D with nx:=u D} I h) fun f a q=> ?_);cases f with|next=>obtain⟨b,H',c,q⟩:=q;exact h2 pz a b H' D c q|ret v=>exact q|brk=>exact q|cont=>exact q
theorem b6(h1:PS X st t):Sa X [st] t:=by intro pz s σ H D I h;refine wpAny_execs_cons (fX (h1 pz s σ H D I h) fun f a q=> ?_);cases f with|next=>exact vf q|ret v=>exact q|brk=>exact q|cont=>exact q
def WU:TS:=fun D σ H=>D.bk σ H
def ZS:TS:=fun D σ H=>D.ct σ H
theorem FZ:PS X (.Break pos) WU:=fun _ _ σ H _ I h=>wpAny_Break ⟨σ,H,I,h⟩
theorem F0:PS X (.Continue pos) ZS:=fun _ _ σ H _ I h=>wpAny_Continue ⟨σ,H,I,h⟩
theorem Inv.quiet{σ:St}(I:Inv X pz σ H s):interactive X.env=false:=by simp[interactive,I.ok.kind]
def ZT(te:TE):TS:=fun D σ H=>te σ H fun _ H1=>D.nx σ H1
theorem cQ(a:PE X e te)(hs:yl e ae pos.line X.env=pure false:=by rfl):PS X (.Expr e pos) (ZT te):=by intro pz s σ H D I h;exact wpAny_Expr_any (fX (a pz s σ H _ I h) (by rintro v d ⟨x,H1,b,f,c⟩;exact⟨σ,H1,b,c⟩)) I.quiet hs
def WV(te:TE):TS:=fun D σ H=>te σ H D.rt
theorem WW(a:PE X e te):PS X (.Return (aa e) pos) (WV te):=by intro pz s σ H D I h;exact wpAny_Return_some (fX (a pz s σ H _ I h) (by rintro v f ⟨x,H1,b,c,d⟩;exact⟨x,σ,H1,b,c,d⟩))
def Me(c:TT)(t u:TS):TS:=fun D σ H=>c σ H fun b H1=>if b=af then t D σ H1 else u D σ H1
theorem da(i:PT X c tc)(j:Sa X a t)(k:Sa X b u):PS X (.If c a b pos) (Me tc t u):=by intro pz s σ H D I h;refine wpAny_If (fX (i pz s σ H _ I h) ?_);rintro d e ⟨H1,f,g⟩;cases d with|true=>exact j pz e σ H1 D f g|false=>exact k pz e σ H1 D f g
end
abbrev TG:=V->St->Hp->(St->Hp->Prop)->Prop
abbrev TGs:=List V->St->Hp->(St->Hp->Prop)->Prop
def PG(X:Cx)(a:Expr)(t:TG):Prop:=
 ∀pz s (σ:St) H v u Q,Inv X pz σ H s->RelV v u->t v σ H Q->
  bL (model X.prog X.w) X.A (assign a X.env u) (fun _ c=>∃b H',Inv X pz b H' c/\Q b H') NE s
def ZU(X:Cx)(b:List Expr)(t:TGs):Prop:=
 ∀pz s (σ:St) H vs us Q,Inv X pz σ H s->Vals vs us->t vs σ H Q->
  bL (model X.prog X.w) X.A (assignInOrder ((nU b X.env).map (·.2)) us) (fun _ c=>∃a H',Inv X pz a H' c/\Q a H') NE s
abbrev vn:=V->V->V->Hp->(Hp->Prop)->Prop
def ZV(X:Cx)(t:vn):Prop:=
 ∀pz s (σ:St) H (o i v) (ov iv u) Q,Inv X pz σ H s->RelV o ov->RelV i iv->RelV v u->t o i v H Q->
  bL (model X.prog X.w) X.A (setItem ov iv u) (fun _ a=>∃H',Inv X pz σ H' a/\Q H') NE s
abbrev TIp:=V->V->Hp->VK->Prop
def PIp(X:Cx)(op:Operator)(t:TIp):Prop:=
 ∀pz s (σ:St) H (x y) (v u) Q,Inv X pz σ H s->RelV x v->RelV y u->t x y H Q->
  bL (model X.prog X.w) X.A (inplaceOp op v u) (EP X pz σ Q) NE s
section
variable {X:Cx} {pos:Pos}
def pF(i:Nat):TG:=fun v σ H Q=>Q (σ.set i (aa v)) H
theorem cJ(i:Nat)(hN:X.N.Nodup:=by assumption)(a:X.N[i]? =aa x:=by rfl)(b:Loc X.env.scope x:=by first|exact .inl rfl|exact .inr rfl)(c:X.fn x=af\/X.env.scope.names.lookup x=aa .local:=by first|exact .inl rfl|exact .inr rfl|assumption):PG X (.Name x pos) (pF i):=by intro pz s σ H v u Q I r h;exact Zu (zD I hN a b r (fun e d=>⟨_,H,d,h⟩) c)
def aca:TGs:=fun vs σ H Q=>vs=[]/\Q σ H
inductive Vg(t:TG)(u:TGs) vs σ H Q:Prop|mk:∀v r,(vs=v::r)->(t v σ H fun j_ H'=>u r j_ H' Q)->Vg t u vs σ H Q
theorem vo:ZU X [] aca:=by
 intro pz s σ H vs a Q I r h;obtain⟨e,h⟩:=h;subst e;cases r
 exact assignInOrder_nil ⟨σ,H,I,h⟩
theorem kK(h1:PG X e t)(h2:ZU X es u)
  (hs:(nU (e::es) X.env).map (·.2)=assign e X.env::(nU es X.env).map (·.2):=by rfl):ZU X (e::es) (Vg t u):=by
 intro pz s σ H vs g Q I r h
 obtain⟨v,i,a,h⟩:=h
 subst a
 cases r with
 |cons r rr=>
  exact hs▸(assignInOrder_cons (fX (h1 pz s σ H _ _ _ I r h) (by rintro _ b ⟨c,H1,d,f⟩;exact h2 pz b c H1 _ _ Q d rr f)))
inductive WX K n(t:TGs)(v:V) σ H Q:Prop|mk:∀a xs,(v= .ref a)->(oW K H a xs)->(xs.length=n)->(t xs σ H Q)->WX K n t v σ H Q
theorem D8(d:X.calm=af)(h:ZU X es t)
  (hn:(nU es X.env).length=n:=by rfl) (f:(nU es X.env).findIdx? (·.1)=none:=by rfl):PG X (.Tuple es k pos) (WX X.K n t):=by
 intro pz s σ H v u Q I r hw
 obtain⟨a,xs,g,i,hl,hw⟩:=hw
 subst g
 subst r
 obtain⟨its,c,j,m⟩:=I.tuple i
 refine assign_Tuple_tuple (I.ok.hd d) j (by simp[hn,<-hl,c.length]) f fun h' l=> ?_
 exact h pz _ σ H xs _ Q (I.kept (t':=s.toks) fun b o e=>l b o (b9 (bD e)) e) (by exact c) hw
def acb(to ti:TE)(t:vn):TG:=fun v σ H Q=>to σ H fun o H1=>ti σ H1 fun i H2=>t o i v H2 fun a=>Q σ a
theorem Oi(ho:PE X o to)(b:PE X i ti)(hs:ZV X t)
  (c:∀v,assign (.Subscript o i pos) X.env v=(do
   let a<-holding [v] (eval o X.env)
   let iv<-holding [v,a] (eval i X.env)
   uY pos
   holding [v,a,iv] (setItem a iv v)
   release [v,a,iv] []):=by intro _;rfl):PG X (.Subscript o i pos) (acb to ti t):=by
 intro pz s σ H v u Q I r h
 rw[c]
 exact aF (d4 (fX (ho pz s σ H _ I h) (by rintro a d ⟨x,H1,e,f,g⟩;exact aF (d4 (fX (b pz d σ H1 _ e g) fun iv j ⟨y,H2,k,l,m⟩=>aF (zo (aF (d4 (fX (hs pz j σ H2 x y v a iv u _ k f l r m) fun _ w ⟨n,p,q⟩=>wpAny_release ⟨σ,n,p,q⟩)))))))))
def IG(te:TE)(g:TG):TS:=fun D σ H=>te σ H fun x H1=>g x σ H1 D.nx
theorem Oj(a:PE X e te)(hg:PG X tg g)(hs:swapsWithSole [tg] e pos.line X.env=pure false:=by rfl)(hw:swappedStores [tg] e X.env=pure none:=by rfl)
  (h1:(nU [tg] X.env).map (·.2)=[assign tg X.env]:=by rfl):PS X (.Assign [tg] e pos) (IG te g):=by
 intro pz s σ H D I h
 refine wpAny_Assign_stores (fX (a pz s σ H _ I h) fun v b ⟨x,H1,c,d,f⟩=> ?_) hs hw
 exact h1▸(fX (hg pz b σ H1 x v _ c d f) fun _ i q=>q)
theorem bB(i:Nat)(a:PE X e te)(hN:X.N.Nodup:=by assumption)(b:X.N[i]? =aa x:=by rfl)(c:Loc X.env.scope x:=by first|exact .inl rfl|exact .inr rfl)(hs:yl e (aa (.Name x pos')) pos.line X.env=pure false:=by rfl)(d:X.fn x=af\/X.env.scope.names.lookup x=aa .local:=by first|exact .inl rfl|exact .inr rfl|assumption):
  PS X (.Assign [.Name x pos'] e pos) (IG te (pF i)):=by
 intro pz s σ H D I h
 exact wpAny_Assign_Name (fX (a pz s σ H _ I h) (by rintro v l ⟨y,H1,f,g,j⟩;exact zD f hN b c g (fun m k=>⟨_,H1,k,j⟩) d)) hs
inductive ZW i(te:TE)(ti:TIp)(D:Ends) σ H:Prop|mk:∀x,(σ[i]? =aa (aa x))->(te σ H fun y H1=>ti x y H1 fun z H2=>D.nx (σ.set i (aa z)) H2)->ZW i te ti D σ H
theorem ur(i:Nat)(d:PE X e te)(ho:PIp X op ti)(hN:X.N.Nodup:=by assumption)(b:X.N[i]? =aa x:=by rfl)(a:Loc X.env.scope x:=by first|exact .inl rfl|exact .inr rfl)(f:X.fn x=af\/X.env.scope.names.lookup x=aa .local:=by first|exact .inl rfl|exact .inr rfl|assumption):
  PS X (.AugAssign (.Name x pos') op e pos) (ZW i te ti):=by
 intro pz s σ H D I h
 obtain⟨v,g,h⟩:=h
 obtain⟨m,hn,hl⟩:=I.loc
 obtain⟨u,r,l⟩:=hl i x v b g (by rcases a with k|k;exact .inl k;exact .inr (.inl k))
 refine wpAny_AugAssign_Name ?_
 have go:bL (model X.prog X.w) X.A (eval e X.env) (fun w j=>bL (model X.prog X.w) X.A (inplaceOp op u w) (fun r n=>bL (model X.prog X.w) X.A (storeName X.env x r) (fun _=>SP X pz D .next) NE n) NE j) NE s:=by
  exact fX (d pz s σ H _ I h) (by rintro w o ⟨y,H1,p,q,t⟩;exact fX (ho pz o σ H1 v y u w _ p r q t) fun z K ⟨L,H2,A,B,C⟩=>zD A hN b a B (fun M E=>⟨_,H2,E,C⟩) f)
 rcases l with⟨hk,F⟩|⟨hk,c,G,J⟩
 .exact xF I.ok.kind hk hn F go
 .rcases hk with hk|hk
  .exact Wy I.ok.kind hk G J go
  .rcases a with k|k
   .have:X.env.scope.names.lookup x=aa .free:=hk
    rw[k] at this;cases this
   .have:X.env.scope.names.lookup x=aa .free:=hk
    rw[k] at this;cases this
inductive ipI(f:Int->Int->Int)(x:V)(y:V) H(Q:VK):Prop|mk:∀i j,(x= .int i)->(y= .int j)->(Q (.int (f i j)) H)->ipI f x y H Q
theorem wL:PIp X .Add (ipI fun i j=>i+j):=by intro pz s σ H x y v u Q I a b h;obtain⟨i,j,c,d,q⟩:=h;subst c;subst d;obtain⟨t,rfl⟩:=a;obtain⟨t',rfl⟩:=b;exact iadd_int ⟨.int _,H,I.tok _,⟨_,Z⟩,q⟩
theorem WY:PIp X .Sub (ipI fun i j=>i-j):=by intro pz s σ H x y v u Q I a b h;obtain⟨i,j,c,d,q⟩:=h;subst c;subst d;obtain⟨t,rfl⟩:=a;obtain⟨t',rfl⟩:=b;exact isub_int ⟨.int _,H,I.tok _,⟨_,Z⟩,q⟩
end
section
variable {X:Cx} {pos:Pos}
def Ol(c:TT)(tb:TS):TS:=fun D σ H=>∃W:Nat->St->Hp->Prop,(∃m,W m σ H)/\∀m σ H,W m σ H->
 c σ H fun b H1=>if b=af then∃N,(∀a H',N a H'->∃d,d<m/\W d a H')/\tb {D with nx:=N,ct:=N,bk:=D.nx} σ H1 else D.nx σ H1
theorem lD(p:PassesOwn (model X.prog X.w) X.A X.env NE)(t:PT X c tc)(u:Sa X body tb):PS X (.While c body [] pos) (Ol tc tb):=by
 intro pz s σ H D I h;obtain⟨W,⟨w,x⟩,turn⟩:=h;refine wpAny_While (codeAny_whileLoop (fun n y=>∃q H',Inv X pz q H' y/\W n q H') ?_ w ⟨σ,H,I,x⟩);rintro n z ⟨e,H1,A,w1⟩;refine kq p (fX (t pz z e H1 _ A (turn n e H1 w1)) ?_);rintro b B ⟨H2,r,g⟩
 cases b with
 |true=>obtain⟨N,hN,g⟩:=g;dsimp only[ai Z];refine kq p (fX (u pz B e H2 _ r g) fun f C i=> ?_);cases f with|next=>obtain⟨a,d,j,k⟩:=i;obtain⟨l,m,o⟩:=hN a d k;exact⟨l,m,a,d,j,o⟩|cont=>obtain⟨a,d,j,k⟩:=i;obtain⟨l,m,o⟩:=hN a d k;exact⟨l,m,a,d,j,o⟩|brk=>exact i|ret v=>exact i
 |false=>dsimp only[ak fQ];exact vf ⟨e,H2,r,g⟩
end
structure It where
 go:Nat->Hp->Prop
 Mf:Nat->Hp->V->Hp->Prop
 stop:Nat->Hp->Prop
def yu(X:Cx)(pz:List (Addr×Obj))(H:Hp)(b:Addr):Prop:=
 H b=ae/\b≠X.env.locals/\b∉X.fs/\(b∈X.ex\/X.Cz.heap.objs.size<=b)/\(∀x c,X.env.cells.lookup x=aa c->c≠b)/\∀p∈X.pn++pz,p.1≠b
theorem Inv.IH{σ:St}{b:Addr}(I:Inv X pz σ H s)(a:s.heap.objs.size<=b)(hn:H' b=ae):yu X pz H' b:=by
 refine⟨hn,gN (bN I.lt a),I.ab7 a, .inr (bY I.sz a),fun x c e z=> ?_,fun p d z=> ?_⟩
 .obtain⟨v,q⟩:=I.cell x c e;exact az (bN q.lt (by simp_all)) (c9 _)
 .exact az (bN (bD (I.pin p d).1) (by simp_all)) (c9 _)
structure Turn P w K tg(J:It)(fp:List Addr) it(tn:Nat->Heap->Prop):Prop where
 mem:it∈fp
 obj:∀i h,tn i h->∀b∈fp,∃o,h.get? b=aa o/\∀v,o.data≠ .cell v
 keep:∀i h h',tn i h->(∀b∈fp,∀o,h.get? b=aa o->h'.get? b=aa o)->tn i h'
 item:∀X,X.prog=P->X.w=w->X.K=K->X.calm=af->∀i pz s (σ:St) H E,Inv X pz σ H s->(∀b∈fp,yu X pz H b)->tn i s.heap->J.go i H->
  bL (model P w) X.A (pyNext (.ref it)) (fun r s1=>∃u,r=aa u/\
   bL (model P w) X.A (Ii tg (.ref it) u) (fun _ s2=>∃x H',Inv X pz σ H' s2/\RelV x u/\J.Mf i H x H'/\tn (i+1) s2.heap/\∀b∈fp,H' b=ae) E s1) E s
 done:∀X,X.prog=P->X.w=w->X.K=K->X.calm=af->∀i pz s (σ:St) H E,Inv X pz σ H s->(∀b∈fp,yu X pz H b)->tn i s.heap->J.stop i H->
  bL (model P w) X.A (pyNext (.ref it)) (fun r s1=>r=ae/\Inv X pz σ H s1) E s
 self:∀A i s Q E,tn i s.heap->Q (.ref it) s->bL (model P w) A (pyIter (.ref it)) Q E s
abbrev TI:=St->Hp->(It->Hp->Prop)->Prop
inductive PIE X pz(σ:St) tg(R:It->Hp->Prop)(itv:bj) s2:Prop|mk:∀it fp tn J H',(itv= .ref it)->(Inv X pz σ H' s2)->(Turn X.prog X.w X.K tg J fp it tn)->(tn 0 s2.heap)->((∀b∈fp,yu X pz H' b))->(R J H')->PIE X pz σ tg R itv s2
def PI(X:Cx)(b a:Expr)(c:TI):Prop:=
 ∀pz s (σ:St) H R,Inv X pz σ H s->c σ H R->
  bL (model X.prog X.w) X.A (eval a X.env) (fun v d=>bL (model X.prog X.w) X.A (pyIter v) (PIE X pz σ b R) NE d) NE s
theorem Oq(ho:s.heap.get? it=aa o)(b:o.cls= .type n)(hd:o.data= .fields vs)
  (hn:["enumerate","zip","dict_itemiterator","dict_reverseitemiterator","odict_iterator","itertools.zip_longest","itertools.pairwise"].contains n=ag) (a:Q () s):bL M A (Ii tg (.ref it) u) Q E s:=by
 cases tg<;>first
  |exact aU a
  |(cases u<;>first
    |exact aU a
    |(refine aF (uZ ho ?_)
      rw[b,hd]
      show bL M A (if(["enumerate","zip","dict_itemiterator","dict_reverseitemiterator","odict_iterator","itertools.zip_longest","itertools.pairwise"].contains n&&vs[0]? ==aa (f9 _))=af then _ else _) Q E s
      rw[ak (by intro h;rw[hn,eR] at h;cases h)]
      exact aU a))
def Vh(K:aM)(a:Addr):It:=
 ⟨fun i H=>∃xs x,jD K H a xs/\xs[i]? =aa x,fun i H x H'=>H'=H/\∀xs,jD K H a xs->xs[i]? =aa x,fun i H=>∃xs,jD K H a xs/\xs.length<=i⟩
def Sd(lo:Int)(n:Nat):It:=⟨fun i _=>i<n,fun i H x H'=>H'=H/\x= .int (lo+i),fun i _=>n<=i⟩
theorem Mg{K:aM}(a f:Addr):Turn P w K tg (Vh K a) [f] f (fun i h=>h.IsListIter f a i) where
 mem:=by simp
 obj:=fun i h st b g=>by
  have e:b=f:=by simpa using g
  subst e
  obtain⟨o,e,c,d⟩:=st
  exact⟨o,e,fun v z=>by rw[d] at z;cases z⟩
 keep:=fun i h h' st k=>st.at fun o e=>k f (by simp) o e
 item:=by
  intro X m hw n D i pz s σ H E I j st hg
  subst m hw n
  obtain⟨xs,x,l,q⟩:=hg
  obtain⟨its,r,p,G⟩:=I.list l
  obtain⟨u,J,L⟩:=r.get q
  obtain⟨t,y,M,A,B,C⟩:=j f (by simp)
  refine wpAny_pyNext_list_item st p.isList (by simpa using J) fun h' F N=> ?_
  obtain⟨o,e,c,d⟩:=id F
  exact⟨u,Z,Oq e c d Z ⟨x,H,I.turned (t':=s.toks) (fun b o g e=>(N.2 b g).trans e) t y A B C,L,⟨Z,fun ys O=>by rw[I.vm O l];exact q⟩,F,fun b g=>(j b g).1⟩⟩
 done:=by
  intro X m hw n D i pz s σ H E I j st hg
  subst m hw n
  obtain⟨xs,l,q⟩:=hg
  obtain⟨its,r,p,G⟩:=I.list l
  obtain⟨t,y,M,A,B,C⟩:=j f (by simp)
  have hl:=r.length
  exact wpAny_pyNext_list_end (I.ok.hd D) st p.isList (by simp;lia) fun h' Q=>⟨Z,I.turned (t':=s.toks) (fun b o g e=>Q b o g e) t y A B C⟩
 self:=fun _ _ _ _ _ st h=>wpAny_pyIter_listiter st h
theorem II{K:aM}(a:Addr)(lo:Int)(n:Nat):Turn P w K tg (Sd lo n) [a] a (fun i h=>IsRangeIter h a (lo+(i:Nat)*1) ((n:Int)-(i:Nat)) 1) where
 mem:=by simp
 obj:=fun i h st b c=>by
  simp_all
 keep:=fun i h h' st k=>k a (by simp) _ st
 item:=by
  intro X f hw g j i pz s σ H E I d st hg
  subst f hw g
  obtain⟨l,m,y,p,q,r⟩:=d a (by simp)
  refine(Walks.range (prog:=X.prog) (w:=X.w) (I.ok.hd j) a lo 1 n).item i s _ _ hg st fun v h' tk hv u kk=> ?_
  obtain⟨t,rfl⟩:=hv
  have z:Inv X pz σ H {s with heap:=h',toks:=tk}:=I.turned (fun b o c e=>kk b o (by simpa using c) e) l m p q r
  refine⟨_,Z,Oq u Z rfl rfl ⟨.int (lo+i),H,z,⟨t,?_⟩,⟨Z,Z⟩,u,fun b c=>(d b c).1⟩⟩
  rw[Int.mul_one]
 done:=by
  intro X f hw g j i pz s σ H E I d st hg
  subst f hw g
  obtain⟨l,m,y,p,q,r⟩:=d a (by simp)
  exact wpAny_pyNext_range_end (I.ok.hd j) st (by have:n<=i:=hg;lia) fun h' A=>⟨Z,I.turned (t':=s.toks) (fun b o c e=>A b o c e) l m p q r⟩
 self:=fun _ _ _ _ _ st h=>wpAny_pyIter_rangeiter st h
section
variable {X:Cx} {tg:Expr}
inductive Ot K(R:It->Hp->Prop)(x:V) H1:Prop|mk:∀a,(x= .ref a)->((∃xs,jD K H1 a xs))->(R (Vh K a) H1)->Ot K R x H1
def ZX(K:aM)(tl:TE):TI:=fun σ H R=>tl σ H fun x H1=>Ot K R x H1
theorem eM(hl:PE X l tl):PI X tg l (ZX X.K tl):=by
 intro pz s σ H R I h;refine fX (hl pz s σ H _ I h) ?_;rintro v c ⟨x,H1,d,f,g⟩;obtain⟨a,e,⟨xs,i⟩,q⟩:=g;subst e;subst f;obtain⟨its,k,p,m⟩:=d.list i;refine jn p.isList (⟨c.heap.objs.size,[c.heap.objs.size],_,_,H1,Z,d.kept (t':=c.toks) fun b o e=>aJ _ e,Mg a _,⟨_,bc _ Z,Z,Z⟩,fun b j=> ?_,q⟩);have e:b=c.heap.objs.size:=by simpa using j
 subst e;exact d.IH (aQ _) (d.gT.fresh (aQ _))
theorem F2{σ:St}{lo a:Int}(I:Inv X pz σ H s)(h1: -(2^62)<=lo)(h2:lo<2^62)(f: -(2^62)<=a)(g:a<2^62)
  (q:R (Sd lo (a-lo).toNat) H):bL (model X.prog X.w) X.A (pyIter (.ref s.heap.objs.size)) (PIE X pz σ tg R) E {s with heap:=s.heap.push {cls:= .type "range",data:= .fields #[.int lo t, .int a u, .int 1 v]},toks:=tk}:=by
 refine wpAny_pyIter_range (IsRange.new ..) (small_one h1 h2 f g) ?_
 have d:Inv X pz σ H {s with heap:=s.heap.push {cls:= .type "range",data:= .fields #[.int lo t, .int a u, .int 1 v]},toks:=tk}:=I.kept fun b o e=>aJ _ e
 refine⟨(s.heap.push {cls:= .type "range",data:= .fields #[.int lo t, .int a u, .int 1 v]}).objs.size,[(s.heap.push {cls:= .type "range",data:= .fields #[.int lo t, .int a u, .int 1 v]}).objs.size],_,_,H,Z,
  d.kept (t':=tk) fun b o e=>aJ _ e,II _ lo (a-lo).toNat,?_,fun b h=> ?_,q⟩
 .have i:lo+((0:Nat))*1=lo:=by simp
  have j:(((a-lo).toNat:Nat))-((0:Nat))=nV lo a 1:=by rw[rangeSize_one];split<;>lia
  rw[i,j]
  exact bc _ Z
 .have e:b=(s.heap.push {cls:= .type "range",data:= .fields #[.int lo t, .int a u, .int 1 v]}).objs.size:=by simpa using h
  subst e
  exact d.IH (aQ _) (d.gT.fresh (aQ _))
inductive Ou(R:It->Hp->Prop)(vs:List V) H1:Prop|mk:∀j,(vs=[.int j])->(-(2^62)<=j)->(j<2^62)->(R (Sd 0 j.toNat) H1)->Ou R vs H1
def ZY(ta:TA):TI:=fun σ H R=>ta σ H fun vs H1=>Ou R vs H1
inductive Ov(R:It->Hp->Prop)(vs:List V) H1:Prop|mk:∀i j,(vs=[.int i, .int j])->((-(2^62)<=i/\i<2^62/\-(2^62)<=j/\j<2^62))->(R (Sd i (j-i).toNat) H1)->Ov R vs H1
def ZZ(ta:TA):TI:=fun σ H R=>ta σ H fun vs H1=>Ov R vs H1
theorem ke(hg:Gl X "range")(c:X.mg "range"=ae)(d:PA X [a] ta)(hs:bV [a] X.env=[(ag,eval a X.env)]:=by rfl):PI X tg (.Call (.Name "range" p) [a] [] pos) (ZY ta):=by
 intro pz s σ H R I h;refine NZ (kE I hg c YN (cU (fX (d pos pz s σ H _ I h) fun k l ⟨vs,H1,f,g,b⟩=> ?_) hs Z));obtain⟨j,e,b,i,q⟩:=b;subst e
 cases g with
 |cons r rr=>
  cases rr
  obtain⟨t,rfl⟩:=r;exact call_range_1 (F2 f (by simp) (by simp) b i (by simpa using q))
theorem nt(hg:Gl X "range")(f:X.mg "range"=ae)(g:PA X [a,b] ta)(hs:bV [a,b] X.env=[(ag,eval a X.env),(ag,eval b X.env)]:=by rfl)(d:bV [b] X.env=[(ag,eval b X.env)]:=by rfl):
  PI X tg (.Call (.Name "range" p) [a,b] [] pos) (ZZ ta):=by
 intro pz s σ H R I h
 refine NZ (kE I hg f YN (cU (fX (g pos pz s σ H _ I h) fun v w ⟨vs,H1,k,l,c⟩=> ?_) (by rw[hs,d]) (by rw[d];rfl)))
 obtain⟨i,j,e,⟨c,m,n,o⟩,q⟩:=c
 subst e
 cases l with
 |cons r rr=>
  cases rr with
  |cons u rr=>
   cases rr
   obtain⟨t,rfl⟩:=r
   obtain⟨t',rfl⟩:=u
   exact call_range_2 (F2 k c m n o q)
def acd(c:TI)(g:TG)(tb:TS):TS:=fun D σ H=>c σ H fun J H1=>∃W:Nat->Nat->St->Hp->Prop,(∃m,W 0 m σ H1)/\∀i m σ H,W i m σ H->
 (J.stop i H/\D.nx σ H)\/(J.go i H/\∃N:St->Hp->Prop,(∀a H',N a H'->∃b,b<m/\W (i+1) b a H')/\∀x H',J.Mf i H x H'->g x σ H' fun d H2=>tb {D with nx:=N,ct:=N,bk:=D.nx} d H2)
def zF(fp:List Addr)(h:Heap):List (Addr×Obj):=fp.filterMap fun b=>(h.get? b).map fun o=>(b,o)
theorem uu(a:b∈fp)(e:h.get? b=aa o):(b,o)∈zF fp h:=lx.mpr ⟨b,a,by rw[e];rfl⟩
theorem Mi(a:p∈zF fp h):p.1∈fp/\h.get? p.1=aa p.2:=by
 obtain⟨b,c,e⟩:=lx.mp a
 cases q:h.get? b with
 |none=>rw[q] at e;cases e
 |some o=>rw[q] at e;have d:=aW e;subst d;exact⟨c,q⟩
theorem Inv.pinned{σ:St}(I:Inv X pz σ H s)(f:∀b∈fp,yu X pz H b)(ho:∀b∈fp,∃o,s.heap.get? b=aa o/\∀v,o.data≠ .cell v):Inv X (pz++zF fp s.heap) σ H s:=
 I.Ku fun p g=>(cN.mp g).elim (fun z=>I.pin p (eX _ z)) fun z=>by
  obtain⟨a,e⟩:=Mi z
  obtain⟨h,i,j,_⟩:=f p.1 a
  obtain⟨o,c,d⟩:=ho p.1 a
  rw[e] at c;cases c
  exact⟨e,h,i,j,d⟩
theorem Inv.vp{σ:St}(I:Inv X (pz++pl) σ H s):Inv X pz σ H s:=I.Ku fun p a=>I.pin p (eX _ (gQ _ a))
theorem fT(hi:PI X tg iter wi)(hg:PG X tg g)(a:Sa X body tb)(q:PassesOwn (model X.prog X.w) X.A X.env NE:=by exact gf)(O:X.calm=true:=by rfl)
  (hs:∀x,kI iter X.env x=pure x:=by intro _;rfl):PS X (.For tg iter body [] pos) (acd wi g tb):=by
 intro pz s σ H D I h
 refine wpAny_For (fX (hi pz s σ H _ I h) fun v s1 h1=>fX h1 fun itv s2 h2=> ?_) hs
 obtain⟨it,fp,P,J,H2,e,I2,T,C,Q,W,⟨m0,w0⟩,turn⟩:=h2
 subst e
 have E:∀{H':Hp},(∀b∈fp,H' b=ae)->∀b∈fp,yu X pz H' b:=fun hn b a=>⟨hn b a,(Q b a).2⟩
 refine codeAny_forLoop_any (fun n R=>∃i t H',Inv X pz t H' R/\P i R.heap/\(∀b∈fp,H' b=ae)/\W i n t H') ?_ m0 ⟨0,σ,H2,I2,C,fun b a=>(Q b a).1,w0⟩
 rintro n S ⟨i,w,B,U,y,z,w3⟩
 rcases turn i n w B w3 with⟨stop,qn⟩|⟨go,N,hN,step⟩
 .refine kq q (fX (T.done X Z rfl rfl O i pz S w B NE U (E z) y stop) ?_)
  rintro r s4 ⟨F,I4⟩
  subst F
  exact vf ⟨w,B,I4,qn⟩
 .refine kq q (fX (T.item X Z rfl rfl O i pz S w B NE U (E z) y go) ?_)
  rintro r s4 ⟨u,F,h4⟩
  subst F
  refine kq q (fX h4 ?_)
  rintro _ V ⟨x,Y,I5,r5,y5,G,K⟩
  refine kq q (fX (hg _ V w Y x u _ (I5.pinned (E K) (T.obj _ _ G)) r5 (step x Y y5)) fun _ s6 ⟨L,H6,I6,q6⟩=>kq q (fX (a _ s6 L H6 _ I6 q6) fun f M p=> ?_))
  have c:∀{j:St} {k:Hp},Inv X (pz++zF fp V.heap) j k M->N j k->∃m,m<n/\∃i t H',Inv X pz t H' M/\P i M.heap/\(∀b∈fp,H' b=ae)/\W i m t H':=fun{j k} l A=>by
   obtain⟨m',hm,w7⟩:=hN j k A
   refine⟨m',hm,i+1,j,k,l.vp,T.keep _ _ _ G fun b a o e=>(l.pin (b,o) (eX _ (eX _ (uu a e)))).1,fun b a=> ?_,w7⟩
   obtain⟨o,e,d⟩:=T.obj _ _ G b a
   exact(l.pin (b,o) (eX _ (eX _ (uu a e)))).2.1
  cases f with
  |next=>obtain⟨j,k,l,A⟩:=p;exact c l A
  |cont=>obtain⟨j,k,l,A⟩:=p;exact c l A
  |brk=>obtain⟨j,k,l,p⟩:=p;exact⟨j,k,l.vp,p⟩
  |ret v=>obtain⟨x7,j,k,l,r7,p⟩:=p;exact⟨x7,j,k,l.vp,r7,p⟩
end
theorem iJ{K:aM}{g:TG}{tb:TS}{D:Ends}(b:Nat->St->Hp->Prop)(h:b 0 σ H)(hl:∀i σ H,i<=xs.length->b i σ H->jD K H a xs)
  (hs:∀i x σ H,xs[i]? =aa x->b i σ H->g x σ H fun c H2=>tb {D with nx:=b (i+1),ct:=b (i+1),bk:=D.nx} c H2) (hd:∀σ H,b xs.length σ H->D.nx σ H):
  ∃W:Nat->Nat->St->Hp->Prop,(∃m,W 0 m σ H)/\∀i m σ H,W i m σ H->
   ((Vh K a).stop i H/\D.nx σ H)\/((Vh K a).go i H/\∃N:St->Hp->Prop,(∀d H',N d H'->∃f,f<m/\W (i+1) f d H')/\∀x H',(Vh K a).Mf i H x H'->g x σ H' fun c H2=>tb {D with nx:=N,ct:=N,bk:=D.nx} c H2):=by
 refine⟨fun i m σ H=>m=xs.length-i/\i<=xs.length/\b i σ H,⟨xs.length,Z,cg _,h⟩,?_⟩
 rintro i m σ H ⟨rfl,j,p⟩
 have q:=hl i σ H j p
 by_cases k:i<xs.length
 .refine .inr ⟨⟨xs,xs[i],q,by simp⟩,b (i+1),fun d H' l=>⟨xs.length-(i+1),by lia,Z,k,l⟩,fun x H' y=> ?_⟩
  obtain⟨e,y⟩:=y
  subst e
  exact hs i x σ _ (y xs q) p
 .have e:i=xs.length:=by lia
  subst e
  exact .inl ⟨⟨xs,q,aQ _⟩,hd σ H p⟩
theorem iE{lo:Int}{g:TG}{tb:TS}{D:Ends}(a:Nat->St->Hp->Prop)(h:a 0 σ H)
  (hs:∀i σ H,i<n->a i σ H->g (.int (lo+i)) σ H fun b H2=>tb {D with nx:=a (i+1),ct:=a (i+1),bk:=D.nx} b H2) (hd:∀σ H,a n σ H->D.nx σ H):
  ∃W:Nat->Nat->St->Hp->Prop,(∃m,W 0 m σ H)/\∀i m σ H,W i m σ H->
   ((Sd lo n).stop i H/\D.nx σ H)\/((Sd lo n).go i H/\∃N:St->Hp->Prop,(∀c H',N c H'->∃f,f<m/\W (i+1) f c H')/\∀x H',(Sd lo n).Mf i H x H'->g x σ H' fun b H2=>tb {D with nx:=N,ct:=N,bk:=D.nx} b H2):=by
 refine⟨fun i m σ H=>m=n-i/\i<=n/\a i σ H,⟨n,Z,cg _,h⟩,?_⟩
 rintro i m σ H ⟨rfl,k,p⟩
 by_cases d:i<n
 .refine .inr ⟨d,a (i+1),fun c H' j=>⟨n-(i+1),by lia,Z,d,j⟩,fun x H' y=> ?_⟩
  obtain⟨e,y⟩:=y
  subst e y
  exact hs i σ _ d p
 .have e:i=n:=by lia
  subst e
  exact .inl ⟨aQ _,hd σ H p⟩
theorem lE(d:St->Hp->Prop)(e:St->Hp->Nat)(g:d σ H)
  (hs:∀σ H,d σ H->c σ H fun b H1=>if b=af then tb {D with nx:=fun a H'=>d a H'/\e a H'<e σ H,ct:=fun a H'=>d a H'/\e a H'<e σ H,bk:=D.nx} σ H1 else D.nx σ H1)
  (mono:∀σ H Q f,(∀b H1,Q b H1->f b H1)->c σ H Q->c σ H f):Ol c tb D σ H:=by
 refine⟨fun m σ H=>m=e σ H/\d σ H,⟨_,Z,g⟩,?_⟩
 rintro m σ H ⟨rfl,p⟩
 refine mono σ H _ _ (fun b H1 q=> ?_) (hs σ H p)
 cases b with
 |true=>exact⟨_,fun a H' z=>⟨_,z.2,Z,z.1⟩,q⟩
 |false=>exact q
abbrev R2:=V->V->Hp->VK->Prop
def wM(X:Cx)(f:bj->bj->Sem bj)(r:R2):Prop:=
 ∀pz s (σ:St) H (x y) (v u) Q,Inv X pz σ H s->RelV x v->RelV y u->r x y H Q->
  bL (model X.prog X.w) X.A (f v u) (EP X pz σ Q) NE s
def UnR(X:Cx)(f:bj->Sem bj)(r:V->Hp->VK->Prop):Prop:=
 ∀pz s (σ:St) H x v Q,Inv X pz σ H s->RelV x v->r x H Q->
  bL (model X.prog X.w) X.A (f v) (EP X pz σ Q) NE s
def pG(X:Cx)(f:bj)(r:List V->Hp->VK->Prop):Prop:=
 ∀pz s (σ:St) H xs us Q,Inv X pz σ H s->Vals xs us->r xs H Q->
  bL (model X.prog X.w) X.A (call f us) (EP X pz σ Q) NE s
def ace(X:Cx)(r:V->Hp->(Bool->Hp->Prop)->Prop):Prop:=
 ∀pz s (σ:St) H x v Q,Inv X pz σ H s->RelV x v->r x H Q->
  bL (model X.prog X.w) X.A (truthy v) (TP X pz σ Q) NE s
def SV(r:R2)(ta tb:TE):TE:=fun σ H Q=>ta σ H fun x H1=>tb σ H1 fun y H2=>r x y H2 Q
def tUn(r:V->Hp->VK->Prop)(ta:TE):TE:=fun σ H Q=>ta σ H fun x H1=>r x H1 Q
inductive rI(C:Int->Int->Prop)(g:Int->Int->V)(x:V)(y:V) H(Q:VK):Prop|mk:∀i j,(x= .int i)->(y= .int j)->(C i j)->(Q (g i j) H)->rI C g x y H Q
inductive IK(g:Int->Int->V)(x:V)(y:V) H(Q:VK):Prop|mk:∀i j,(x= .int i)->(y= .int j)->(Q (g i j) H)->IK g x y H Q
inductive rU(g:Int->V)(x:V) H(Q:VK):Prop|mk:∀i,(x= .int i)->(Q (g i) H)->rU g x H Q
section
variable {X:Cx} {a b c:Expr} {ta tb tc:TE} {pos:Pos}
theorem WZ(d:PE X a ta)(e:PE X b tb){σ:St}{R:V->V->Hp->Prop}(I:Inv X pz σ H s)
  (h:ta σ H fun x H1=>tb σ H1 fun y H2=>R x y H2) {f:bj->bj->Sem bj}
  (g:∀v u c x y H2,Inv X pz σ H2 c->RelV x v->RelV y u->R x y H2->bL (model X.prog X.w) X.A (f v u) Q NE c):
  bL (model X.prog X.w) X.A (eval a X.env) (fun v i=>bL (model X.prog X.w) X.A (eval b X.env) (fun u j=>bL (model X.prog X.w) X.A (f v u) Q NE j) NE i) NE s:=by
 exact fX (d pz s σ H _ I h) (by rintro v k ⟨x,H1,l,m,n⟩;exact fX (e pz k σ H1 _ l n) fun u c ⟨y,H2,o,p,q⟩=>g v u c x y H2 o m p q)
theorem cu(ho:wM X (binaryOp op) r)(c:PE X a ta)(d:PE X b tb):PE X (.BinOp a op b pos) (SV r ta tb):=by intro pz s σ H Q I h;exact wpAny_BinOp (WZ c d I h fun v u e x y H2 f g ry q=>ho pz e σ H2 x y v u Q f g ry q)
theorem CH(ho:UnR X (unaryOp op) r)(b:PE X a ta):PE X (.UnaryOp op a pos) (tUn r ta):=by intro pz s σ H Q I h;exact UnaryOp_ (fX (b pz s σ H _ I h) (by rintro v c ⟨x,H1,d,e,f⟩;exact ho pz c σ H1 x v Q d e f))
theorem opI{g:Int->Int->Int}
  (a:∀(i j:Int) (t u:Tok) (s:bH) (Q:bj->bH->Prop) (E:bj->bH->Prop),C i j->Q (.int (g i j) s.toks) {s with toks:=s.toks+1}->bL (model X.prog X.w) X.A (f (.int i t) (.int j u)) Q E s):
  wM X f (rI C fun i j=> .int (g i j)):=by
 intro pz s σ H x y v u Q I b ry h
 obtain⟨i,j,rfl,rfl,c,q⟩:=h
 obtain⟨t,rfl⟩:=b
 obtain⟨t',rfl⟩:=ry
 exact a i j t t' s _ _ c ⟨.int (g i j),H,I.tok _,⟨_,Z⟩,q⟩
theorem W0{g:Int->Int->Int}
  (a:∀(i j:Int) (t u:Tok) (s:bH) (Q:bj->bH->Prop) (E:bj->bH->Prop),Q (.int (g i j) s.toks) {s with toks:=s.toks+1}->bL (model X.prog X.w) X.A (f (.int i t) (.int j u)) Q E s):
  wM X f (IK fun i j=> .int (g i j)):=by
 intro pz s σ H x y v u Q I b ry h
 obtain⟨i,j,rfl,rfl,q⟩:=h
 obtain⟨t,rfl⟩:=b
 obtain⟨t',rfl⟩:=ry
 exact a i j t t' s _ _ ⟨.int (g i j),H,I.tok _,⟨_,Z⟩,q⟩
theorem SW{g:Int->Int->Bool}
  (a:∀(i j:Int) (t u:Tok) (s:bH) (Q:bj->bH->Prop) (E:bj->bH->Prop),Q (.bool (g i j)) s->bL (model X.prog X.w) X.A (f (.int i t) (.int j u)) Q E s):
  wM X f (IK fun i j=> .bl (g i j)):=by
 intro pz s σ H x y v u Q I b ry h
 obtain⟨i,j,rfl,rfl,q⟩:=h
 obtain⟨t,rfl⟩:=b
 obtain⟨t',rfl⟩:=ry
 exact a i j t t' s _ _ ⟨.bl (g i j),H,I,Z,q⟩
def acf(i j:Int):Prop:=0<=j/\j<=1000000/\i.natAbs<2^64
def W2(i j:Int):Prop:=(-(2^64)<i/\i<2^64)\/(-(2^64)<j/\j<2^64)
theorem W2.ok(h:W2 i j):IntMulOk i j:=by
 rcases h with⟨h1,h2⟩|⟨h1,h2⟩
 .exact .of_left (intBits_le_64 h1 h2)
 .exact .of_right (intBits_le_64 h1 h2)
theorem dJ:wM X (binaryOp .Add) (IK fun i j=> .int (i+j)):=W0 fun _ _ _ _ _ _ _ q=>add_int q
theorem fK:wM X (binaryOp .Sub) (IK fun i j=> .int (i-j)):=W0 fun _ _ _ _ _ _ _ q=>sub_int q
theorem oX:wM X (binaryOp .Mult) (rI W2 fun i j=> .int (i*j)):=opI fun _ _ _ _ _ _ _ a q=>mul_int q a.ok
theorem W3:wM X (binaryOp .Mod) (rI (fun _ j=>0<j) fun i j=> .int (i%j)):=opI fun i j _ _ _ _ _ a q=>by
 exact mod_int' (by lia) (by rw[Int.fmod_eq_emod_of_nonneg i (by lia)];exact q)
theorem zG:wM X (binaryOp .LShift) (rI acf fun i j=> .int (i*2^j.toNat)):=opI fun _ _ _ _ _ _ _ a q=>lshift_int_small a.1 a.2.1 a.2.2 q
theorem W4:wM X (binaryOp .BitAnd) (IK fun i j=> .int (Bo i j)):=W0 fun _ _ _ _ _ _ _ q=>and_int q
theorem unI{g:Int->Int}
  (a:∀(i:Int) (t:Tok) (s:bH) (Q:bj->bH->Prop) (E:bj->bH->Prop),Q (.int (g i) s.toks) {s with toks:=s.toks+1}->bL (model X.prog X.w) X.A (f (.int i t)) Q E s):
  UnR X f (rU fun i=> .int (g i)):=by
 intro pz s σ H x v Q I b h
 obtain⟨i,rfl,q⟩:=h
 obtain⟨t,rfl⟩:=b
 exact a i t s _ _ ⟨.int (g i),H,I.tok _,⟨_,Z⟩,q⟩
theorem wN:UnR X (unaryOp .USub) (rU fun i=> .int (-i)):=unI fun _ _ _ _ _ q=>neg_int q
end
def Z0:V->V->Bool
 | .int _, .int _=>af| .str _, .str _=>af
 |_,_=>ag
def rEq:R2:=fun x y H Q=>Z0 x y=af/\Q (.bl (ah (x=y))) H
def rNe:R2:=fun x y H Q=>Z0 x y=af/\Q (.bl (!ah (x=y))) H
theorem lF:ah (V.int i=V.int j)=(i==j):=by rw[iR];simp
theorem oE:ah (V.str i=V.str j)=(i==j):=by rw[iR];simp
section
variable {X:Cx} {a b c:Expr} {ta tb tc:TE} {pos:Pos}
theorem zH{σ:St}(I:Inv X pz σ H s)(q:Q (.bl k) H)(e:k=k'):EP X pz σ Q (.bool k') s:=by subst e;exact⟨.bl k,H,I,Z,q⟩
theorem jt:wM X (compareOp .Eq) rEq:=by
 intro pz s σ H x y v u Q I a ry h;obtain⟨hs,q⟩:=h;cases x<;>cases y<;>first|cases hs|skip
 .obtain⟨t,rfl⟩:=a;obtain⟨t',rfl⟩:=ry;exact eq_int (zH I q lF)
 .obtain⟨t,rfl⟩:=a;obtain⟨t',rfl⟩:=ry;exact eq_str (zH I q oE)
theorem CI:wM X (compareOp .NotEq) rNe:=by
 intro pz s σ H x y v u Q I a ry h;obtain⟨hs,q⟩:=h;cases x<;>cases y<;>first|cases hs|skip
 .obtain⟨t,rfl⟩:=a;obtain⟨t',rfl⟩:=ry;exact ne_int (zH I q (congrArg not lF))
 .obtain⟨t,rfl⟩:=a;obtain⟨t',rfl⟩:=ry;exact ne_str (zH I q (congrArg not oE))
theorem lG:wM X (compareOp .Lt) (IK fun i j=> .bl (ah (i<j))):=SW fun _ _ _ _ _ _ _ q=>lt_int q
theorem gv:wM X (compareOp .LtE) (IK fun i j=> .bl (ah (i<=j))):=SW fun _ _ _ _ _ _ _ q=>le_int q
theorem mB:wM X (compareOp .Gt) (IK fun i j=> .bl (ah (j<i))):=SW fun _ _ _ _ _ _ _ q=>gt_int q
theorem Z1:wM X (compareOp .GtE) (IK fun i j=> .bl (ah (j<=i))):=SW fun _ _ _ _ _ _ _ q=>ge_int q
theorem Ox(b:Expr)(h:op≠ .In:=by decide)(h2:op≠ .NotIn:=by decide):lT op b=false:=by
 have a:(op==CmpOp.In)=false:=by cases op<;>first|rfl|exact az Z h
 have c:(op==CmpOp.NotIn)=false:=by cases op<;>first|rfl|exact az Z h2
 cases b<;>simp[lT,a,c]
theorem kT(ho:wM X (compareOp op) r)(c:PE X a ta)(d:PE X b tb)(e:lT op b=false:=by exact Ox _):PE X (.Compare a [op] [b] pos) (SV r ta tb):=by intro pz s σ H Q I h;exact wpAny_Compare1 (WZ c d I h fun v u f x y H2 g i ry q=>ho pz f σ H2 x y v u Q g i ry q) e
inductive Oy(Q:Bool->Hp->Prop)(x:V) H':Prop|mk:∀k,(x= .bl k)->(Q k H')->Oy Q x H'
def zI(t:TE):TT:=fun σ H Q=>t σ H fun x H'=>Oy Q x H'
theorem cK(ho:wM X (compareOp op) r)(d:PE X a ta)(f:PE X b tb)(g:lT op b=false:=by exact Ox _):PT X (.Compare a [op] [b] pos) (zI (SV r ta tb)):=by
 intro pz s σ H Q I h
 refine SA (fX (d pz s σ H _ I h) fun v i ⟨x,H1,j,l,m⟩=>fX (f pz i σ H1 _ j m) fun u n ⟨y,H2,o,p,q⟩=>
  fX (ho pz n σ H2 x y v u _ o l p q) fun c C ⟨z,t,w,A,k,e,B⟩=> ?_) g
 subst e;subst A;exact eJ ⟨t,w,B⟩
inductive Kw(r':R2)(tc:TE) σ Q y(z:V) H3:Prop|mk:∀k,(z= .bl k)->((if k=af then tc σ H3 fun w' H4=>r' y w' H4 Q else Q (.bl ag) H3))->Kw r' tc σ Q y z H3
def D9(r a:R2)(ta tb tc:TE):TE:=fun σ H Q=>ta σ H fun x H1=>tb σ H1 fun y H2=>r x y H2 fun z b=>Kw a tc σ Q y z b
theorem zJ(ho:wM X (compareOp op) r)(l:wM X (compareOp Z2) r')(m:PE X a ta)(n:PE X b tb)(o:PE X c tc)
  (p:lastMarks [op,Z2] [b,c]=false:=by with_unfolding_all rfl):PE X (.Compare a [op,Z2] [b,c] pos) (D9 r r' ta tb tc):=by
 intro pz s σ H Q I h
 refine Compare_chain (fX (m pz s σ H _ I h) fun v q ⟨x,H1,t,w,A⟩=>chain_link (fX (n pz q σ H1 _ t A) fun u B ⟨y,H2,C,f,D⟩=>
  fX (ho pz B σ H2 x y v u _ C w f D) fun d E ⟨z,g,i,F,k,e,j⟩=> ?_)) p
 subst e
 subst F
 refine eJ ?_
 cases k with
 |false=>exact ite_ff ⟨.bl ag,g,i,Z,j⟩
 |true=>exact ite_tt (chain_last (fX (o pz E σ g _ i j) (by rintro G J ⟨z',K,L,M,N⟩;exact l pz J σ K y z' u G Q L f M N)))
theorem gw(ho:wM X (compareOp op) r)(l:wM X (compareOp Z2) r')(m:PE X a ta)(n:PE X b tb)(o:PE X c tc)
  (p:lastMarks [op,Z2] [b,c]=false:=by with_unfolding_all rfl):PT X (.Compare a [op,Z2] [b,c] pos) (zI (D9 r r' ta tb tc)):=by
 intro pz s σ H Q I h
 refine isTrue_chain (fX (m pz s σ H _ I h) fun v q ⟨x,H1,t,w,A⟩=>test_link (fX (n pz q σ H1 _ t A) fun u B ⟨y,H2,C,f,D⟩=>
  fX (ho pz B σ H2 x y v u _ C w f D) fun d E ⟨z,g,i,F,k,e,j⟩=> ?_)) p
 subst e
 subst F
 refine eJ ?_
 cases k with
 |false=>
  obtain⟨W,G,J⟩:=j
  cases G
  exact ite_ff ⟨g,i,J⟩
 |true=>
  refine ite_tt (test_last (fX (o pz E σ g _ i j) fun K L ⟨z',M,N,O,P⟩=>fX (l pz L σ M y z' u K _ N f O P) fun d' Y ⟨z2,R,S,T,k2,U,V⟩=> ?_))
  subst U
  subst T
  exact eJ ⟨R,S,V⟩
def SX(K:aM)(x:V)(H:Hp)(k:Bool):Prop:=
 match x with
 | .rH=>k=ag
 | .bl b=>k=b
 | .int i=>k=(i !=0)
 | .str y=>y.length<=br/\k=((y.length:Int) !=0)
 | .ref p=>(∃xs,jD K H p xs/\k= !xs.isEmpty)\/(∃xs,oW K H p xs/\k= !xs.isEmpty)\/∃a,H p=aa (.dK a)/\k= !a.isEmpty
theorem IL{a:Type}{b:List (a×V)}{vs:List (a×bj)}(r:KV b vs):(!vs.isEmpty)= !b.isEmpty:=by cases r<;>rfl
theorem zK(r:Vals xs its):(!its.toArray.isEmpty)= !xs.isEmpty:=by cases r<;>rfl
theorem wO:(br:Nat)<2^63:=by rw[d8];decide
theorem Oz:ace X (fun x H Q=>∃k,SX X.K x H k/\Q k H):=by
 intro pz s σ H x v Q I d h;obtain⟨k,e,q⟩:=h;have hs:=d8
 cases x with
 |rH=>subst d;have a:=e;subst a;exact truthy_none ⟨H,I,q⟩
 |bl b=>subst d;have a:=e;subst a;exact eJ ⟨H,I,q⟩
 |int i=>obtain⟨t,rfl⟩:=d;have a:=e;subst a;exact PySem.P.truthy_int ⟨H,I,q⟩
 |str y=>obtain⟨t,rfl⟩:=d;obtain⟨o,a⟩:y.length<=br/\k=((y.length:Int) !=0):=e;subst a;exact PySem.P.truthy_str (by lia) ⟨H,I.tok _,q⟩
 |ref p=>
  subst d;have a:=e;rcases a with⟨xs,f,a⟩|⟨xs,f,a⟩|⟨j,f,a⟩
  .subst a;obtain⟨its,r,g,l⟩:=I.list f;have c:=r.length;exact wpAny_truthy_list g.isList (by simp only[bz];lia) ⟨H,I.tok _,by rw[zK r];exact q⟩
  .subst a;obtain⟨its,r,g,l⟩:=I.tuple f;have c:=r.length;exact truthy_tuple g (by simp only[bz];lia) ⟨H,I.tok _,by rw[zK r];exact q⟩
  .subst a;obtain⟨l,n,vs,r,m⟩:j.length<=br/\(p==iq)=ag/\∃vs,KV j vs/\s.heap.DictOf (gp X.prog X.w) p vs:=I.gT p _ f;have c:=Paired.length r;exact wpAny_truthy_dict n m (by lia) ⟨H,I.tok _,by rw[IL r];exact q⟩
theorem F3(c:PE X a ta)(d:∀b,isTrue a X.env b=(do let v<-b;uY a.pos;holding [v] (truthy v))):
  PT X a (fun σ H Q=>ta σ H fun x H'=>∃k,SX X.K x H' k/\Q k H'):=by
 intro pz s σ H Q I h
 exact isTrue_plain (fX (c pz s σ H _ I h) (by rintro v e ⟨x,H1,f,g,i⟩;exact Oz pz e σ H1 x v Q f g i)) (d _)
theorem vals1(r:Vals [x] us):∃u,us=[u]/\RelV x u:=by cases r with|cons a b=>cases b;exact⟨_,Z,a⟩
theorem vals2(r:Vals [x,y] us):∃u a,us=[u,a]/\RelV x u/\RelV y a:=by cases r with|cons b c=>cases c with|cons d e=>cases e;exact⟨_,_,Z,b,d⟩
theorem F4:pG X (.builtin "abs") (fun xs H Q=>∃i,xs=[.int i]/\Q (.int (if i<0 then -i else i)) H):=by intro pz s σ H xs a Q I r h;obtain⟨i,rfl,q⟩:=h;obtain⟨u,rfl,t,rfl⟩:=vals1 r;exact call_abs_int fun u tk=>⟨.int (if i<0 then -i else i),H,I.tok _,⟨_,Z⟩,q⟩
theorem Mj(b:X.calm=af):pG X (.builtin "max") (fun xs H Q=>∃i j,xs=[.int i, .int j]/\Q (.int (if j>i then j else i)) H):=by
 intro pz s σ H xs c Q I r h;obtain⟨i,j,rfl,q⟩:=h;obtain⟨u,d,rfl,⟨t,rfl⟩,⟨t',rfl⟩⟩:=vals2 r;refine max_two_ints (I.ok.hd b) fun h' tk k=>⟨_,H,I.kept k,?_,q⟩;by_cases a:j>i
 .rw[ai a,ai a];exact⟨_,Z⟩
 .rw[ak a,ak a];exact⟨_,Z⟩
theorem zL:pG X (.builtin "ord") (fun xs H Q=>∃x,xs=[.str x]/\x.length=1/\Q (.int (x.cps.getD 0 0:Nat)) H):=by intro pz s σ H xs b Q I r h;obtain⟨x,rfl,a,q⟩:=h;obtain⟨u,rfl,t,rfl⟩:=vals1 r;exact ord_of_one a ⟨.int _,H,I.tok _,⟨_,Z⟩,q⟩
end
structure IM(h:Heap)(x dx C) mA:Prop where
 obj:h.get? x=aa (iF C dx)
 ns:h.Ns1 dx mA
 ne:dx≠x
theorem Ml{h:Heap}(n:h.Ns1 dx mA):∃od,h.get? dx=aa od/\∀b,sH b od=aa (mA b):=by
 obtain⟨o,d,i,ho,hd,hk,_,f⟩:=n;refine⟨o,ho,fun b=> ?_⟩;have e:=f b;unfold nsFind findBy at e;rw[<-Array.find?_toList] at e;unfold sH;rw[hd];dsimp only;split
 .rename_i q;rw[q] at e;exact congrArg aa e
 .rename_i q;rw[q] at e;have a:d.toList.any (·.refKey)=false:=by rw[List.any_eq_false];intro y g;obtain⟨z,t,c⟩:=hk y (fU.mp g);simp[DictEntry.refKey,c]
  rw[ak (by rw[a];exact fQ)];exact congrArg aa e
theorem IM.look(I:IM h x dx C mA):∃od,PySem.W.InstAt h x (iF C dx) C (aa od)/\∀a,sH a od=aa (mA a):=
 let ⟨od,ho,hl⟩:=Ml I.ns
 ⟨od,⟨I.obj,Z,Z,ho⟩,hl⟩
section
variable {prog:b7} {w:cW} {A:gK} {E:bj->bH->Prop} {s:bH} {K:aM} {x dx C f:Addr} {mA:Str->Option bj} {name:Str} {v:bj}
theorem get_map(X:K.In s.heap)(I:IM s.heap x dx C mA)(hg:md K C name=af)(hh:oQ K C=af)
  (a:f_ K (.ref C) name=aa ae) (hv:mA name=aa v) (b:Nv v=af) (h:Q v {s with toks:=s.toks+1}):
  bL (model prog w) A (getAttr (.ref x) name expr) Q E s:=by
 obtain⟨od,J,hl⟩:=I.look
 exact PySem.W.get_value X J (tR hg).1 (PySem.W.findObj_own hh a Z (by rw[hl,hv])) b h
theorem OA(X:K.In s.heap)(I:IM s.heap x dx C mA)(hg:md K C name=af)
  (a:f_ K (.ref C) name=aa (aa (.ref f))) (b:Fu K (.ref f)=af) (hv:mA name=ae) (h:Q (.ref f,[.ref x]) s):
  bL (model prog w) A (getMethod (.ref x) name pl) Q E s:=by
 obtain⟨od,J,hl⟩:=I.look
 exact PySem.W.method_fn X J (tR hg).1 (tR hg).2 a (beq_iff_eq.mp b) (by show(sH name od).map (·.isSome)=aa ag;simp_all) h
theorem SY(X:K.In s.heap)(I:IM s.heap x dx C mA)
  (hs:f_ K (.ref C) "__setattr__"=aa (aa (.builtin "object.__setattr__"))) (i:wu K C=af) (j:yR K C name=aa ae) (hh:oQ K C=af)
  (hw:Ih mA ns) (hsz:ns.length<=br)
  (h:∀h',IM h' x dx C (fun y=>if y=name then aa v else mA y)->d6 dx s.heap h'->Q () {s with heap:=h',toks:=s.toks+2}):
  bL (model prog w) A (setAttr (.ref x) name v) Q E s:=by
 obtain⟨od,J,hl⟩:=I.look
 refine PySem.W.set_plain X J hs (PySem.W.osa_open X J i j fun b=> ?_)
 obtain⟨o,k,l⟩:=PySem.W.any_some hh
 refine aF (aU (aF (aF (wpAny_loadPart I.obj (aF (PySem.W.Looks.here (PySem.W.looks_clsIn X k) ?_))))))
 rw[l]
 refine aU (aF (aU (aF (wpAny_nsSet1 I.ns fun h' f g=> ?_))))
 obtain⟨p,m,n,a,c,d⟩:=f.count (Ih.cons name v hw)
 refine aF (wpAny_lookBehind a (by rw[c];exact pastItsLine_dict (bY d (by simp_all))) ?_)
 exact aU (h _ ⟨(g.2 _ (bF I.ne)).trans I.obj,f,I.ne⟩ g)
theorem OB(X:K.In s.heap)(b:yS K C=af)
  (c:f_ K (.ref C) "__init__"=aa (aa (.ref f))) (e:PySem.W.typeIn K (.ref f)=aa (.type "function"))
  (h:mM (model prog w) (A.under (.builtin "type.__call__" ⟨.ref C::vs,kw⟩)) (.call (.ref f) ⟨.ref (s.heap.objs.size+1)::vs,kw⟩) (PySem.W.InitBack (s.heap.objs.size+1) R)
   {s with heap:=(s.heap.push gR).push (iF C s.heap.objs.size)}):
  mM (model prog w) A (.call (.ref C) ⟨vs,kw⟩) R s:=by
 obtain⟨hh,g,d,t,os⟩:=s
 exact PySem.W.make_core (PySem.W.makes_of X b) (PySem.W.looks_findIn X c) (fun self=>PySem.W.bind_fn X self e) (.inl rfl) h
end
def fx(f:Str)(v:V):List (Str×V)->List (Str×V)|[]=>[(f,v)]|(g,x)::r=>if g=f then(g,v)::r else(g,x)::fx f v r
theorem fA(f g:Str)(v:V):∀fs:List (Str×V),(fx f v fs).lookup g=if g=f then aa v else fs.lookup g
 |[]=>by
  show lP g [(f,v)]=_;by_cases h:g=f
  .have a:=beq_iff_eq.mpr h;simp only[lP,a,ai h]
  .have a:=beq_eq_false_iff_ne.mpr h;simp only[lP,a,ak h]
 |(k,x)::r=>by
  rw[show fx f v ((k,x)::r)=(if k=f then(k,v)::r else(k,x)::fx f v r) from rfl];by_cases hk:k=f
  .rw[ai hk];by_cases h:g=k
   .have a:=beq_iff_eq.mpr h;simp only[lP,a,ai (h.trans hk)]
   .have a:=beq_eq_false_iff_ne.mpr h;simp only[lP,a,ak (fun e:g=f=>h (e.trans hk.symm))]
  .rw[ak hk];by_cases h:g=k
   .simp only[lP,beq_iff_eq.mpr h,ak (fun e:g=f=>hk (h.symm.trans e))]
   .simp only[lP,(beq_eq_false_iff_ne.mpr h)];exact fA f g v r
theorem wQ(f:Str)(v:V):∀fs:List (Str×V),f∈(fx f v fs).map (·.1)/\∀g,g∈fs.map (·.1)->g∈(fx f v fs).map (·.1)|[]=>⟨by simp[fx],fun g h=>by simp at h⟩|(k,x)::r=>by obtain⟨a,b⟩:=wQ f v r;rw[show fx f v ((k,x)::r)=(if k=f then(k,v)::r else(k,x)::fx f v r) from rfl];grind
theorem xR(f:Str)(v:V):∀fs:List (Str×V),(fx f v fs).length<=fs.length+1
 |[]=>by simp[fx]
 |(k,x)::r=>by
  have a:=xR f v r;rw[show fx f v ((k,x)::r)=(if k=f then(k,v)::r else(k,x)::fx f v r) from rfl];by_cases hk:k=f
  .rw[ai hk,aK,aK];simp
  simp_all
theorem qW.some_of(r:qW (aa v) o):∃u,o=aa u/\RelV v u:=by cases o with|none=>exact(show False from r).elim|some u=>exact⟨u,Z,r⟩
theorem qW.none_of(r:qW ae o):o=none:=by cases o with|none=>rfl|some u=>exact(show False from r).elim
theorem Mm(r:RelV v u):Nv u=true:=by
 cases v with
 |rH=>cases (show u=bj.none from r);rfl
 |bl b=>cases (show u=bj.bool b from r);rfl
 |int i=>obtain⟨t,e⟩:=(show∃t,u=bj.int i t from r);subst e;rfl
 |str x=>obtain⟨t,e⟩:=(show∃t,u=bj.str x t from r);subst e;rfl
 |ref a=>cases (show u=bj.ref a from r);rfl
section
variable {P:b7} {w:cW} {H H':Hp} {h h':Heap} {a C dx:Addr} {fs fs':List (Str×V)}
theorem sO(gT:vd P w H h)(e:H a=aa (.ins C dx fs)):∃mA,IM h a dx C mA/\(∀f,qW (fs.lookup f) (mA f))/\Ih mA (fs.map (·.1))/\fs.length<=1000/\H dx=aa (.own a):=by obtain⟨d,z,ne,b,mA,n,r,q⟩:=(show ie P w H h a (.ins C dx fs) from gT a _ e);exact⟨mA,⟨b,n,ne⟩,r,q,z,d⟩
end
structure Kx K C:Prop where
 pg:md K C Str.empty=af
 hd:oQ K C=af
 po:wu K C=af
 sa:f_ K (.ref C) "__setattr__"=aa (aa (.builtin "object.__setattr__"))
theorem Kx.get{K:aM}(c:Kx K C)(f:Str):md K C f=true:=c.pg
def qg(K:aM)(C:Addr)(f:Str):Prop:=f_ K (.ref C) f=aa ae
theorem qg.Z3{K:aM}(n:qg K C f):yR K C f=aa none:=by unfold yR;rw[show f_ K (.ref C) f=aa ae from n];rfl
structure Meth K C m f:Prop where
 at_:f_ K (.ref C) m=aa (aa (.ref f))
 fn:Fu K (.ref f)=af
 kp:jh K (.ref f)=af
section
variable {X:Cx} {pz:List (Addr×Obj)} {σ:St} {H:Hp} {s:bH} {a C dx:Addr} {fs:List (Str×V)} {f:Str} {v:V} {A:gK} {E:bj->bH->Prop}
theorem zM(I:Inv X pz σ H s)(e:H a=aa (.ins C dx fs))(c:Kx X.K C)(n:qg X.K C f)(l:fs.lookup f=aa v)
  (h:∀u d,Inv X pz σ H d->RelV v u->Q u d):bL (model X.prog X.w) A (getAttr (.ref a) f b) Q E s:=by
 obtain⟨mA,O,r,_⟩:=sO I.gT e
 obtain⟨u,i,g⟩:=qW.some_of (by rw[<-l];exact r f)
 exact get_map I.BI O (c.get f) c.hd n i (Mm g) (h u _ (I.tok _) g)
theorem zN(I:Inv X pz σ H s)(e:H a=aa (.ins C dx fs))(c:Kx X.K C)(k:Meth X.K C m g)(l:fs.lookup m=ae)
  (h:Q (.ref g,[.ref a]) s):bL (model X.prog X.w) A (getMethod (.ref a) m pl) Q E s:=by
 obtain⟨mA,O,r,_⟩:=sO I.gT e
 exact OA I.BI O (c.get m) k.at_ k.fn (qW.none_of (by rw[<-l];exact r m)) h
theorem zO(I:Inv X pz σ H s)(e:H a=aa (.ins C dx fs))(c:Kx X.K C)(n:qg X.K C f)(hl:fs.length<1000)(ry:RelV y u)
  (h:∀i,Inv X pz σ (upd H a (.ins C dx (fx f y fs))) i->Q () i):bL (model X.prog X.w) A (setAttr (.ref a) f u) Q E s:=by
 obtain⟨mA,O,r,j,_,ho⟩:=sO I.gT e
 refine SY I.BI O c.sa c.po n.Z3 c.hd j (by rw[aE,d8];lia) fun h' d k=>h _ ?_
 refine I.write (by rw[e];exact rA) (.inr ho) (fun b q l z=>(k.2 b l).trans z) (let ⟨o,_,_,e',_⟩:=d.ns;⟨o,e'⟩) ?_
 refine⟨by rw[aL O.ne];exact ho,?_,O.ne,d.obj,_,d.ns,fun g=> ?_,fun g hg=> ?_⟩
 .have:=xR f y fs;lia
 .show qW ((fx f y fs).lookup g) (if g=f then aa u else mA g)
  rw[fA]
  by_cases q:g=f
  .rw[ai q,ai q];exact ry
  .simp_all
 .by_cases q:g=f
  .rw[q];exact(wQ f y fs).1
  .refine(wQ f y fs).2 g (j g fun z=>hg ?_)
   show(if g=f then aa u else mA g)=ae
   rw[ak q];exact z
theorem Inv.made(I:Inv X pz σ H s):Inv X pz σ (upd (upd H s.heap.objs.size (.own (s.heap.objs.size+1))) (s.heap.objs.size+1) (.ins C s.heap.objs.size []))
  {s with heap:=(s.heap.push gR).push (iF C s.heap.objs.size)}:=by
 have c:(s.heap.push gR).get? s.heap.objs.size=aa gR:=bc s.heap Z
 have d:((s.heap.push gR).push (iF C s.heap.objs.size)).get? (s.heap.objs.size+1)=aa (iF C s.heap.objs.size):=by
  have:=bc (s.heap.push gR) (o:=iF C s.heap.objs.size) Z
  rwa [cG] at this
 refine(I.laid (o:= .own (s.heap.objs.size+1)) (h':=s.heap.push gR) (t':=s.toks) (fun b u q=>aJ _ q) (aQ _) ⟨_,c⟩).laid (t':=s.toks) (fun b u q=>aJ _ q) (yT (cG _ _)) ?_
 have ne:s.heap.objs.size≠s.heap.objs.size+1:=b9 (fY _)
 refine⟨by rw[aL ne,aH],cg _,ne,d,fun _=>ae,(Heap.Ns1.of_empty ⟨gR,#[],_,c,Z,(fun e f=>az f (by simp)),fun _=>rfl⟩).at fun o q=>aJ _ q,fun _=>rA,fun y g=>az Z g⟩
theorem S0(a:attributeBase e f env (eval e env)=eval e env)
  (h:bL (model prog w) A (eval e env) (fun o b=>bL (model prog w) A (getAttr o f af) Q E b) E s):bL (model prog w) A (eval (.Attribute e f pos) env) Q E s:=
 Attribute_any_ h (by rw[arm_eval_Attribute,a])
end
noncomputable def Vi:List (Addr×Str):=[(629,"width"),(629,"height"),(629,"change_cost"),(629,"holes"),(629,"order"),(629,"columns"),(629,"rows"),(629,"px"),(629,"py"),(629,"alt"),(320,"numbers"),(320,"position"),(407,"lines"),(407,"partners"),(407,"loops"),(407,"wrong_line"),(466,"x"),(466,"y"),(466,"diameter"),(466,"drilled"),(466,"times_left"),(466,"lines_done"),(466,"refusal")]
inductive Vj f(Q:VK)(x:V) H1:Prop|mk:∀a C dx fs v,(x= .ref a)->(H1 a=aa (.ins C dx fs))->(Vi.elem (C,f)=af)->(fs.lookup f=aa v)->(Q v H1)->Vj f Q x H1
def W5(ta:TE)(f:Str):TE:=fun σ H Q=>ta σ H fun x H1=>Vj f Q x H1
inductive Vk f(D:Ends) σ y(x:V) H2:Prop|mk:∀a C dx fs,(x= .ref a)->(H2 a=aa (.ins C dx fs))->(Vi.elem (C,f)=af)->(fs.length<1000)->(D.nx σ (upd H2 a (.ins C dx (fx f y fs))))->Vk f D σ y x H2
def W6(ta a:TE)(f:Str):TS:=fun D σ H=>a σ H fun y H1=>ta σ H1 fun x H2=>Vk f D σ y x H2
def S1(X:Cx)(op:Operator)(rd:V->V->Hp->VK->Prop):Prop:=
 ∀pz s (σ:St) H (x y) (u v) Q,Inv X pz σ H s->RelV x u->RelV y v->rd x y H Q->bL (model X.prog X.w) X.A (inplaceOp op u v) (EP X pz σ Q) NE s
inductive F5(tv:TE)(rd:V->V->Hp->VK->Prop) f(D:Ends) σ(x:V) H1:Prop|mk:∀a C dx fs v,(x= .ref a)->(H1 a=aa (.ins C dx fs))->(Vi.elem (C,f)=af)->(fs.lookup f=aa v)->(tv σ H1 fun y H2=>rd v y H2 fun z H3=>∃dx' fs',H3 a=aa (.ins C dx' fs')/\fs'.length<1000/\D.nx σ (upd H3 a (.ins C dx' (fx f z fs'))))->F5 tv rd f D σ x H1
def S2(ta a:TE)(rd:V->V->Hp->VK->Prop)(f:Str):TS:=fun D σ H=>ta σ H fun x H1=>F5 a rd f D σ x H1
section
variable {X:Cx} {o e value:Expr} {f:Str} {pos pos' D_:Pos} {ta tv:TE}
theorem bS(T:∀p∈Vi,Kx X.K p.1/\qg X.K p.1 p.2)(b:PE X e ta)(d:attributeBase e f X.env (eval e X.env)=eval e X.env:=by rfl):PE X (.Attribute e f pos) (W5 ta f):=by intro pz s σ H Q I h;refine S0 d (fX (b pz s σ H _ I h) ?_);rintro u o ⟨x,H1,g,i,a,C,dx,fs,v,ex,j,c,l,q⟩;subst ex;obtain rfl:u=bj.ref a:=i;obtain⟨c,n⟩:=T _ (mN.mp c);exact zM g j c n l fun r t k m=>⟨v,H1,k,m,q⟩
theorem eK(T:∀p∈Vi,Kx X.K p.1/\qg X.K p.1 p.2)(b:PE X o ta)(hv:PE X value tv)(hs:yl value (aa (.Attribute o f pos')) pos.line X.env=pure false:=by rfl):PS X (.Assign [.Attribute o f pos'] value pos) (W6 ta tv f):=by intro pz s σ H D I h;refine plainObj_wpAny_Assign_Attribute (fX (hv pz s σ H _ I h) fun u d ⟨y,H1,e,ry,q⟩=>fX (b pz d σ H1 _ e q) fun g t ⟨x,H2,i,j,a,C,dx,fs,ex,k,c,l,m⟩=> ?_) hs;subst ex;obtain⟨c,n⟩:=T _ (mN.mp c);obtain rfl:g=bj.ref a:=j;exact zO i k c n l ry fun v r=>⟨σ,_,r,m⟩
theorem pH(T:∀p∈Vi,Kx X.K p.1/\qg X.K p.1 p.2)(e:PE X o ta)(hv:PE X value tv)(b:S1 X op rd):PS X (.AugAssign (.Attribute o f D_) op value pos) (S2 ta tv rd f):=by intro pz s σ H D I h;refine wpAny_AugAssign_AttributeAny (fX (e pz s σ H _ I h) ?_);rintro g N ⟨x,H1,i,j,a,C,dx,fs,v,ex,k,c,l,q⟩;subst ex;obtain rfl:g=bj.ref a:=j;obtain⟨c,n⟩:=T _ (mN.mp c);exact zM i k c n l fun u m r t=>fX (hv pz m σ H1 _ r q) (by rintro w A ⟨y,H2,B,ry,E⟩;exact fX (b pz A σ H2 v y u w _ B t ry E) fun O P ⟨z,Q,F,G,J,fs',d,K,L⟩=>zO F d c n K G fun R M=>⟨σ,_,M,L⟩)
inductive Z4(x:V)(y:V) H(Q:VK):Prop|mk:∀i j,(x= .int i)->(y= .int j)->(Q (.int (i+j)) H)->Z4 x y H Q
inductive Z5(x:V)(y:V) H(Q:VK):Prop|mk:∀i j,(x= .int i)->(y= .int j)->(Q (.int (i-j)) H)->Z5 x y H Q
theorem zP:S1 X .Add Z4:=by rintro pz s σ H x y u v Q I a ry ⟨i,j,rfl,rfl,q⟩;obtain⟨t,rfl⟩:=(show∃t,u=bj.int i t from a);obtain⟨t',rfl⟩:=(show∃t',v=bj.int j t' from ry);exact PyProof.Rows.iadd_int ⟨.int (i+j),H,I.tok _,⟨_,Z⟩,q⟩
theorem W7:S1 X .Sub Z5:=by rintro pz s σ H x y u v Q I a ry ⟨i,j,rfl,rfl,q⟩;obtain⟨t,rfl⟩:=(show∃t,u=bj.int i t from a);obtain⟨t',rfl⟩:=(show∃t',v=bj.int j t' from ry);exact PyProof.Rows.isub_int ⟨.int (i-j),H,I.tok _,⟨_,Z⟩,q⟩
end
structure jI k(A:gK):Prop where
 hd:A.handled=ae
 dp:A.depth+3*k+5<Ke
 un:A.units+16*k+200<ly
theorem jI.mono(r:jI k A)(h:j<=k:=by decide):jI j A:=⟨r.hd,by have:=r.dp;lia,by have:=r.un;lia⟩
theorem jI.deeper(r:jI (k+1) A)(env:Env):jI k (A.deeper env):=
 ⟨r.hd,by have:=r.dp;show A.depth+1+3*k+5<_;lia,by have:=r.un;show A.units+3+16*k+200<_;lia⟩
theorem jI.in1(r:jI (k+1) A):jI k A.in1:=
 ⟨r.hd,by have:=r.dp;show A.depth+3*k+5<_;lia,by have:=r.un;show A.units+1+16*k+200<_;lia⟩
theorem IP{A:gK}:(A.under (.builtin "type.__call__" ⟨.ref C::us,kw⟩)).depth=A.depth+1:=by rfl
theorem IQ{A:gK}:(A.under (.builtin "type.__call__" ⟨.ref C::us,kw⟩)).units=A.units+1:=by rfl
theorem jI.make(r:jI (k+1) A)(C:Addr)(a:List bj)(b:List (Str×bj)):jI k (A.under (.builtin "type.__call__" ⟨.ref C::a,b⟩)):=
 ⟨r.hd,by have:=r.dp;rw[IP];lia,by have:=r.un;rw[IQ];lia⟩
theorem jI.depth(r:jI k A):A.depth<Ke:=by have:=r.dp;lia
theorem jI.units(r:jI k A):A.units+64<ly:=by have:=r.un;lia
def uv:TA:=fun _ H Q=>Q [] H
def tY(ta:TE)(a:TA):TA:=fun σ H Q=>ta σ H fun x H1=>a σ H1 fun xs H2=>Q (x::xs) H2
section
variable {X:Cx} {e:Expr} {es:List Expr} {te:TE} {t:TA} {pos:Pos}
theorem gW:PA X [] uv:=fun _ _ _ _ H Q I h=>g_ ⟨[],H,I, .nil,h⟩
theorem aR(a:PE X e te)(b:PA X es t)(hs:bV (e::es) X.env=(ag,eval e X.env)::bV es X.env:=by rfl):PA X (e::es) (tY te t):=by intro pos pz s σ H Q I h;rw[hs];show bL _ _ (spliced ((ag,eval e X.env)::gA pos (bV es X.env))) _ _ s;exact fP (fX (a pz s σ H _ I h) (by rintro u c ⟨x,H1,d,f,g⟩;exact fX (b pos pz c σ H1 _ d g) fun l m ⟨xs,H2,i,j,k⟩=>⟨x::xs,H2,i, .cons f j,k⟩))
def ach(t:TA):TE:=fun σ H Q=>t σ H fun xs H1=>xs.length<=br/\∀p,H1 p=ae->Q (.ref p) (upd H1 p (.tup xs))
def aci(t:TA):TE:=fun σ H Q=>t σ H fun xs H1=>xs.length<=br/\∀p,H1 p=ae->Q (.ref p) (upd H1 p (.lst xs))
theorem nG{x1}(h:PA X es t):PE X (.Tuple es x1 pos) (ach t):=by intro pz s σ H Q I d;refine wpAny_Tuple_spliced (fX (h pos pz s σ H _ I d) fun f a ⟨xs,H1,c,r,z,q⟩=>⟨by rw[<-r.length];exact z,?_⟩);refine⟨.ref a.heap.objs.size,upd H1 a.heap.objs.size (.tup xs),c.laid (t':=a.toks) (fun b u e=>aJ _ e) (aQ _) ?_,Z,q _ (c.gT.fresh (aQ _))⟩;exact⟨z,f,r,⟨_,bc _ Z,Z,_,Z⟩⟩
theorem cT(h:PA X es t):PE X (.List es pos) (aci t):=by intro pz s σ H Q I d;refine wpAny_List_spliced (fX (h pos pz s σ H _ I d) fun f a ⟨xs,H1,c,r,z,q⟩=>⟨by rw[<-r.length];exact z,?_⟩);refine⟨.ref a.heap.objs.size,upd H1 a.heap.objs.size (.lst xs),c.laid (t':=a.toks) (fun b u e=>aJ _ e) (aQ _) ?_,Z,q _ (c.gT.fresh (aQ _))⟩;exact⟨z,f,0,r,bc _ Z⟩
end
abbrev Sp:=Hp->VK->List V->Prop
structure Mn P w K mg base(A:gK) outer(s:bH)(H:Hp):Prop where
 frames:A.frames=aa outer
 mod:Mod K mg base
 bs:∀b o,base.get? b=aa o->s.heap.get? b=aa o/\H b=ae
 U9:base.objs.size<=s.heap.objs.size
 BH:s.heap.FunFrames base outer
 ZN:∀b∈Oa outer,H b=ae
 gT:vd P w H s.heap
 bare:Iu s.gens
inductive CE outer P w H(s:bH)(Q:VK) u(s':bH):Prop|mk:∀v H',(s'.os=s.os)->(Iu s'.gens)->(Un (Oa outer) [] H H' s.heap s'.heap)->(vd P w H' s'.heap)->(RelV v u)->(Q v H')->CE outer P w H s Q u s'
def CR(outer:List Env)(P:b7)(w:cW)(H:Hp)(s:bH)(Q:VK)(r:Result)(a:bH):Prop:=
 match r with
 | .ok (.ret u)=>CE outer P w H s Q u a
 |_=>False
structure BJ P w K mg base k f fd(ps:List Str)(sp:Sp):Prop where
 len:∀vs H Q,sp H Q vs->vs.length=ps.length
 run:∀A outer s H args us vs Q,jI k A->Mn P w K mg base A outer s H->BindsTo s fd args (ps.zip us)->Vals vs us->sp H Q vs->
  mM (model P w) A (.call (.ref f) args) (CR outer P w H s Q) s
def Binds(K:aM)(b:FuncData)(ps:List Str):Prop:=
 ∀s a,K.In s.heap->a.length=ps.length->BindsTo s b ⟨a,[]⟩ (ps.zip a)
def Ky(P:b7)(w:cW)(K:aM)(mg:Str->Option bj)(base:Heap)(k:Nat)(f:Addr)(ps:List Str)(b:Sp):Prop:=∃a,jh K (.ref f)=af/\Binds K a ps/\BJ P w K mg base k f a ps b
theorem Ky.imp{K:aM}{e:Sp}(F:Ky P w K mg base j f ps e)(g:j<=k)
  (h:∀vs H Q,sp' H Q vs->e H Q vs):Ky P w K mg base k f ps sp':=
 let ⟨fd,a,b,c⟩:=F
 ⟨fd,a,b,fun vs H Q q=>c.len vs H Q (h _ _ _ q),fun A outer s H d i vs Q l m n hv hs=>c.run A outer s H d i vs Q (l.mono g) m n hv (h _ _ _ hs)⟩
theorem Mn.make{K:aM}(e:Mn P w K mg base A outer s H)(C:Addr)(a:List bj)(b:List (Str×bj)):
  Mn P w K mg base (A.under (.builtin "type.__call__" ⟨.ref C::a,b⟩)) outer s H:=⟨by first|exact e.frames|(exact e.frames),e.mod,e.bs,e.U9,e.BH,e.ZN,e.gT,e.bare⟩
section
variable {X:Cx} {pz:List (Addr×Obj)} {σ:St} {H:Hp} {s s':bH}
theorem Inv.Z6(I:Inv X pz σ H s):Mn X.prog X.w X.K X.mg X.base X.A X.stack s H:=
 ⟨I.ok.frames,I.ok.mod,I.bs,bY I.ok.U9 I.sz,I.stack,I.Kt,I.gT,I.bare⟩
theorem Inv.after(I:Inv X pz σ H s)(h:CE X.stack X.prog X.w H s Q u s'):EP X pz σ Q u s':=by obtain⟨v,H',os,bare,un,gT,r,q⟩:=h;obtain⟨hh,g,d,t,a⟩:=s';obtain rfl:a=s.os:=os;exact⟨v,H',I.call (h':=hh) (g':=g) (d':=d) (t':=t) un gT bare (fun b z=>az z (by simp)),r,q⟩
end
def zQ(a:Sp)(t:TA):TE:=fun σ H Q=>t σ H fun vs H1=>a H1 Q vs
inductive OC C m(sp:Sp)(t:TA) σ Q x H1:Prop|mk:∀a dx fs,(x= .ref a)->(H1 a=aa (.ins C dx fs))->(fs.lookup m=ae)->(t σ H1 fun vs H2=>sp H2 Q (x::vs))->OC C m sp t σ Q x H1
def F6(C:Addr)(m:Str)(a:Sp)(ta:TE)(t:TA):TE:=fun σ H Q=>ta σ H fun x H1=>OC C m a t σ Q x H1
def Kz(C:Addr)(a:Sp)(t:TA):TE:=fun σ H Q=>t σ H fun vs H1=>∀x dx,H1 x=ae->H1 dx=ae->dx≠x->
 a (upd (upd H1 dx (.own x)) x (.ins C dx [])) (fun v H2=>v= .rH/\Q (.ref x) H2) (.ref x::vs)
section
variable {X:Cx} {k:Nat} {f C:Addr} {fd:FuncData} {ps:List Str} {sp:Sp} {x m:Str} {p pos apos:Pos} {e o:Expr} {es:List Expr} {ta:TE} {t:TA}
theorem zR{σ:St}(F:BJ X.prog X.w X.K X.mg X.base k f fd ps sp)(b:jI k X.A)(c:Binds X.K fd ps)
  (I:Inv X pz σ H s) (r:Vals vs us) (h:sp H Q vs):bL (model X.prog X.w) X.A (call (.ref f) us) (EP X pz σ Q) NE s:=by
 refine Bp (mO (F.run X.A X.stack s H ⟨us,[]⟩ us vs Q b I.Z6 (c s us I.BI (r.length▸F.len _ _ _ h)) r h) fun r s' a=> ?_)
 cases r with
 |error e=>exact a
 |ok fl=>
  cases fl with
  |ret u=>exact I.after a
  |_=>exact a
theorem S3(F:BJ X.prog X.w X.K X.mg X.base k f fd ps sp)(b:jI k X.A)(hg:Gl X x)(c:X.mg x=aa (.ref f))(hk:jh X.K (.ref f)=af)(d:Binds X.K fd ps)
  (g:PA X (e::es) t) (i:(x==("__debug__":Str))=false:=by decide) (j:bV (e::es) X.env=(ag,eval e X.env)::bV es X.env:=by rfl) (l:(gA pos (bV es X.env)).any (·.1)=false:=by rfl):
  PE X (.Call (.Name x p) (e::es) [] pos) (zQ sp t):=by
 intro pz s σ H Q I h
 exact dM (vk I hg c (nW I.ok.mod.Y4 hk (fX (g pos pz s σ H _ I h) (by rintro m n ⟨vs,H1,a,r,q⟩;exact⟨a.BI,zR F b d a r q⟩)) j l) i)
theorem OD(F:BJ X.prog X.w X.K X.mg X.base k f fd ps sp)(a:jI k X.A)(hg:Gl X x)(b:X.mg x=aa (.ref f))(hk:jh X.K (.ref f)=af)(c:Binds X.K fd ps)
  (d:(x==("__debug__":Str))=false:=by decide):PE X (.Call (.Name x p) [] [] pos) (zQ sp uv):=by
 intro pz s σ H Q I h
 exact dM (vk I hg b (tS I.BI hk (zR F a c I .nil h)) d)
theorem S4(j:PE X o ta)(c:Kx X.K C)(b:Meth X.K C m f)(F:BJ X.prog X.w X.K X.mg X.base k f fd ps sp)(n:jI k X.A)(p:Binds X.K fd ps)(v:PA X (e::es) t)
  (w:bV (e::es) X.env=(ag,eval e X.env)::bV es X.env:=by rfl) (y:(gA pos (bV es X.env)).any (·.1)=false:=by rfl)
  (z:eval (.Call (.Attribute o m apos) (e::es) [] pos) X.env=(do
   let d<-eval o X.env
   uY apos.atName
   let (f,first)<-holding [d] (getMethod d m pl)
   callWith pos f first (gA pos (bV (e::es) X.env)) (lU pos (iG [] X.env))):=by rfl):
  PE X (.Call (.Attribute o m apos) (e::es) [] pos) (F6 C m sp ta t):=by
 intro pz s σ H Q I h
 refine FK (fX (j pz s σ H _ I h) fun u A ⟨x,H1,g,B,a,dx,fs,ex,D,l,q⟩=> ?_) z
 subst ex
 obtain rfl:u=bj.ref a:=B
 exact zN g D c b l (nW I.ok.mod.Y4 b.kp (fX (v pos pz A σ H1 _ g q) (by rintro G J ⟨vs,H2,i,r,E⟩;exact⟨i.BI,zR (vs:= .ref a::vs) F n p i (.cons rfl r) E⟩)) w y)
theorem OE(g:PE X o ta)(c:Kx X.K C)(d:Meth X.K C m f)(F:BJ X.prog X.w X.K X.mg X.base k f fd ps sp)(i:jI k X.A)(j:Binds X.K fd ps)
  (n:eval (.Call (.Attribute o m apos) [] [] pos) X.env=(do
   let e<-eval o X.env
   uY apos.atName
   let (f,first)<-holding [e] (getMethod e m pl)
   callWith pos f first (gA pos (bV [] X.env)) (lU pos (iG [] X.env))):=by rfl):
  PE X (.Call (.Attribute o m apos) [] [] pos) (F6 C m sp ta uv):=by
 intro pz s σ H Q I h
 refine FK (fX (g pz s σ H _ I h) fun u t ⟨x,H1,b,p,a,dx,fs,ex,r,l,q⟩=> ?_) n
 subst ex
 obtain rfl:u=bj.ref a:=p
 exact zN b r c d l (tS b.BI d.kp (zR (vs:=[.ref a]) F i j b (.cons rfl .nil) q))
structure Mk K(C f):Prop where
 makes:yS K C=af
 init:f_ K (.ref C) "__init__"=aa (aa (.ref f))
 fn:Fu K (.ref f)=af
 kp:jh K (.ref C)=af
theorem F7{σ:St}(M:Mk X.K C f)(F:BJ X.prog X.w X.K X.mg X.base k f fd ps sp)(g:jI (k+1) X.A)(i:Binds X.K fd ps)(I:Inv X pz σ H s)(r:Vals vs us)
  (h:∀x dx,H x=ae->H dx=ae->dx≠x->sp (upd (upd H dx (.own x)) x (.ins C dx [])) (fun v H2=>v= .rH/\Q (.ref x) H2) (.ref x::vs)):
  bL (model X.prog X.w) X.A (call (.ref C) us) (EP X pz σ Q) NE s:=by
 have c:=h (s.heap.objs.size+1) s.heap.objs.size (I.gT.fresh (pZ _)) (I.gT.fresh (aQ _)) (b9 (fY _))
 have a:=Inv.made (C:=C) I
 have d:Vals (V.ref (s.heap.objs.size+1)::vs) (bj.ref (s.heap.objs.size+1)::us):= .cons rfl r
 refine Bp (OB I.BI M.makes M.init (beq_iff_eq.mp M.fn) (mO (F.run _ X.stack _ _ ⟨bj.ref (s.heap.objs.size+1)::us,[]⟩ _ _ _ (g.make C us [])
  (a.Z6.make C us []) (i _ (bj.ref (s.heap.objs.size+1)::us) a.BI (d.length▸F.len _ _ _ c)) d c) fun r s' b=> ?_))
 cases r with
 |error e=>exact b
 |ok fl=>
  cases fl with
  |ret u=>
   obtain⟨v,H',j,l,m,n⟩:=a.after b
   subst m
   exact⟨l,⟨V.ref (s.heap.objs.size+1),H',j,Z,n⟩⟩
  |_=>exact b
theorem S5(M:Mk X.K C f)(F:BJ X.prog X.w X.K X.mg X.base k f fd ps sp)(b:jI (k+1) X.A)(hg:Gl X x)(c:X.mg x=aa (.ref C))(d:Binds X.K fd ps)
  (g:PA X (e::es) t) (i:(x==("__debug__":Str))=false:=by decide) (j:bV (e::es) X.env=(ag,eval e X.env)::bV es X.env:=by rfl) (l:(gA pos (bV es X.env)).any (·.1)=false:=by rfl):
  PE X (.Call (.Name x p) (e::es) [] pos) (Kz C sp t):=by
 intro pz s σ H Q I h
 exact dM (vk I hg c (nW I.ok.mod.Y4 M.kp (fX (g pos pz s σ H _ I h) (by rintro m n ⟨vs,H1,a,r,q⟩;exact⟨a.BI,F7 M F b d a r q⟩)) j l) i)
theorem OF(M:Mk X.K C f)(F:BJ X.prog X.w X.K X.mg X.base k f fd ps sp)(a:jI (k+1) X.A)(hg:Gl X x)(b:X.mg x=aa (.ref C))(c:Binds X.K fd ps)
  (d:(x==("__debug__":Str))=false:=by decide):PE X (.Call (.Name x p) [] [] pos) (Kz C sp uv):=by
 intro pz s σ H Q I h
 exact dM (vk I hg b (tS I.BI M.kp (F7 M F a c I .nil h)) d)
end
structure mZ(N P:List Str)(sc:tQ):Prop where
 kind:sc.kind= .function
 co:sc.isCoroutine=ag
 gen:sc.isGenerator=ag
 nd:N.Nodup
 pre:N.take P.length=P
 par:∀x∈P,sc.names.lookup x=aa .local\/sc.names.lookup x=aa .cell
 W8:∀y∈sc.names,y.2≠ .free
theorem CJ{b:Str->Option jo}:∀{a:List (Str×bj)} {m:Str->Option bj},(∀v,(x,v)∉a)->UQ b a m x=m x
 |[],_,_=>rfl
 |(n,v)::r,m,h=>by
  dsimp only[UQ];rw[CJ fun w hw=>h w (aO _ hw)];split
  .have:x≠n:=by rintro rfl;exact h v aT
   simp[this]
  .rfl
theorem CK{b:Str->Option jo}:∀{a:List (Str×bj)} {m:Str->Option bj},(∀v,(x,v)∉a)->UR b a m x=m x
 |[],_,_=>rfl
 |(n,v)::r,m,h=>by
  dsimp only[UR];rw[CK fun w hw=>h w (aO _ hw)];split
  .rfl
  .have:x≠n:=by rintro rfl;exact h v aT
   simp[this]
theorem CN{a:Str->Option jo}:∀{P:List Str} {vs:List bj} {i:Nat} {m:Str->Option bj},P.Nodup->P[i]? =aa x->vs[i]? =aa v->a x=aa .local->
  UQ a (P.zip vs) m x=aa v
 |[],_,_,_,_,h,_,_=>by simp at h
 |_::_,[],_,_,_,_,h,_=>by simp at h
 |p::P,w::vs,0,m,nd,h1,h2,hk=>by
  simp at h1 h2;subst h1;subst h2
  show UQ a ((p,w)::P.zip vs) m p=_
  dsimp only[UQ]
  rw[CJ fun v hv=>(c8.mp nd).1 (Bv hv).1,ai hk]
  simp
 |p::P,w::vs,i+1,m,nd,h1,h2,hk=>by
  unfold UQ
  exact CN (c8.mp nd).2 (by exact h1) (by exact h2) hk
theorem CO{a:Str->Option jo}:∀{P:List Str} {vs:List bj} {i:Nat} {m:Str->Option bj},P.Nodup->P[i]? =aa x->vs[i]? =aa v->a x≠aa .local->
  UR a (P.zip vs) m x=aa v
 |[],_,_,_,_,h,_,_=>by simp at h
 |_::_,[],_,_,_,_,h,_=>by simp at h
 |p::P,w::vs,0,m,nd,h1,h2,hk=>by
  simp at h1 h2;subst h1;subst h2
  show UR a ((p,w)::P.zip vs) m p=_
  dsimp only[UR]
  rw[CK fun v hv=>(c8.mp nd).1 (Bv hv).1,ak hk]
  simp
 |p::P,w::vs,i+1,m,nd,h1,h2,hk=>by
  unfold UR
  exact CO (c8.mp nd).2 (by exact h1) (by exact h2) hk
def start(N:List Str)(vs:List V):St:=vs.map aa++List.replicate (N.length-vs.length) ae
structure Fm where
 f:Addr
 c:bj
 A:gK
 o:List Env
 s:bH
abbrev Fm.v(r:Fm)(b:Str)(a:tQ):Env:=envOfC b a r.s.heap.objs.size r.f r.c
def W9(P:b7)(w:cW)(K:aM)(mg:Str->Option bj)(base:Heap)(N:List Str)(b:Str)(a:tQ)(r:Fm)(H:Hp):Cx where
 prog:=P
 w:=w
 K:=K
 mg:=mg
 base:=base
 A:=r.A.deeper (r.v b a)
 N:=N
 Cz:=r.s
 ZM:=H
 env:=r.v b a
 outer:=r.o
 stack:=r.v b a::r.o
 ex:=[]
 calm:=af
 fn:=fun _=>af
 pn:=[]
theorem F8{a:tQ}(h:a.names.lookup x=aa .cell):∃c,(fE n a.names []).lookup x=aa c:=by exact pD.mp (Fv a.names n [] (.inl h))
theorem Mo{K:aM}
  (S:mZ N ps scope) (hd:A.handled=ae) (d:Mn P w K mg base A outer s H) (hl:vs.length=ps.length) (r:Vals vs us)
  (x:InCallC s s.heap.objs.size (UQ (envOfC qual scope s.heap.objs.size f cd).kindOf (ps.zip us) fun _=>ae) (fE (s.heap.objs.size+1) scope.names []) (UR (envOfC qual scope s.heap.objs.size f cd).kindOf (ps.zip us) fun _=>ae) s1):
  Inv (W9 P w K mg base N qual scope ⟨f,cd,A,outer,s⟩ H) [] (start N vs) H s1:=by
 have C:ps.length<=N.length:=by have:=congrArg List.length S.pre;rw[bA] at this;lia
 obtain⟨h1,tk,rfl,hk⟩:=x.done
 have m:∀b:Addr,b∉(W9 P w K mg base N qual scope ⟨f,cd,A,outer,s⟩ H).ex:=fun b z=>az (show b∈([]) from z) (by simp)
 refine⟨⟨d.mod,S.kind,Z,Z,aQ _,fun y z c h1 h2=> ?_,fun y g=> ?_,fun y c _ h=> ?_,fun _=>hd,gK.frames_deeper d.frames, .inr ⟨Z,Z⟩,fun b z=>az z (m b),d.bs,d.U9,fun b _ _=>m b,fun b z=>az z (m b),d.BH,d.ZN⟩,
  rfl,d.bare,Un.kept hk,⟨_,x.toInCall.ns,fun i y v h1 h2 D=> ?_⟩,fun y c h=>⟨_,x.cell y c h⟩,d.gT.fresh (aQ _),fun y c h=> ?_,fun p j=>az (show p∈([]) from j) (by simp),d.gT.kept hk,?_⟩
 .exact name_of_addr x.apart (c7 h1) (c7 h2)
 .have g:=g
  rcases g with g|g
  .exact F8 g
  .exact az Z (S.W8 _ (c7 g))
 .exact oB (x.above y c (c7 h))
 .have n:i<vs.length:=by
   unfold start at h2
   by_cases n:i<vs.length
   .exact n
   simp_all [cM,List.getElem?_replicate]
  have t:vs[i]? =aa v:=by
   unfold start at h2
   rw[cH (by simpa using n),bp] at h2
   cases e:vs[i]? with
   |none=>rw[e] at h2;cases h2
   |some a=>rw[e] at h2;cases h2;rfl
  obtain⟨u,o,B⟩:=r.get t
  have j:ps[i]? =aa y:=by
   rw[<-S.pre,FN (by lia)];exact h1
  have l:ps.Nodup:=by rw[<-S.pre];exact S.nd.sublist (ym _ _)
  refine⟨u,B,?_⟩
  rcases S.par y (bC j) with k|k
  .exact .inl ⟨k,CN l j o k⟩
  .obtain⟨c,e⟩:=F8 k
   refine .inr ⟨.inl k,c,e,?_⟩
   have q:=x.cell y c e
   rw[CO l j o (by show scope.names.lookup y≠_;rw[k];decide)] at q
   exact q
 .exact d.gT.fresh (oB (x.above y c (c7 h)))
 .unfold start
  show _=N.length
  rw[aG,aE,List.length_replicate]
  lia
def qh(s:Stmt):Arguments:=match s with| .FunctionDef _ a _ _ _ _ _ _ _ _=>a|_=>{posonlyargs:=[],args:=[],vararg:=ae,kwonlyargs:=[],kw_defaults:=[],kwarg:=ae,defaults:=[]}
def oF(s:Stmt):List Stmt:=match s with| .FunctionDef _ _ b _ _ _ _ _ _ _=>b|_=>[]
def fZ(s:Stmt):tQ:=match s with| .FunctionDef _ _ _ _ _ _ a _ _ _=>a|_=>{kind:= .function,names:=[],isGenerator:=ag,isCoroutine:=ag}
abbrev Bd(P:b7)(w:cW)(K:aM)(mg:Str->Option bj)(base:Heap)(k:Nat)(N:List Str)(a:Str)(st:Stmt)(sp:Sp)(r:Fm):Prop:=∀(H:Hp) (vs:List V) (Q:VK),N.Nodup->jI k (r.A.deeper (r.v a (fZ st)))->sp H Q vs->
 ∃t,Sa (W9 P w K mg base N a (fZ st) r H) (oF st) t/\t {nx:=fun _ H'=>Q .rH H',rt:=Q} (start N vs) H
theorem Z8{K:aM}{i kV a j g ct oc:bj}{st:Stmt}
  (p:K.lookup f=aa ⟨oc,od, .func (nj name qual (qh st) (oF st) (fZ st) i kV a j an g ct),osl⟩) (z:Bq K g qual=af) (S:mZ N ps (fZ st))
  (len:∀vs H Q,sp H Q vs->vs.length=ps.length)
  (B:∀A o s,Bd P w K mg base k N qual st sp ⟨f,g,A,o,s⟩):
  BJ P w K mg base (k+1) f (nj name qual (qh st) (oF st) (fZ st) i kV a j an g ct) ps sp:=by
 refine⟨len,fun A outer s H l C vs Q h c D r d=> ?_⟩
 have m:=c.mod.Y4.keeps fun b o e=>(c.bs b o e).1
 have E:∀y∈ps.zip C,(fZ st).names.lookup y.1=aa .local\/((fZ st).names.lookup y.1=aa .cell/\((fE (s.heap.objs.size+1) (fZ st).names []).lookup y.1).isSome=af):=fun⟨n,v⟩ F=>by
  rcases S.par n (Bv F).1 with q|q
  .exact .inl q
  .exact .inr ⟨q,Fv _ _ _ (.inl q)⟩
 refine codeAny_call_function h.depth (m _ _ p) Z S.co S.gen Z (PySem.W.codeRec_of m z) (D _ _ _ _ (wpAny_newFunctionEnv_cells S.kind E fun env G I x=> ?_))
 subst G
 refine⟨(c.mod.nolimit.keeps fun b o e=>(c.bs b o e).1).keeps x.toInCall.keep,codeAny_func ?_⟩
 obtain⟨t,L,M⟩:=B A outer s H vs Q S.nd (h.deeper _) d
 refine gZ (L [] I (start N vs) H _ (Mo S h.hd c (len _ _ _ d) r x) M) (fun fl s' hs=> ?_) fun e s' hs=>hs.elim
 cases fl with
 |ret u=>
  obtain⟨v,O,H',J,R,q⟩:=hs
  exact⟨v,H',J.os,J.bare,J.base,J.gT,R,q⟩
 |next=>
  obtain⟨O,H',J,q⟩:=hs
  exact⟨.rH,H',J.os,J.bare,J.base,J.gT,Z,q⟩
 |brk=>
  obtain⟨_,_,_,q⟩:=hs
  exact Cn q
 |cont=>
  obtain⟨_,_,_,q⟩:=hs
  exact Cn q
section
variable {X:Cx} {x:Str} {p pos:Pos} {e:Expr} {es:List Expr} {t:TA} {id T:String} {r:List V->Hp->VK->Prop}
def W_(r:List V->Hp->VK->Prop)(t:TA):TE:=fun σ H Q=>t σ H fun vs H1=>r vs H1 Q
theorem ja(a:pG X (.builtin id) r)(hg:Gl X x)(b:X.mg x=ae)(hv:uX x=aa (.builtin id))(c:PA X (e::es) t)(hn:x≠"__name__":=by decide)(d:(x==("__debug__":Str))=false:=by decide)
  (f:bV (e::es) X.env=(ag,eval e X.env)::bV es X.env:=by rfl) (g:(gA pos (bV es X.env)).any (·.1)=false:=by rfl):PE X (.Call (.Name x p) (e::es) [] pos) (W_ r t):=by
 intro pz s σ H Q I h
 exact dM (kE I hg b hv (lA (fX (c pos pz s σ H _ I h) (by rintro i j ⟨vs,H1,k,l,m⟩;exact a pz j σ H1 vs i Q k l m)) f g) hn d)
theorem sP(a:pG X (.type T) r)(hg:Gl X x)(b:X.mg x=ae)(hv:uX x=aa (.type T))(c:PA X (e::es) t)(hn:x≠"__name__":=by decide)(d:(x==("__debug__":Str))=false:=by decide)
  (f:bV (e::es) X.env=(ag,eval e X.env)::bV es X.env:=by rfl) (g:(gA pos (bV es X.env)).any (·.1)=false:=by rfl):PE X (.Call (.Name x p) (e::es) [] pos) (W_ r t):=by
 intro pz s σ H Q I h
 exact dM (kE I hg b hv (cU (fX (c pos pz s σ H _ I h) (by rintro i j ⟨vs,H1,k,l,m⟩;exact a pz j σ H1 vs i Q k l m)) f g) hn d)
end
end L2
namespace HT
open PySem PyProof.Rows
def lexLt:List Int->List Int->Bool|[],[]=>ag|[],_::_=>af|_::_,[]=>ag|x::xs,y::ys=>if x=y then lexLt xs ys else ah (x<y)
theorem uw(x y:Int)(xs ys:List Int):lexLt (x::xs) (y::ys)=if x=y then lexLt xs ys else ah (x<y):=rfl
theorem tZ:lexLt [] []=false:=rfl
theorem zS(y:Int)(ys:List Int):lexLt [] (y::ys)=true:=rfl
theorem zT(x:Int)(xs:List Int):lexLt (x::xs) []=false:=rfl
theorem OG(A:gK)(s:bH)(a:Int)(t:Tok)(c:Int)(u:Tok):∃e,SeqAt.EqAt A s (.int a t) (.int c u) e/\(e=af↔a=c):=
 ⟨(a==c),SeqAt.EqAt.int_int a t c u,by simp⟩
theorem OH(A:gK)(s:bH)(a:Int)(t:Tok)(c:Int)(u:Tok)(prog:b7)(w:cW)(E:bj->bH->Prop)(Q:bj->bH->Prop)(h:Q (.bool (ah (a<c))) s):
  bL (model prog w) A (US .Lt (.int a t) (.int c u)) Q E s:=
 (PyProof.Rows.lt_int h)
section
open PySem.SeqAt
open PySem.AutoSeq1 (wpAny_loadPart')
open PySem.MeetsSeq PySem.MeetsSeq2 PySem.MeetsSeq3
theorem BK(l b:Addr)(f k:Array bj)(n K:Nat)(L z:Option Addr)(M B:Array (Option bj))(ns ms:List Int)(H:rB f.toList ns)(I:rB k.toList ms):
  Zv (Builtin.«tuple.__lt__» ⟨[.ref l, .ref b],[]⟩)
   (fun _ R s=>s.heap.get? l=aa {cls:= .type "tuple",dict:=L,data:= .seq f n,slots:=M}/\s.heap.get? b=aa {cls:= .type "tuple",dict:=z,data:= .seq k K,slots:=B}/\
    R (.ok (.ret (.bool (lexLt ns ms)))) s):=
 .of_wp fun prog w A R s h=>by
  obtain⟨p,g,d,tk,os⟩:=s;obtain⟨hl,N,h⟩:=h
  have T:=AutoSeq1.sub_tuple_tuple
  have U:f.size=ns.length:=by rw[<-H.length];simp
  have V:k.size=ms.length:=by rw[<-I.length];simp
  wp_walk using lY hl,lY N,tT _ (fun rest b s'=>b.1=ae/\s'=⟨p,g,d,tk,os⟩/\∃vs r m o,rest=vs.zip r/\
   rB vs m/\rB r o/\m.length+k.size=o.length+f.size/\R (.ok (.ret (.bool (lexLt m o)))) ⟨p,g,d,tk,os⟩) _
  case turn=>
   rintro⟨y,x⟩ rest b s' ⟨C,rfl,vs,r,m,o,D,j,v,i,hR⟩
   cases j with
   |nil=>simp_all
   |cons a t E=>
    cases v with
    |nil=>simp_all
    |cons c u F=>
     dsimp only[List.zip_cons_cons] at D
     injection D with G O
     injection G with P Q
     subst P Q
     rw[uw] at hR
     simp only[aK] at i
     obtain⟨e,S,J⟩:=OG A.in1 ⟨p,g,d,tk,os⟩ a t c u
     refine aF (S prog w _ _ ?_)
     cases e with
     |true=>
      rw[ai (J.mp Z)] at hR
      wp_walk
      exact⟨Z,Z,_,_,_,_,O,E,F,by lia,hR⟩
     |false=>
      rw[ak (fun q=>az (J.mpr q) fQ)] at hR
      wp_walk using (OH A.in1 ⟨p,g,d,tk,os⟩ a t c u prog w)
      exact⟨_,Z,by simp_all⟩
  case fin=>
   rintro⟨W,X⟩ s' ⟨C,rfl,vs,r,m,o,D,j,v,i,hR⟩
   simp only at C
   subst C
   have hv:lexLt m o=ah (f.size<k.size):=by
    cases j with
    |nil=>
     cases v with
     |nil=>
      simp only[bQ] at i
      rw[tZ]
      exact(aw (by lia)).symm
     |cons c u hw=>
      simp only[bQ,aK] at i
      rw[zS]
      exact(au (by lia)).symm
    |cons a t hv=>
     cases v with
     |nil=>
      simp only[bQ,aK] at i
      rw[zT]
      exact(aw (by lia)).symm
     |cons c u hw=>
      simp_all
   rw[hv] at hR
   wp_walk
   exact⟨_,Z,by assumption⟩
  case h=>
   exact⟨Z,Z,f.toList,k.toList,ns,ms,Z,H,I,by lia,h⟩
end
section
variable {prog:b7} {w:cW} {A:gK} {E:bj->bH->Prop} {s:bH}
theorem IU(hl:IsTup s.heap l items)(k:IsTup s.heap b qi)(m:rB items.toList ns)(o:rB qi.toList ms)
  (p:A.units<ly) (h:Q (.bool (lexLt ns ms)) s):bL (model prog w) A (compareOp .Lt (.ref l) (.ref b)) Q E s:=by
 obtain⟨⟨cls,q,f,r⟩,ho,g,n,hd⟩:=id hl
 obtain⟨⟨t,c,d,e⟩,i,j,u,a⟩:=id k
 simp only at g hd j a
 subst g hd j a
 exact richCompare_meets_room (op:= .Lt) ⟨_,ho,Z⟩ ⟨_,i,Z⟩ PySem.F.slot_tuple_lt PySem.F.entry_tuple_lt (PySem.F.args_tuple_lt_2 _ _) (BK l b items qi n u q c r e ns ms m o)
  ⟨ho,i,show bj.bool (lexLt ns ms)≠bj.notImplemented/\Q (.bool (lexLt ns ms)) s from⟨(fun x=>nomatch x),h⟩⟩ p
def nu(n d:Nat):Option Int->Nat|none=>d|some v=>if v<0 then(v+n).toNat else min v.toNat n
theorem vq(n d:Nat):nu n d ae=d:=rfl
theorem qj(n d k:Nat):nu n d (aa (k:Int))=min k n:=by rfl
theorem OI(n d:Nat)(hd:d<=n)(o:Option Int):nu n d o<=n:=by
 cases o with
 |none=>exact hd
 |some v=>
  show(if v<0 then(v+n).toNat else min v.toNat n)<=n;by_cases hv:v<0
  .rw[ai hv];lia
  .rw[ak hv];exact eU _ _
end
end HT
namespace L2
open PySem PySem.Spec PyProof.Rows
abbrev TO:=St->Hp->(Option Int->Hp->Prop)->Prop
def PO(X:Cx)(e:Option Expr)(t:TO):Prop:=
 ∀pz s (σ:St) H Q,Inv X pz σ H s->t σ H Q->
  bL (model X.prog X.w) X.A (evalPart e X.env) (fun u s'=>∃o H',Inv X pz σ H' s'/\IsPart u o/\Q o H') NE s
def S7:TO:=fun _ H Q=>Q ae H
inductive OJ(Q:Option Int->Hp->Prop)(x:V) H1:Prop|mk:∀i,(x= .int i)->(Q (aa i) H1)->OJ Q x H1
def OK(t:TE):TO:=fun σ H Q=>t σ H fun x H1=>OJ Q x H1
section
variable {X:Cx} {e:Expr} {te:TE} {lo hi:Option Expr} {tl th:TO} {pos p2:Pos}
theorem kU:PO X ae S7:=by intro pz s σ H Q I h;dsimp only[evalPart_none];exact aU ⟨ae,H,I, .none,h⟩
theorem ir(h:PE X e te):PO X (aa e) (OK te):=by intro pz s σ H Q I hw;dsimp only[evalPart_some];refine fX (h pz s σ H _ I hw) ?_;rintro u d ⟨x,H1,a,b,c⟩;obtain⟨i,rfl,q⟩:=c;obtain⟨t,rfl⟩:=b;exact⟨aa i,H1,a, .int i t,q⟩
def SlR(X:Cx)(r:V->Option Int->Option Int->Hp->VK->Prop):Prop:=
 ∀pz s (σ:St) H x (v vl vu) (lo hi) sl Q,Inv X pz σ H s->RelV x v->s.heap.IsSliceOf sl vl vu .none->IsPart vl lo->IsPart vu hi->r x lo hi H Q->
  ∃T id,Br (.type T) "__getitem__"=pure (aa (.builtin id))/\s.TypeIs v T/\bL (model X.prog X.w) X.A (getItem v (.ref sl)) (EP X pz σ Q) NE s
def tSl(r:V->Option Int->Option Int->Hp->VK->Prop)(te:TE)(tl th:TO):TE:=fun σ H Q=>te σ H fun x H1=>tl σ H1 fun l H2=>th σ H2 fun u a=>r x l u a Q
theorem ig(i:SlR X r)(j:PE X e te)(hl:PO X lo tl)(k:PO X hi th):PE X (.Subscript e (.Slice lo hi ae p2) pos) (tSl r te tl th):=by intro pz s σ H Q I h;refine Bs (fX (j pz s σ H _ I h) fun v m ⟨x,H1,n,o,p⟩=>wpAny_Slice (fX (hl pz m σ H1 _ n p) fun d t ⟨l,H2,w,y,z⟩=>fX (k pz t σ H2 _ w z) ?_));rintro f a ⟨u,g,A,B,C⟩;dsimp only[evalPart_none];refine aU ?_;have D:Inv X pz σ g {a with heap:=a.heap.push {cls:= .type "slice",data:= .fields #[d,f, .none]}}:=A.kept (t':=a.toks) fun b G q=>aJ _ q;obtain⟨T,id,E,F,hg⟩:=i pz {a with heap:=a.heap.push {cls:= .type "slice",data:= .fields #[d,f, .none]}} σ g x v d f l u a.heap.objs.size Q D o (Heap.IsSliceOf.new ..) y B C;exact tail_any F E hg (by rfl)
def tJ(xs:List V)(lo hi:Option Int):List V:=(xs.drop (HT.nu xs.length 0 lo)).take (HT.nu xs.length xs.length hi-HT.nu xs.length 0 lo)
theorem F_(xs:List V)(lo hi:Option Int):(tJ xs lo hi).length<=xs.length:=by unfold tJ;rw[bA,cz];lia
end
def NO(n:Nat)(i:Int):Option Nat:=if 0<=i then(if i<n then aa i.toNat else ae) else if -n<=i then aa (i+n).toNat else ae
def Ga{a:Type}(xs:List a)(i:Int):Option a:=(NO xs.length i).bind fun j=>xs[j]?
theorem KC(h:NO n i=aa j):Fw i n=aa j/\j<n/\-(n:Int)<=i/\i<n:=by
 unfold NO at h;by_cases a:0<=i
 .rw[ai a] at h;by_cases h1:i<n
  .rw[ai h1] at h;have e:=aW h;exact⟨by rw[UT a h1,e],by lia,by lia,h1⟩
  simp_all
 .rw[ak a] at h;by_cases h1: -n<=i
  .rw[ai h1] at h;have e:=aW h;exact⟨by simp_all [RT],by lia,h1,by lia⟩
  simp_all
theorem KD{a:Type}{xs:List a}{v:a}(h:Ga xs i=aa v):∃j,Fw i xs.length=aa j/\xs[j]? =aa v/\j<xs.length/\-(xs.length:Int)<=i/\i<xs.length:=by unfold Ga at h;cases e:NO xs.length i with|none=>simp_all|some j=>rw[e] at h;obtain⟨h1,h2,b,c⟩:=KC e;exact⟨j,h1,h,h2,b,c⟩
theorem cB{a:Type}{xs:List a}{j:Nat}{v:a}(h:xs[j]? =aa v):Ga xs (j:Int)=aa v:=by
 have b:=(aV.mp h).1;have e:NO xs.length j=aa j:=by unfold NO;rw[ai (by simp),ai (by lia)];rfl
 unfold Ga;rw[e];exact h
theorem zU{a:Type}(xs:List a)(v:a):Ga (xs++[v]) (-1)=aa v:=by
 have hl:(xs++[v]).length=xs.length+1:=by simp
 have e:NO (xs++[v]).length (-1)=aa xs.length:=by unfold NO;rw[hl,ak (by decide),ai (by lia)];congr 1;lia
 unfold Ga;rw[e];simp
def S8(b:Expr):Prop:=∀o i,subscripted b ag o i=operate [o,i] (getItem o i)
def IxR(X:Cx)(r:R2):Prop:=
 ∀value a pz s (σ:St) H (x y) (v u) Q,Inv X pz σ H s->RelV x v->RelV y u->r x y H Q->
  subscripted a ag v u=operate [v,u] (getItem v u)->bL (model X.prog X.w) X.A (subscriptTail value a v u) (EP X pz σ Q) NE s
def Sf(X:Cx)(id:String)(r:V->List V->Hp->VK->Prop):Prop:=
 ∀pz s (σ:St) H x xs v us Q,Inv X pz σ H s->RelV x v->Vals xs us->r x xs H Q->
  bL (model X.prog X.w) X.A (call (.builtin id) (v::us)) (EP X pz σ Q) NE s
section
variable {X:Cx} {a b:Expr} {ta tb:TE} {pos:Pos}
theorem bM(c:IxR X r)(d:PE X a ta)(e:PE X b tb)(hs:S8 b:=by exact fun _ _=>rfl):PE X (.Subscript a b pos) (SV r ta tb):=by intro pz s σ H Q I h;exact Bs (WZ d e I h fun v u f x y H2 g i ry q=>c a b pz f σ H2 x y v u Q g i ry q (hs _ _))
inductive Xa K(x:V)(y:V) H(Q:VK):Prop|mk:∀p xs i v,(x= .ref p)->(y= .int i)->(jD K H p xs)->(Ga xs i=aa v)->(Q v H)->Xa K x y H Q
inductive Xb K(x:V)(y:V) H(Q:VK):Prop|mk:∀p xs i v,(x= .ref p)->(y= .int i)->(oW K H p xs)->(Ga xs i=aa v)->(Q v H)->Xb K x y H Q
theorem bP:IxR X (Xa X.K):=by
 intro value a pz s σ H x y v u Q I f ry h hs;obtain⟨p,xs,i,z,rfl,rfl,g,k,q⟩:=h;subst f;obtain⟨t,rfl⟩:=ry;obtain⟨its,r,b,o⟩:=I.list g;obtain⟨j,h1,h2,A,l,m⟩:=KD k;obtain⟨w,d,n⟩:=r.get h2;have hl:=r.length;have hn:=wO;have fin:EP X pz σ Q w s:=⟨z,H,I,n,q⟩;by_cases e:0<=i
 .have c:i.toNat=j:=by rw[UT e m] at h1;exact aW h1
  exact item_listR b.isList e (by lia) (by rw[c];simpa using d) fin hs
 .have c:(i+its.toArray.size).toNat=j:=by rw[RT (by lia) l] at h1;rw[bz,<-hl];exact aW h1
  exact RV b.isList.typeIs Zw.lookup (wpAny_getItem_list_neg b.isList (by lia) (by rw[bz]<;>lia) (by lia) (by rw[c];simpa using d) ⟨Z,fin⟩) hs
theorem di:IxR X (Xb X.K):=by intro value a pz s σ H x y v u Q I c ry h hs;obtain⟨p,xs,i,z,rfl,rfl,d,e,q⟩:=h;subst c;obtain⟨t,rfl⟩:=ry;obtain⟨its,r,b,k⟩:=I.tuple d;obtain⟨j,h1,h2,l,m,n⟩:=KD e;obtain⟨w,f,g⟩:=r.get h2;have hn:=wO;exact RV b.typeIs slot_tuple_getitem.lookup (getItem_tuple b (by lia) (by lia) (by rw[bz,<-r.length];exact h1) (by simpa using f) ⟨Z,⟨z,H,I,g,q⟩⟩) hs
theorem IV(its:List bj)(n j:Nat)(u:bj):jJ (·.setIfInBounds j u) {cls:= .type "list",data:= .seq its.toArray n}={cls:= .type "list",data:= .seq (its.set j u).toArray n}:=by simp[jJ]
theorem Inv.lst{σ:St}(I:Inv X pz σ H s)(h:H p=aa (.lst xs)):
  ∃(its:List bj) (n:Nat),Vals xs its/\s.heap.get? p=aa {cls:= .type "list",data:= .seq its.toArray n}/\xs.length<=br:=by
 obtain⟨z,its,n,r,e⟩:=I.gT p _ h
 exact⟨its,n,r,e,z⟩
theorem Inv.Xc{σ:St}{its its':List bj}(I:Inv X pz σ H s)(h:H p=aa (.lst xs))
  (ho:s.heap.get? p=aa {cls:= .type "list",data:= .seq its.toArray n}) (a:f {cls:= .type "list",data:= .seq its.toArray n}={cls:= .type "list",data:= .seq its'.toArray n'}) (r:Vals ys its') (d:ys.length<=br) (t:Nat):
  Inv X pz σ (upd H p (.lst ys)) {s with heap:=s.heap.update p f,toks:=t}:=by
 have e:(s.heap.update p f).get? p=aa {cls:= .type "list",data:= .seq its'.toArray n'}:=by
  rw[dc f ho (by rw[a]<;>rfl),a]
 refine I.write (by rw[h];trivial) (.inl rfl) (fun b u g q=>(dU _ _ (bF g)).trans q) ⟨_,e⟩ ?_
 exact⟨d,its',n',r,e⟩
inductive Vl(o:V)(i:V) v H(Q:(Hp->Prop)):Prop|mk:∀p xs k j,(o= .ref p)->(i= .int k)->(H p=aa (.lst xs))->(NO xs.length k=aa j)->(Q (upd H p (.lst (xs.set j v))))->Vl o i v H Q
theorem set_list:ZV X Vl:=by
 intro pz s σ H o i v w iv u Q I ro f g h;obtain⟨p,xs,k,j,rfl,rfl,a,l,q⟩:=h;subst ro;obtain⟨t,rfl⟩:=f;obtain⟨its,n,r,ho,m⟩:=I.lst a;obtain⟨h1,h2,b,c⟩:=KC l;have hl:=r.length;have hn:=wO;have d:= I.Xc a ho (IV its n j u) (r.set g j) (by rw[UU];exact m) s.toks;by_cases e:0<=k
 .have hk:k.toNat=j:=by rw[UT e c] at h1;exact aW h1
  exact PySem.W.ki_setAt ho e (by lia) (by rw[bz,<-hl];exact c) (by rw[hk];exact⟨_,d,q⟩)
 .have hk:(k+its.toArray.size).toNat=j:=by rw[RT (by lia) b] at h1;rw[bz,<-hl];exact aW h1
  exact PySem.W.ki_setBack ho (by lia) (by rw[bz,<-hl];exact b) (by lia) (by rw[hk];exact⟨_,d,q⟩)
theorem Eb(lo hi:Option Int)(n:Nat):(xG lo hi ae n).1=((HT.nu n 0 lo:Nat):Int)/\(xG lo hi ae n).2.1=((HT.nu n n hi:Nat):Int)/\(xG lo hi ae n).2.2=1:=by
 refine⟨?_,?_,rfl⟩
 .cases lo with
  |none=>rfl
  |some i=>
   simp only[xG,HT.nu,yn,show(1:Int)>0 by decide,if_true]
   by_cases h:i<0
   .simp only[h,if_true]<;>lia
   .simp only[h,if_false]<;>lia
 .cases hi with
  |none=>rfl
  |some i=>
   simp only[xG,HT.nu,yn,show(1:Int)>0 by decide,if_true]
   by_cases h:i<0
   .simp only[h,if_true]<;>lia
   .simp only[h,if_false]<;>lia
theorem BL(its:List bj)(lo hi:Option Int):slicePick its.toArray lo hi ae=((its.drop (HT.nu its.length 0 lo)).take (HT.nu its.length its.length hi-HT.nu its.length 0 lo)).toArray:=by obtain⟨h1,h2,a⟩:=Eb lo hi its.toArray.size;unfold slicePick;rw[h1,h2,a];simp only[sliceRange_one,pick_run,bz]<;>rfl
inductive Xd K(x:V) lo hi H(Q:VK):Prop|mk:∀a xs,(x= .ref a)->(jD K H a xs)->(∀p,H p=ae->Q (.ref p) (upd H p (.lst (tJ xs lo hi))))->Xd K x lo hi H Q
theorem jP:SlR X (Xd X.K):=by intro pz s σ H x v k l lo hi m Q I e hs f g h;obtain⟨a,xs,rfl,i,q⟩:=h;subst e;obtain⟨its,r,d,j⟩:=I.list i;have c:=r.length;refine⟨"list",_,Zw.lookup,d.isList.typeIs,?_⟩;refine wpAny_getItem_list_slice d.isList hs f g .none (by simp) ?_ (by rw[bz]<;>lia);rw[BL,<-c];refine⟨.ref s.heap.objs.size,_,I.laid (t':=s.toks) (fun b n q=>aJ _ q) (aQ _) ?_,Z,q _ (I.gT.fresh (aQ _))⟩;exact⟨bY (F_ xs lo hi) j,_,0,(r.drop (HT.nu xs.length 0 lo)).take (HT.nu xs.length xs.length hi-HT.nu xs.length 0 lo),bc _ Z⟩
theorem Ec:pG X (.builtin "len") (fun xs H Q=>∃p ys,xs=[.ref p]/\(jD X.K H p ys\/oW X.K H p ys)/\Q (.int ys.length) H):=by
 intro pz s σ H xs g Q I r h;obtain⟨p,ys,rfl,b,q⟩:=h;obtain⟨u,rfl,e⟩:=vals1 r;subst e;have hn:=wO;rcases b with b|b
 .obtain⟨its,c,d,f⟩:=I.list b;have a:=c.length;exact Calls.call_len_list d.isList (by simp only[bz]<;>lia) ⟨.int ys.length,H,I.tok _,⟨s.toks+1,by rw[bz,a]⟩,q⟩
 .obtain⟨its,c,d,f⟩:=I.tuple b;have a:=c.length;exact len_tuple d (by simp only[bz]<;>lia) ⟨.int ys.length,H,I.tok _,⟨s.toks+1,by rw[bz,a]⟩,q⟩
theorem Ed:pG X (.builtin "len") (fun xs H Q=>∃z,xs=[.str z]/\z.length<=br/\Q (.int z.length) H):=by intro pz s σ H xs a Q I r h;obtain⟨z,rfl,b,q⟩:=h;obtain⟨u,rfl,t,rfl⟩:=vals1 r;have hn:=wO;exact len_str (by lia) ⟨.int z.length,H,I.tok _,⟨_,Z⟩,q⟩
theorem vt:pG X (.type "list") (fun xs H Q=>∃p ys,xs=[.ref p]/\(jD X.K H p ys\/oW X.K H p ys)/\∀l,H l=ae->Q (.ref l) (upd H l (.lst ys))):=by
 intro pz s σ H xs t Q I r h;obtain⟨p,ys,rfl,d,q⟩:=h;obtain⟨u,rfl,m⟩:=vals1 r;subst m
 have fin:∀(its:List bj),Vals ys its->ys.length<=br->∀(h':Heap) (a:Nat),(∀b o',s.heap.get? b=aa o'->h'.get? b=aa o')->
   h'.get? s.heap.objs.size=aa {cls:= .type "list",dict:=ae,data:= .seq its.toArray a,slots:= #[]}->EP X pz σ Q (.ref s.heap.objs.size) {s with heap:=h'}:=fun its c f h' a kp e=>
  ⟨.ref s.heap.objs.size,_,I.laid (t':=s.toks) kp (aQ _) (show ie X.prog X.w _ h' _ (.lst ys) from⟨f,its,a,c,e⟩),Z,q _ (I.gT.fresh (aQ _))⟩
 rcases d with d|d
 .obtain⟨its,c,i,f⟩:=I.list d;have g:=c.length;obtain⟨o,ho,j,n,hd⟩:=i.isList;exact call_list_seq p (.inl rfl) ho j hd (fun h' a kp e=>fin its c f h' a kp e) (by simp only[bz]<;>lia)
 .obtain⟨its,c,i,f⟩:=I.tuple d;have g:=c.length;obtain⟨o,ho,j,n,hd⟩:=i;exact call_list_seq p (.inr rfl) ho j hd (fun h' a kp e=>fin its c f h' a kp e) (by simp only[bz]<;>lia)
def tyV(K:aM)(T:String)(x:V)(H:Hp):Prop:=match x with| .str _=>T="str"| .int _=>T="int"| .ref p=>(T="list"/\∃xs,jD K H p xs)\/(T="tuple"/\∃o,K.lookup p=aa o/\o.cls= .type "tuple"/\o.dict=ae)|_=>False
theorem OL{σ:St}(I:Inv X pz σ H s)(r:RelV x v)(b:tyV X.K T x H):
  s.TypeIs v T/\∀a,v= .ref a->∃d,s.heap.get? a=aa d/\d.dict=none:=by
 cases x with
 |str z=>
  obtain⟨t,rfl⟩:=r
  cases (show T="str" from b)
  exact⟨qJ s z t,fun _ e=>nomatch e⟩
 |int i=>
  obtain⟨t,rfl⟩:=r
  cases (show T="int" from b)
  exact⟨typeIs_int s i t,fun _ e=>nomatch e⟩
 |ref p=>
  subst r
  rcases b with⟨rfl,xs,g⟩|⟨rfl,o,hk,h,hd⟩
  .obtain⟨its,_,f,_⟩:=I.list g
   refine⟨f.isList.typeIs,fun a e=> ?_⟩
   cases e
   obtain⟨o,n,e,c,hd,_⟩:=f
   exact⟨o,e,hd⟩
  .refine⟨⟨o,I.BI p o hk,h⟩,fun a e=> ?_⟩
   cases e
   exact⟨o,I.BI _ o hk,hd⟩
 |_=>exact Cn b
def acm(K:aM)(T:String)(r:V->List V->Hp->VK->Prop)(to:TE):TE:=fun σ H Q=>to σ H fun x H1=>tyV K T x H1/\r x [] H1 Q
def tBM(K:aM)(T:String)(r:V->List V->Hp->VK->Prop)(to:TE)(t:TA):TE:=fun σ H Q=>to σ H fun x H1=>tyV K T x H1/\t σ H1 fun xs H2=>r x xs H2 Q
variable {o e:Expr} {es:List Expr} {to:TE} {t:TA} {name:Str} {apos m6:Pos} {T id:String} {r:V->List V->Hp->VK->Prop}
theorem Ee(c:PlainAttrs T)(slot:Slot T name id)(d:typeOf (.builtin id)=pure (.type "method_descriptor"))(e:Sf X id r)(ho:PE X o to)
  (f:attributeBase o name X.env (eval o X.env)=eval o X.env:=by rfl) (g:(apos.endLine==m6.line)=true:=by rfl):PE X (.Call (.Attribute o name apos) [] [] m6) (acm X.K T r to):=by
 intro pz s σ H Q I h
 refine wpAny_Call_method0_late f g (fX (ho pz s σ H _ I h) ?_)
 rintro v i ⟨x,H1,a,b,j,k⟩
 obtain⟨h1,h2⟩:=OL a b j
 exact⟨T,id,c,slot,d,h1,h2,h_ Z (LY (e pz i σ H1 x [] v [] Q a b .nil k))⟩
theorem fV(d:PlainAttrs T)(slot:Slot T name id)(f:typeOf (.builtin id)=pure (.type "method_descriptor"))(g:Sf X id r)(ho:PE X o to)(i:PA X (e::es) t)
  (j:attributeBase o name X.env (eval o X.env)=eval o X.env:=by rfl)
  (k:((gA m6 (bV (e::es) X.env)).all (fun x=> !x.1)&&(lU m6 (iG [] X.env)).all (fun x=>x.1.isSome)
   &&ah ((e::es).length+([]:List Iw).length+(if([]:List Iw).isEmpty then 0 else 1)<30))=true:=by rfl)
  (l:(apos.endLine==m6.line)=true:=by rfl) (hs:bV (e::es) X.env=(ag,eval e X.env)::bV es X.env:=by rfl) (A:(gA m6 (bV es X.env)).any (·.1)=false:=by rfl):
  PE X (.Call (.Attribute o name apos) (e::es) [] m6) (tBM X.K T r to t):=by
 intro pz s σ H Q I h
 refine wpAny_Call_method_late j k l Z (fX (ho pz s σ H _ I h) ?_)
 rintro v m ⟨x,H1,a,b,n,p⟩
 obtain⟨h1,h2⟩:=OL a b n
 refine⟨T,id,d,slot,f,h1,h2,?_⟩
 have c:=i m6 pz m σ H1 _ a p
 rw[hs] at c⊢
 refine h_ (by assumption) (mP ?_)
 exact fX c (by rintro q u ⟨vs,H2,w,y,z⟩;exact g pz u σ H2 x vs v q Q w b y z)
end
def Za(X:Cx)(id:String)(r:V->List V->Hp->VK->Prop):Prop:=
 ∀pz s (σ:St) H x xs v us Q,Inv X pz σ H s->RelV x v->Vals xs us->r x xs H Q->
  bL (model X.prog X.w) X.A (call (.builtin id) (v::us)) (EP X pz σ Q) NE s
theorem Vals.one:∀{x:V} {a:List bj},Vals [x] a->∃u,a=[u]/\RelV x u|_,_, .cons r .nil=>⟨_,Z,r⟩
theorem Vals.zero:∀{a:List bj},Vals [] a->a=[]|_, .nil=>rfl
theorem Vals.dropLast(h:Vals xs us):Vals xs.dropLast us.dropLast:=by induction h with|nil=>exact .nil|cons r t a=>cases t with|nil=>exact .nil|cons q t'=>exact .cons r a
theorem Vals.eraseIdx:∀{xs:List V} {a:List bj} (i:Nat),Vals xs a->Vals (xs.eraseIdx i) (a.eraseIdx i)|_,_,_, .nil=> .nil|_,_,0, .cons _ t=>t|_,_,i+1, .cons r t=> .cons r (Vals.eraseIdx i t)
theorem Vals.reverse(h:Vals xs us):Vals xs.reverse us.reverse:=by induction h with|nil=>exact .nil|cons r t a=>rw[dW,dW];exact Vals.append a (.cons r .nil)
theorem wR{a:Type}:∀(l:List a) (i:Nat),(l.eraseIdx i).length<=l.length|[],_=>aQ _|_::_,0=>pZ _|_::r,i+1=>Bt (wR r i)
section
variable {X:Cx} {pz:List (Addr×Obj)} {σ:St} {H:Hp} {s:bH} {l b:Addr} {xs ys zs:List V}
theorem Inv.Mp{its its':List bj}(I:Inv X pz σ H s)(b:H l=aa (.lst xs))
  (e:s.heap.get? l=aa {cls:= .type "list",data:= .seq its.toArray n}) (c:f its.toArray=its'.toArray) (hv:Vals ys its') (d:ys.length<=br):
  Inv X pz σ (upd H l (.lst ys)) {s with heap:=s.heap.update l (jJ f),toks:=t'}:=by
 have q:=PySem.IsL.update e f
 rw[c] at q
 refine I.write (by rw[b];exact trivial) (.inl rfl) (fun i u g h=>(dU s.heap (jJ f) (bF g)).trans h) ⟨_,q⟩ ?_
 exact⟨d,its',_,hv,q⟩
theorem Inv.acn(I:Inv X pz σ H s)(hv:Vals ys its)(b:ys.length<=br):
  Inv X pz σ (upd H s.heap.objs.size (.lst ys)) {s with heap:=s.heap.push {cls:= .type "list",data:= .seq its.toArray},toks:=t'}:=
 I.laid (fun _ _ q=>aJ _ q) (aQ _) ⟨b,its,0,hv,bc _ Z⟩
theorem Inv.fresh(I:Inv X pz σ H s):H s.heap.objs.size=none:=I.gT.fresh (aQ _)
theorem Inv.zW(I:Inv X pz σ H s)(a:H l=aa (.lst xs)):xs.length<=br/\∃(its:List bj) (n:Nat),Vals xs its/\xs.length=its.length/\s.heap.get? l=aa {cls:= .type "list",data:= .seq its.toArray n}:=by obtain⟨z,its,n,r,e⟩:=I.gT l _ a;exact⟨z,its,n,r,r.length,e⟩
theorem Gb(h:n<=br):nA n=false:=by exact aw (by lia)
end
section
variable {X:Cx}
inductive KG(x:V)(vs:List V) H(Q:VK):Prop|mk:∀l xs y,(x= .ref l)->(vs=[y])->(H l=aa (.lst xs))->(xs.length<br)->(Q .rH (upd H l (.lst (xs++[y]))))->KG x vs H Q
theorem df:Za X "list.append" KG:=by intro pz s σ H x vs v f Q I b c h;obtain⟨l,xs,y,rfl,rfl,a,g,q⟩:=h;subst b;obtain⟨u,rfl,d⟩:=c.one;obtain⟨z,its,n,r,hl,e⟩:=I.zW a;refine nX F.slot_list_append ⟨_,e,Z⟩ F.entry_list_append (F.args_list_append_2 _ _) (PySem.list_append l its.toArray n u (by rw[bz];lia)) ⟨e,?_⟩;refine⟨.rH,_,I.Mp (its':=its++[u]) a e (by simp) (r.append (.cons d .nil)) ?_,Z,q⟩;rw[aG,Kf];assumption
inductive KH(x:V)(vs:List V) H(Q:VK):Prop|mk:∀l b xs zs,(x= .ref l)->(vs=[.ref b])->(H l=aa (.lst xs))->(H b=aa (.lst zs))->(xs.length+zs.length<=br)->(Q .rH (upd H l (.lst (xs++zs))))->KH x vs H Q
theorem l6:Za X "list.extend" KH:=by
 intro pz s σ H x vs v p Q I d f h;obtain⟨l,b,xs,zs,rfl,rfl,c,g,t,q⟩:=h;subst d;obtain⟨u,rfl,i⟩:=f.one;subst i;obtain⟨z,its,n,r,hl,e⟩:=I.zW c;obtain⟨w,a,j,k,y,m⟩:=I.zW g;have hsz:its.toArray.size+a.toArray.size<=br:=by rw[bz,bz];lia
 have o:¬(!its.toArray.isEmpty&&nA (its.toArray.size+a.toArray.size))=true:=by rw[Gb hsz,eS];exact fQ
 refine nX UW ⟨_,e,Z⟩ SD (RW _ _) (AutoSeq1.list_extend_list_list_0 l its.toArray n b a.toArray j o (by rw[bz];lia) (by lia)) ⟨e,m,?_⟩;refine⟨.rH,_,I.Mp (its':=its++a) c e (by simp) (r.append k) ?_,Z,q⟩;rw[aG];assumption
inductive aaa(x:V)(vs:List V)(H:Hp)(Q:VK):Prop|mk:∀l xs y,(x= .ref l)->(vs=[])->(H l=aa (.lst xs))->(xs[xs.length-1]? =aa y)->(Q y (upd H l (.lst xs.dropLast)))->aaa x vs H Q
theorem Ef:Za X "list.pop" aaa:=by
 intro pz s σ H x vs v j Q I d f h;obtain⟨l,xs,y,rfl,rfl,c,g,q⟩:=h;subst d;have a:=f.zero;subst a;obtain⟨z,its,n,r,hl,e⟩:=I.zW c;obtain⟨u,k,i⟩:=r.get g;have b:its.toArray[its.toArray.size-1]? =aa u:=by simp_all
 refine nX Zx ⟨_,e,Z⟩ YO (F.args_list_pop_1 _) (MeetsSeq.list_pop_last l its.toArray n u b (by rw[bz];lia)) ⟨e,?_⟩;refine⟨y,_,I.Mp (its':=its.dropLast) c e ?_ r.dropLast ?_,i,q⟩
 .simp_all
 .rw[List.length_dropLast];lia
inductive ON(x:V)(vs:List V) H(Q:VK):Prop|mk:∀l xs i k y,(x= .ref l)->(vs=[.int i])->(H l=aa (.lst xs))->(-(2^63)<=i)->(i<2^63)->(Fw i xs.length=aa k)->(xs[k]? =aa y)->(Q y (upd H l (.lst (xs.eraseIdx k))))->ON x vs H Q
theorem OO:Za X "list.pop" ON:=by
 intro pz s σ H x vs v j Q I b c h;obtain⟨l,xs,i,k,y,rfl,rfl,a,h1,h2,hk,d,q⟩:=h;subst b;obtain⟨u,rfl,f⟩:=c.one;obtain⟨t,rfl⟩:=f;obtain⟨z,its,n,r,hl,e⟩:=I.zW a;obtain⟨w,hw,g⟩:=r.get d;refine nX Zx ⟨_,e,Z⟩ YO (F.args_list_pop_2 _ _) (MeetsSeq.list_pop_at l its.toArray n i t k w (fitsIndex_both h1 h2) (by rw[bz,<-hl];exact hk) (by simp_all) (by rw[bz];lia)) ⟨e,?_⟩;refine⟨y,_,I.Mp (its':=its.eraseIdx k) a e ?_ (r.eraseIdx k) ?_,g,q⟩
 .simp_all
 .have:=wR xs k;lia
inductive aab(x:V)(y:V) H(Q:VK):Prop|mk:∀l b xs zs,(x= .ref l)->(y= .ref b)->(H l=aa (.lst xs))->(H b=aa (.lst zs))->(xs.length+zs.length<=br)->(∀p,H p=ae->Q (.ref p) (upd H p (.lst (xs++zs))))->aab x y H Q
theorem l7:wM X (binaryOp .Add) aab:=by
 intro pz s σ H x y v u Q I c ry h;obtain⟨l,b,xs,zs,rfl,rfl,d,f,k,q⟩:=h;subst c;subst ry;obtain⟨z,its,n,r,hl,e⟩:=I.zW d;obtain⟨m,a,o,g,p,i⟩:=I.zW f;refine PySem.P.add_list e i ?_ (by rw[bz,bz];lia);have j:its.toArray++a.toArray=(its++a).toArray:=by simp
 exact j▸⟨.ref _,_,I.acn (t':=s.toks) (r.append g) (by rw[aG];assumption),Z,q _ I.fresh⟩
end
section
variable {prog:b7} {w:cW} {A:gK} {E:bj->bH->Prop} {s:bH}
set_option maxRecDepth 100000 in
end
theorem Vals.ints:∀{ns:List Int} {a:List bj},Vals (ns.map V.int) a->rB a ns
 |[],a,h=>by
  rw[jG] at h;cases h
  exact rB.nil
 |n::ns,a,h=>by rw[b5] at h;cases h with|cons r t=>obtain⟨k,rfl⟩:=r;exact rB.cons n k (Vals.ints t)
theorem vv:∀{a:List bj} {ns:List Int},rB a ns->Vals (ns.map V.int) a
 |_,_, .nil=>by rw[jG];exact Paired.nil
 |_,_, .cons n t h=>by rw[b5];exact Paired.cons (show RelV (V.int n) (bj.int n t) from⟨t,Z⟩) (vv h)
theorem Vals.bls:∀{bs:List Bool} {a:List bj},Vals (bs.map V.bl) a->a=bs.map bj.bool
 |[],a,h=>by
  rw[jG] at h;cases h
  rfl
 |b::bs,a,h=>by rw[b5] at h;cases h with|cons r t=>subst r;rw[Vals.bls t,b5]
theorem Vals.S9(r:Vals [V.ref a] us):us=[bj.ref a]:=by
 cases r with
 |cons r t=>
  cases t
  subst r;rfl
section
variable {prog:b7} {w:cW} {A:gK} {E:bj->bH->Prop} {s:bH} {l:Addr} {its:List bj} {ns:List Int} {Q:bj->bH->Prop}
theorem S_(hh:A.handled=ae)(hl:s.heap.IsList l its.toArray)(hi:rB its ns)
  (h:∀h' tk t',(∀b o,s.heap.get? b=aa o->h'.get? b=aa o)->Q (.int ns.sum t') {s with heap:=h',toks:=tk}):bL (model prog w) A (call (.builtin "sum") [.ref l]) Q E s:=by
 obtain⟨xs,e⟩:=hi.allInts.items
 have hn:numsOf (intItems xs).toList=ns:=by rw[<-e];exact hi.numsOf
 rw[nums_intItems] at hn
 rw[e] at hl
 refine PySem.sum_intListG hh hl fun h' tk t' hk=> ?_
 have:=h h' tk t' hk
 rw[preSum_eq,b8 (by simp),hn];exact this
theorem Ta(hh:A.handled=ae)(hl:s.heap.IsList l its.toArray)(hi:rB its ns)(g:0<ns.length)
  (h:∀h' tk M t',(∀b o,s.heap.get? b=aa o->h'.get? b=aa o)->M∈ns->(∀a,a∈ns->M<=a)->Q (.int M t') {s with heap:=h',toks:=tk}):bL (model prog w) A (call (.builtin "min") [.ref l]) Q E s:=by
 obtain⟨xs,e⟩:=hi.allInts.items
 have hn:numsOf (intItems xs).toList=ns:=by rw[<-e];exact hi.numsOf
 rw[nums_intItems] at hn
 subst hn
 rw[e] at hl
 have hsz:0<xs.size:=by simp_all
 refine PySem.min_intList hh hl hsz fun v h' tk hv hk=> ?_
 obtain⟨t,rfl⟩:=intItems_at hv
 obtain⟨h1,h2⟩:=argBest_lt (numAt xs) (xs.size-1)
 refine h h' tk _ t hk ?_ fun a d=> ?_
 .rw[numAt_eq];exact PySem.getD_mem (by rw[aE,bO];lia)
 .obtain⟨j,f,rfl⟩:=mem_getD d
  rw[aE,bO] at f
  rw[<-numAt_eq];exact h2 j (by lia)
end
section
variable {X:Cx}
inductive aac K vs H(Q:VK):Prop|mk:∀a (ns:List Int),(vs=[V.ref a])->(jD K H a (ns.map V.int))->(Q (.int ns.sum) H)->aac K vs H Q
inductive aad K vs H(Q:VK):Prop|mk:∀a (ns:List Int),(vs=[V.ref a])->(jD K H a (ns.map V.int))->(0<ns.length)->(∀m,m∈ns->(∀y,y∈ns->m<=y)->Q (.int m) H)->aad K vs H Q
theorem Xe(b:X.calm=af):pG X (.builtin "sum") (aac X.K):=by intro pz s σ H vs d Q I r h;obtain⟨a,ns,rfl,hs,q⟩:=h;obtain⟨its,c,hl,_⟩:=I.list hs;exact(Vals.S9 r)▸(S_ (I.ok.hd b) hl.isList c.ints fun h' tk t' hk=>⟨.int _,H,I.kept hk,⟨_,Z⟩,q⟩)
theorem Xf(b:X.calm=af):pG X (.builtin "min") (aad X.K):=by intro pz s σ H vs e Q I r h;obtain⟨a,ns,rfl,hs,c,q⟩:=h;obtain⟨its,d,hl,_⟩:=I.list hs;exact(Vals.S9 r)▸(Ta (I.ok.hd b) hl.isList d.ints c fun h' tk m t' hk h1 h2=>⟨.int _,H,I.kept hk,⟨_,Z⟩,q m h1 h2⟩)
end
theorem OP(hl:s.heap.IsList l items)
  (h:∀a:bH,a={s with heap:=s.heap.push {cls:= .type "list_iterator",data:= .fields #[.ref l, .int 0 0]}}->
   (a.heap.IsListIter s.heap.objs.size l 0/\a.heap.IsList l items)->l≠s.heap.objs.size->Q (.ref s.heap.objs.size) a):bL (model prog w) A (pyIter (.ref l)) Q E s:=by
 exact jn hl (h _ Z ⟨⟨_,bc _ Z,Z,Z⟩,hl.push _⟩ (b9 (by obtain⟨_,e,_⟩:=hl;exact bD e)))
theorem Gd{bs:List Bool}(e:its=bs.map bj.bool):
  TruthOf prog w A (fun i v=>its.toArray[i]? =aa v) (fun i=>bs.getD i ag):=fun i v s Q E hv d=>by
 have a:its[i]? =aa v:=by simpa using hv
 rw[e,bp] at a
 obtain⟨b,f,rfl⟩:=FO.mp a
 have hg:bs.getD i ag=b:=by rw[bh,f]<;>rfl
 have c:Q (bs.getD i ag) s:=d
 rw[hg] at c
 exact eJ c
theorem all_range:∀bs:List Bool,(List.range bs.length).all (fun i=>bs.getD i ag)=bs.all id|[]=>rfl|b::bs=>by rw[aK,List.range_succ_eq_map,jU,yo,jU,<-all_range bs];rfl
section
variable {X:Cx}
inductive aae K vs H(Q:VK):Prop|mk:∀a (bs:List Bool),(vs=[V.ref a])->(jD K H a (bs.map V.bl))->(Q (.bl (bs.all id)) H)->aae K vs H Q
theorem OQ(f:X.calm=af):pG X (.builtin "all") (aae X.K):=by
 intro pz s σ H vs l Q I r h;obtain⟨a,bs,rfl,hs,q⟩:=h;obtain⟨its,g,hl,_⟩:=I.list hs;rw[Vals.S9 r];have c:=g.bls;refine call_all_walk (OP hl.isList fun m i st j=> ?_);subst i;refine⟨_,_,_,_,_,_,_,Z,Walks.list (A:=X.A.in1) (I.ok.hd f) _ a j its.toArray,st,Gd c,fun h' tk hk=> ?_⟩;refine⟨.bl _,H,I.kept fun b o d=>hk b o (fun e=> ?_) (aJ _ d),?_,q⟩
 .rcases aZ.mp e with k|e
  .exact az (k▸bD d) (c9 _)
  grind
 .show bj.bool _=bj.bool _;rw[<-all_range,c,bz,aE]
end
mutual
inductive Dp(K:aM)(H:Hp):V->u0->Prop|rH:Dp K H .rH .none|bl (b:Bool):Dp K H (.bl b) (.bool b)|int (i:Int):Dp K H (.int i) (.int i)|str (x:Str):Dp K H (.str x) (.str x)|lst {a:Addr} {xs:List V} {ds:List u0}:jD K H a xs->zX K H xs ds->Dp K H (.ref a) (.list ds)|tup {a:Addr} {xs:List V} {ds:List u0}:oW K H a xs->zX K H xs ds->Dp K H (.ref a) (.tuple ds)
inductive zX(K:aM)(H:Hp):List V->List u0->Prop|nil:zX K H [] []|cons {v:V} {vs:List V} {d:u0} {ds:List u0}:Dp K H v d->zX K H vs ds->zX K H (v::vs) (d::ds)
end
section
variable {X:Cx} {pz:List (Addr×Obj)} {σ:St} {H:Hp} {s:bH}
mutual
theorem Dp.reads(I:Inv X pz σ H s):∀(d:u0) (v:V) (u:bj),Dp X.K H v d->RelV v u->∃as,Reads s.heap u d as
 | .none,_,_,h,r=>by
  cases h
  subst r;exact⟨_,Reads.none⟩
 | .bool b,_,_,h,r=>by
  cases h
  subst r;exact⟨_,Reads.bool b⟩
 | .int i,_,_,h,r=>by
  cases h
  obtain⟨t,rfl⟩:=r;exact⟨_,Reads.int i t⟩
 | .str x,_,_,h,r=>by
  cases h
  obtain⟨t,rfl⟩:=r;exact⟨_,Reads.str x t⟩
 | .list a,_,_,h,r=>by cases h with|lst hs c=>subst r;obtain⟨its,e,⟨o,n,ho,f,_,hd⟩,_⟩:=I.list hs;obtain⟨as,g⟩:=Dp.readsAll I a _ its c e;exact⟨_,Reads.list ho f hd g⟩
 | .tuple a,_,_,h,r=>by cases h with|tup hs c=>subst r;obtain⟨its,e,⟨o,ho,f,n,hd⟩,_⟩:=I.tuple hs;obtain⟨as,g⟩:=Dp.readsAll I a _ its c e;exact⟨_,Reads.tuple ho f hd g⟩
 | .dict _,_,_,h,_=>by cases h
theorem Dp.readsAll(I:Inv X pz σ H s):∀(a:List u0) (vs:List V) (b:List bj),zX X.K H vs a->Vals vs b->∃as,ReadsAll s.heap b a as
 |[],_,_,h,r=>by
  cases h
  cases r
  exact⟨_,ReadsAll.nil⟩
 |d::a,_,_,h,r=>by cases h with|cons h1 h2=>cases r with|cons c e=>obtain⟨as,f⟩:=Dp.reads I d _ _ h1 c;obtain⟨bs,g⟩:=Dp.readsAll I a _ _ h2 e;exact⟨_,ReadsAll.cons f g⟩
end
end
section
variable {X:Cx}
inductive aaf(K:aM)(x:V)(y:V)(H:Hp)(Q:VK):Prop|mk:∀d e,(Dp K H x d)->(Dp K H y e)->(kH d=af)->(kH e=af)->(Q (.bl (la d e)) H)->aaf K x y H Q
inductive aag(K:aM)(x:V)(y:V)(H:Hp)(Q:VK):Prop|mk:∀d e,(Dp K H x d)->(Dp K H y e)->(kH d=af)->(kH e=af)->(Q (.bl (!la d e)) H)->aag K x y H Q
theorem IW(a:X.A.units+64<ly):wM X (compareOp .Eq) (aaf X.K):=by intro pz s σ H x y v u Q I b ry h;obtain⟨d,e,hd,c,f,g,q⟩:=h;obtain⟨as,i⟩:=Dp.reads I d x v hd b;obtain⟨bs,j⟩:=Dp.reads I e y u c ry;exact SeqAt.compareEq_shaped i j f g a ⟨.bl _,H,I,Z,q⟩
theorem Xg(a:X.A.units+64<ly):wM X (compareOp .NotEq) (aag X.K):=by intro pz s σ H x y v u Q I b ry h;obtain⟨d,e,hd,c,f,g,q⟩:=h;obtain⟨as,i⟩:=Dp.reads I d x v hd b;obtain⟨bs,j⟩:=Dp.reads I e y u c ry;exact SeqAt.compareNe_shaped i j f g a ⟨.bl _,H,I,Z,q⟩
end
end L2
namespace L2
open PySem PySem.Spec PyProof.Rows
abbrev OR(h:Heap)(c:Addr)(v:Option bj):Prop:=h.IsCell c v
def aco(a b:tQ):tQ:=
 {a with names:=a.names.map fun(n,k)=>if(k== .free&&b.kind== .function&&b.names.lookup n==aa .cell) then(n, .cell) else(n,k)}
def gO(a:List (Str×Addr)):List (Str×jo)->List (Str×Addr)->List (Str×Addr)|[],b=>b|(n,k)::r,b=>if k== .free then gO a r ((n,(a.lookup n).getD 0)::b) else gO a r b
theorem vw(env:Env)(f:Str×jo->List (Str×Addr)->Sem (ForInStep (List (Str×Addr))))
  (d:∀n k c,f (n,k) c=if k== .free then(do let a<-cellOf env n;pure (.yield ((n,a)::c))) else pure (.yield c)):
  ∀(names:List (Str×jo)) (b:List (Str×Addr)),(∀y∈names,y.2= .free->∃c,env.cells.lookup y.1=aa c)->forIn names b f=pure (gO env.cells names b)
 |[],b,_=>by rfl
 |(n,k)::r,b,h=>by
  rw[Bw,d]
  have g:=fun b=>vw env f d r b fun y j=>h y (aO _ j)
  unfold gO
  by_cases hk:(k==jo.free)=af
  .rw[ai hk,ai hk]
   obtain⟨c,i⟩:=h (n,k) aT (by simpa using hk)
   have e:cellOf env n=pure c:=by unfold cellOf;rw[i]
   rw[e]
   have l:(env.cells.lookup n).getD 0=c:=by rw[i];rfl
   exact l▸(g _)
  .rw[ak hk,ak hk]
   exact g _
theorem zY(h:∀y∈scope.names,y.2= .free->∃c,env.cells.lookup y.1=aa c):Kg scope env=pure (gO env.cells scope.names []):=by dsimp only[Kg];rw[vw env _ (fun n k c=>rfl) scope.names [] h];rfl
theorem mem_lookup{a:Type}:∀{l:List (Str×a)} {n:Str} {c:a},(n,c)∈l->∃b,l.lookup n=aa b
 |(k,v)::r,n,c,h=>by
  dsimp only[eT]
  cases d:n==k with
  |true=>exact⟨_,Z⟩
  |false=>
   rcases aZ.mp h with e|h
   .lia
   .exact mem_lookup h
theorem oG:∀{names:List (Str×jo)} {a:List (Str×Addr)} {n:Str} {c:Addr},(n,c)∈gO cells names a->(n,c)∈a\/((n, .free)∈names/\c=(cells.lookup n).getD 0)
 |[],_,_,_,h=> .inl h
 |(m,k)::r,a,n,c,h=>by
  unfold gO at h;split at h
  .rename_i hk;rcases oG h with h|⟨h1,h2⟩
   .rcases aZ.mp h with e|h
    .cases e;exact .inr ⟨(by simpa using hk)▸aT,Z⟩
    .exact .inl h
   .exact .inr ⟨aO _ h1,h2⟩
  .rcases oG h with h|⟨h1,h2⟩
   .exact .inl h
   .exact .inr ⟨aO _ h1,h2⟩
theorem rL:∀{names:List (Str×jo)} {a:List (Str×Addr)} {p:Str×Addr},p∈a->p∈gO cells names a
 |[],_,_,h=>h
 |(m,k)::r,a,p,h=>by
  dsimp only[gO];split
  .exact rL (aO _ h)
  .exact rL h
theorem rM:∀{names:List (Str×jo)} {a:List (Str×Addr)} {n:Str},(n, .free)∈names->(n,(cells.lookup n).getD 0)∈gO cells names a
 |(m,k)::r,a,n,h=>by
  dsimp only[gO];rcases aZ.mp h with e|h
  .cases e
   exact rL aT
  .split
   .exact rM h
   .exact rM h
theorem pI:∀{names:List (Str×jo)} {h:Heap} {b:List (Str×Addr)} {x:Str} {c:Addr},(x,c)∈fE h.objs.size names b->
  (x,c)∈b\/((x, .cell)∈names/\h.objs.size<=c/\OR (p9 h names) c ae)
 |[],_,_,_,_,h=> .inl h
 |(n,k)::r,h,b,x,c,a=>by
  unfold fE at a
  dsimp only[p9]
  split at a
  .rename_i hk
   rw[ai hk]
   have hk:k= .cell:=by simpa using hk
   rw[<-cG h {cls:= .type "cell",data:= .cell ae}] at a
   rcases pI a with a|⟨h1,h2,d⟩
   .rcases aZ.mp a with e|a
    .cases e
     exact .inr ⟨hk▸aT,aQ _,_,vg r _ _ _ (bc _ Z),Z⟩
    .exact .inl a
   .rw[cG] at h2
    exact .inr ⟨aO _ h1,p_ h2,d⟩
  .rename_i hk
   rw[ak hk]
   rcases pI a with a|⟨h1,h2,d⟩
   .exact .inl a
   .exact .inr ⟨aO _ h1,h2,d⟩
theorem sQ:∀{names:List (Str×jo)} {n:Nat} {a:List (Str×Addr)} {p:Str×Addr},p∈a->p∈fE n names a
 |[],_,_,_,h=>h
 |(m,k)::r,n,a,p,h=>by
  dsimp only[fE];split
  .exact sQ (aO _ h)
  .exact sQ h
theorem wV:∀{names:List (Str×jo)} {n:Nat} {a:List (Str×Addr)} {x:Str},(x, .cell)∈names->∃c,(x,c)∈fE n names a
 |(m,k)::r,n,a,x,h=>by
  dsimp only[fE];rcases aZ.mp h with e|h
  .cases e
   exact⟨n,sQ aT⟩
  .split
   .exact wV h
   .exact wV h
theorem wW:∀{names:List (Str×jo)} {h:Heap} {d:List (Str×Addr)} {x y:Str} {c:Addr},(∀p∈d,p.2<h.objs.size)->(∀x y c,(x,c)∈d->(y,c)∈d->x=y)->
  (x,c)∈fE h.objs.size names d->(y,c)∈fE h.objs.size names d->x=y
 |[],_,_,_,_,_,_,hi,h1,h2=>hi _ _ _ h1 h2
 |(n,k)::r,h,d,x,y,c,hl,hi,h1,h2=>by
  unfold fE at h1 h2
  split at h1
  .rename_i hk
   rw[ai hk] at h2
   rw[<-cG h {cls:= .type "cell",data:= .cell ae}] at h1 h2
   refine wW (fun p f=> ?_) (fun x y c a b=> ?_) h1 h2
   .rw[cG]
    rcases aZ.mp f with rfl|f
    .exact fY _
    .exact et (hl p f)
   .rcases aZ.mp a with e|a<;>rcases aZ.mp b with g|b
    .cases e;cases g;rfl
    .cases e;exact az (hl _ b) (c9 _)
    .cases g;exact az (hl _ a) (c9 _)
    .exact hi _ _ _ a b
  .rename_i hk
   rw[ak hk] at h2
   exact wW hl hi h1 h2
theorem Ge{a:bj}
  (h:Q (newEnv scope s.heap.objs.size globals (fE (s.heap.objs.size+1) scope.names closure) qual func a (aa around) builtins)
   {s with heap:=p9 (s.heap.push {cls:= .type "dict",data:= .dict #[]}) scope.names}):
  bL M A (newFunctionEnv scope globals closure [] qual func a (aa around) builtins) Q E s:=by
 simp only[newFunctionEnv,LZ,if_true]
 refine aF (wpAny_alloc (aF (wpAny_layCells _ (fun n k c=>rfl) scope.names closure _ _ ?_)))
 rw[show({s with heap:=s.heap.push {cls:= .type "dict",data:= .dict #[]}}:bH).heap.objs.size=s.heap.objs.size+1 from cG ..,DS]
 exact aF (aU (aU h))
theorem rN{a:tQ}:∀{names:List (Str×jo)} {x:Str} {k:jo},
  (names.map fun(n,k)=>if(k==jo.free&&a.kind== .function&&a.names.lookup n==aa .cell) then(n,RX) else(n,k)).lookup x=aa k->
  ∃e,names.lookup x=aa e/\(k=e\/(e= .free/\k= .cell))
 |[],_,_,h=>by simp at h
 |(n,d)::r,x,k,h=>by
  have f:= @rN a r x k
  have h':lP x ((if(d==jo.free&&a.kind== .function&&a.names.lookup n==aa .cell)=af then(n,RX) else(n,d))::(r.map _))=aa k:=h
  cases c:x==n with
  |true=>
   simp only[eT,c]
   by_cases b:(d==jo.free&&a.kind== .function&&a.names.lookup n==aa .cell)=af
   .rw[ai b] at h'
    simp only[eT,c] at h'
    cases h'
    simp only[bq,beq_iff_eq] at b
    exact⟨d,Z, .inr ⟨b.1.1,Z⟩⟩
   .rw[ak b] at h'
    simp only[eT,c] at h'
    cases h'
    exact⟨_,Z, .inl rfl⟩
  |false=>
   simp only[eT,c]
   by_cases b:(d==jo.free&&a.kind== .function&&a.names.lookup n==aa .cell)=af
   .rw[ai b] at h'
    simp only[eT,c] at h'
    exact f h'
   .rw[ak b] at h'
    simp only[eT,c] at h'
    exact f h'
structure Gf(N:List Str)(sc scope:tQ)(own:List (Str×Nat)):Prop where
 kind:scope.kind= .function
 uniq:∀y∈scope.names,scope.names.lookup y.1=aa y.2
 ix:∀p∈own,N[p.2]? =aa p.1
 free:∀y∈scope.names,y.2= .free->sc.names.lookup y.1=aa .cell\/sc.names.lookup y.1=aa .free
 own:∀y∈scope.names,y.2= .local\/y.2= .cell->y.1∈own.map (·.1)\/y.1∉N
def wipe(σ:St):List Nat->St|[]=>σ|v::vs=>(wipe σ vs).set v ae
theorem rO(σ:St):∀vs:List Nat,(wipe σ vs).length=σ.length|[]=>rfl|v::vs=>by unfold wipe;rw[UU,rO σ vs]
theorem wX:∀{vs:List Nat},(wipe σ vs)[i]? =aa (aa x)->σ[i]? =aa (aa x)/\i∉vs
 |[],h=>⟨h,by simp⟩
 |v::vs,h=>by
  unfold wipe at h;by_cases hi:v=i
  .subst hi;by_cases hv:v<(wipe σ vs).length
   .simp_all
   simp_all
  .rw[uh hi] at h;obtain⟨h1,h2⟩:=wX h;exact⟨h1,by simp only[aZ,not_or];exact⟨fun e=>hi e.symm,h2⟩⟩
abbrev Cx.yw(X:Cx)(s:bH)(H:Hp)(a:tQ)(b:Env)(fp:List Addr):Cx:={X with Cz:=s,ZM:=H,env:=b,outer:=X.stack,ex:=fp,fn:=fun x=>a.names.lookup x==aa .cell,pn:=[]}
section
variable {X:Cx} {pz:List (Addr×Obj)} {σ:St} {H:Hp} {s:bH}
theorem Gg(I:Inv X pz σ H s)(ok:Gf X.N X.env.scope scope own)(hN:X.N.Nodup)(x:∀b∈fp,yu X pz H b/\b<s.heap.objs.size):
  Inv (X.yw s H scope (hZ scope (fE (s.heap.objs.size+1) scope.names (gO X.env.cells scope.names [])) s.heap.objs.size X.env) fp) [] (wipe σ (own.map (·.2))) H {s with heap:=p9 (s.heap.push {cls:= .type "dict",data:= .dict #[]}) scope.names}:=by
 have P:∀y∈scope.names,y.2= .free->∃c,X.env.cells.lookup y.1=aa c:=fun y j e=>by
  rcases ok.free y j e with k|k
  .exact I.ok.has _ (.inl k)
  .exact I.ok.has _ (.inr k)
 generalize A:hZ scope (fE (s.heap.objs.size+1) scope.names (gO X.env.cells scope.names [])) s.heap.objs.size X.env=d
 have kp:∀b o,s.heap.get? b=aa o->(p9 (s.heap.push {cls:= .type "dict",data:= .dict #[]}) scope.names).get? b=aa o:=fun b o e=>vg _ _ _ _ (aJ _ e)
 have E:d.locals=s.heap.objs.size:=by subst A;rfl
 have v:d.cells=fE (s.heap.objs.size+1) scope.names (gO X.env.cells scope.names []):=by rw[<-A];rfl
 have F:d.scope=aco scope X.env.scope:=by rw[<-A];rfl
 rw[<-cG s.heap {cls:= .type "dict",data:= .dict #[]}] at v
 have cm:∀{y c},(y,c)∈gO X.env.cells scope.names []->X.env.cells.lookup y=aa c/\c<s.heap.objs.size:=fun{y c} f=>by
  rcases oG f with f|⟨h1,rfl⟩
  .cases f
  .obtain⟨c,M⟩:=P _ h1 Z
   rw[M]
   obtain⟨w,z⟩:=I.cell _ _ M
   exact⟨Z,z.lt⟩
 have mem:∀{y c},d.cells.lookup y=aa c->(X.env.cells.lookup y=aa c/\c<s.heap.objs.size)\/(s.heap.objs.size+1<=c/\OR (p9 (s.heap.push {cls:= .type "dict",data:= .dict #[]}) scope.names) c ae):=fun{y c} e=>by
  rw[v] at e
  rcases pI (c7 e) with f|⟨_,h2,S⟩
  .exact .inl (cm f)
  simp_all
 have look:∀{y},scope.names.lookup y=aa .free->∃c,d.cells.lookup y=aa c/\X.env.cells.lookup y=aa c:=fun{y} hl=>by
  have j:=c7 hl
  obtain⟨C,g⟩:=mem_lookup (sQ (rM j))
  rw[<-v] at g
  refine⟨C,g,?_⟩
  rw[v] at g
  rcases pI (c7 g) with f|⟨h1,_⟩
  .exact(cm f).1
  .have:=ok.uniq _ h1
   rw[hl] at this;cases this
 have G:(X.yw s H scope d fp).Ok:=by
  refine⟨I.ok.mod,by show d.scope.kind=_;rw[F];exact ok.kind,by show d.globals=_;rw[<-A];exact I.ok.glob,by show d.builtins=_;rw[<-A];exact I.ok.blt,by simp_all,
   fun y z c l n=> ?_,fun y j=> ?_,fun y c z e=> ?_,I.ok.hd,I.ok.frames, .inl rfl,fun b t=>⟨?_,fun y c e z=> ?_⟩,I.bs,bY I.ok.U9 I.sz,fun b o e t=> ?_,fun b t z=> ?_,I.stack,I.Kt⟩
  .have l:=l
   have n:=n
   rw[v] at l n
   refine wW (fun p B=> ?_) (fun y z c a b=>I.ok.inj y z c (cm a).1 (cm b).1) (c7 l) (c7 n)
   rw[cG]
   exact et (cm B).2
  .show∃c,d.cells.lookup y=aa c
   have key:∀k,d.kindOf y=aa k->(k= .cell\/k= .free)->∃c,d.cells.lookup y=aa c:=fun k hk J=>by
    unfold Env.kindOf at hk
    rw[F] at hk
    obtain⟨u,e,r⟩:=rN hk
    have:u= .cell\/u= .free:=by
     rcases r with rfl|⟨rfl,_⟩
     .exact J
     .exact .inr rfl
    rcases this with rfl|rfl
    .obtain⟨c,f⟩:=wV (c7 e)
     obtain⟨C,g⟩:=mem_lookup f
     exact⟨C,by rw[v];exact g⟩
    .obtain⟨c,h1,_⟩:=look e
     exact⟨c,h1⟩
   rcases j with j|j
   .exact key _ j (.inl rfl)
   .exact key _ j (.inr rfl)
  .have z:=z
   have z:scope.names.lookup y=aa .cell:=by simpa using z
   have e:=e
   rw[v] at e
   rcases pI (c7 e) with f|⟨_,h2,_⟩
   .rcases oG f with f|⟨h1,_⟩
    .cases f
    .have q:=ok.uniq _ h1
     simp_all
   .rw[cG] at h2
    exact p_ h2
  .show b≠d.locals
   rw[E];exact b9 (x b t).2
  .have e:=e
   rcases mem e with⟨h1,_⟩|⟨h1,_⟩
   .exact(x b t).1.2.2.2.2.1 y c h1 z
   .have h2:s.heap.objs.size+1<=b:=by subst z;exact h1
    exact az (bN (x b t).2 (p_ h2)) (c9 _)
  .rcases(x b t).1.2.2.2.1 with z|z
   .exact I.ok.WM b o e z
   .exact az (bN (bD e) (bY I.ok.U9 z)) (c9 _)
  .rcases aZ.mp (I.IF b z) with z|z
   .exact(x b t).1.2.1 z
   .exact(x b t).1.2.2.1 z
 refine⟨G,Z,I.bare,Un.kept kp,⟨fun _=>ae,?_,fun i y Q l n h=> ?_⟩,fun y c e=> ?_,?_,fun y c e=> ?_,fun p B=> ?_,I.gT.kept kp,by rw[rO];exact I.len⟩
 .show Heap.Ns _ d.locals _
  exact E▸(Heap.Ns.keeps (Heap.Ns.new ..) fun b o e=>vg _ _ _ _ e)
 .obtain⟨n,R⟩:=wX n
  have D:scope.names.lookup y=aa .free/\(d.kindOf y=aa .cell\/d.kindOf y=aa .free):=by
   have key:∀k,d.scope.names.lookup y=aa k->k= .local\/k= .cell\/k= .free->scope.names.lookup y=aa .free/\(d.kindOf y=aa .cell\/d.kindOf y=aa .free):=fun k hk J=>by
    have N:=hk
    rw[F] at hk
    obtain⟨u,e,r⟩:=rN hk
    have O:¬(u= .local\/u= .cell):=fun hh=>by
     rcases ok.own _ (c7 e) hh with g|g
     .obtain⟨p,B,K⟩:=bK.mp g
      have h:=ok.ix p B
      have:p.1=y:=K
      rw[this] at h
      exact R (bK.mpr ⟨p,B,zC hN h l⟩)
     .exact g (bC l)
    rcases r with rfl|⟨rfl,rfl⟩
    .rcases J with rfl|rfl|rfl
     .exact az (.inl rfl) O
     .exact az (.inr rfl) O
     .exact⟨e, .inr N⟩
    .exact⟨e, .inl N⟩
   have h:=h
   rcases h with h|h|h
   .exact key _ h (.inl rfl)
   .exact key _ h (.inr (.inl rfl))
   .exact key _ h (.inr (.inr rfl))
  obtain⟨m,hn,hl⟩:=I.loc
  obtain⟨w,r,q⟩:=hl i y Q l n ((ok.free _ (c7 D.1) Z).elim (fun k=> .inr (.inl k)) (fun k=> .inr (.inr k)))
  refine⟨w,r, .inr ⟨D.2,?_⟩⟩
  obtain⟨c,h1,h2⟩:=look D.1
  rcases q with⟨k,_⟩|⟨_,C,g,z⟩
  .have k:X.env.scope.names.lookup y=aa .local:=k
   rcases ok.free _ (c7 D.1) Z with u|u<;>rw[show X.env.scope.names.lookup y=_ from u] at k<;>cases k
  .rw[h2] at g;cases g
   exact⟨c,h1,z.keeps kp⟩
 .have e:=e
  rcases mem e with⟨h1,_⟩|⟨_,z⟩
  .obtain⟨w,z⟩:=I.cell y c h1
   exact⟨w,z.keeps kp⟩
  .exact⟨_,z⟩
 .show H d.locals=ae
  rw[E];exact I.gT.fresh (aQ _)
 .rcases mem e with⟨h1,_⟩|⟨h1,_⟩
  .exact I.tW y c h1
  .exact I.gT.fresh (p_ h1)
 simp_all
theorem Xj(I:Inv X pz σ H s)(a:H D=aa (.lst xs))(g:xs.length<br)(r:RelV y v)
  (h:∀s',Inv X pz σ (upd H D (.lst (xs++[y]))) s'->Q .none s'):bL (model X.prog X.w) X.A (call (.builtin "list.append") [.ref D,v]) Q E s:=by
 obtain⟨i,its,n,c,e⟩:=I.gT D _ a
 have hl:=c.length
 refine append_at (hsz:=by rw[bz];lia) e fun h' j d=> ?_
 refine h {s with heap:=h'} (I.write (t':=s.toks) (by rw[a];trivial) (.inl rfl) (fun b u k q=>(j.2 b k).trans q) ⟨_,d⟩ ⟨by rw[aG];exact g,its++[v],n+1,c.append (.cons r .nil),?_⟩)
 rw[d]
 simp
def Xk(X:Cx)(a:List Expr)(t:TT):Prop:=
 ∀pz s (σ:St) H Q,Inv X pz σ H s->t σ H Q->
  bL (model X.prog X.w) X.A (forIn a af fun c r=>if r=af then do let ok<-isTrue c X.env (eval c X.env);pure (qa ok) else pure (qa r)) (TP X pz σ Q) NE s
def acp:TT:=fun _ H Q=>Q af H
theorem iu:Xk X [] acp:=fun _ _ _ H _ I h=>wpAny_tests_nil ⟨H,I,h⟩
theorem y8(h:PT X c t):Xk X [c] t:=fun pz s σ H Q I hw=>wpAny_tests_one (h pz s σ H Q I hw)
end
theorem Mq{b:Type}{t:Sem b}{Q c:b->bH->Prop}(h:bL M A t Q (fun _ _=>False) s)(d:∀a s,Q a s->c a s):bL M A t c E s:=gZ h d fun _ _ z=>Cn z
theorem Eg(I:Nat->bH->Prop)
  (turn:∀n s,I n s->bL (model prog w) A (pyNext it) (fun r d=>match r with
   |none=>R (.ok .next) d
   |some v=>bL (model prog w) A (Ii target it v) (fun _ k=>bL (model prog w) A (assign target env v) (fun _ l=>
     bL (model prog w) A (forIn ifs af fun c r=>if r=af then do let ok<-isTrue c env (eval c env);pure (qa ok) else pure (qa r)) (fun ok f=>
      if ok=af then bL (model prog w) A (eval elt env) (fun x a=>
       bL (model prog w) A (call (.builtin "list.append") [acc,x]) (fun _ b=>∃m,m<n/\I m b) (Iy (model prog w) A env fun e s'=>R (.error e) s') a) (Iy (model prog w) A env fun e s'=>R (.error e) s') f
      else∃m,m<n/\I m f) (Iy (model prog w) A env fun e s'=>R (.error e) s') l) (Iy (model prog w) A env fun e s'=>R (.error e) s') k) (Iy (model prog w) A env fun e s'=>R (.error e) s') d) (Iy (model prog w) A env fun e s'=>R (.error e) s') s)
  (n:Nat) (h:I n s):
  mM (model prog w) A (.compLoop (.ListComp elt [⟨target,iter,ifs,0⟩] scope pos) 0 it acc env) R s:=by
 refine codeAny_loop Z I (fun n s q=> ?_) n h
 show bL _ A ((compTurn (.ListComp elt [⟨target,iter,ifs,0⟩] scope pos) 0 it acc env).onRaise (fun x=>do noteFrame x env;theTreesLotGoes x)) _ _ s
 refine wpAny_noted ?_
 rw[compTurn_list]
 refine aF (zo (aF (gZ (turn n s q) (fun r d o=> ?_) fun _ _ h'=>h')))
 cases r with
 |none=>exact aU o
 |some v=>
  refine aF (gZ o (fun _ k g=>aF (gZ g (fun _ l t=>aF (gZ t (fun ok f p=> ?_) fun _ _ h'=>h')) fun _ _ h'=>h')) fun _ _ h'=>h')
  cases ok with
  |false=>exact aU ⟨Z,p⟩
  |true=>
   exact aF (aF (gZ p (fun x a i=>aF (gZ i (fun _ b j=>aU (aU ⟨Z,j⟩)) fun _ _ h'=>h')) fun _ _ h'=>h'))
section
variable {X:Cx}
def tLc(j:TI)(g:TG)(tt:TT)(te:TE)(vs:List Nat):TE:=fun σ H Q=>j σ H fun J H1=>∀D,H1 D=ae->∃W:Nat->Nat->Hp->Prop,(∃m,W 0 m (upd H1 D (.lst [])))/\∀i m H,W i m H->
 (J.stop i H/\Q (.ref D) H)\/(J.go i H/\∃c:Hp->Prop,(∀H',c H'->∃e,e<m/\W (i+1) e H')/\∀x H',J.Mf i H x H'->g x (wipe σ vs) H' fun d H2=>wipe d vs=wipe σ vs/\tt d H2 fun b f=>
  if b=af then te d f fun y h=>∃a,h D=aa (.lst a)/\a.length<br/\c (upd h D (.lst (a++[y]))) else c f)
theorem KI{σ:St}
  (hc:X.calm=af) (hN:X.N.Nodup) (I:Inv X pz σ H s) (hi:PI X tg iter wi) (ok:Gf X.N X.env.scope scope own)
  (hg:∀(s:bH) (H:Hp) (C:Addr) (cl:List (Str×Addr)) (fp:List Addr),PG (X.yw s H scope (hZ scope cl C X.env) fp) tg g) (ht:∀(s:bH) (H:Hp) (C:Addr) (cl:List (Str×Addr)) (fp:List Addr),Xk (X.yw s H scope (hZ scope cl C X.env) fp) ifs tt)
  (he:∀(s:bH) (H:Hp) (C:Addr) (cl:List (Str×Addr)) (fp:List Addr),PE (X.yw s H scope (hZ scope cl C X.env) fp) elt te) (hs:∀x,kI iter X.env x=pure x)
  (h:tLc wi g tt te (own.map (·.2)) σ H Q)
  (hRR:∀D C s' m H',Inv X pz σ H' s'->Q (.ref D) H'->s'.heap.Ns C m->yu X pz H' C->compPost (model X.prog X.w) X.A NE use Qf (.ref D) C (.ok .next) s'):
  bL (model X.prog X.w) X.A (comprehension (.ListComp elt [⟨tg,iter,ifs,0⟩] scope pos) scope X.env pos' (newList []) ag (eval iter X.env) use) Qf NE s:=by
 have CF:∀y∈scope.names,y.2= .free->∃c,X.env.cells.lookup y.1=aa c:=fun y hy e=>by
  rcases ok.free y hy e with k|k
  .exact I.ok.has _ (.inl k)
  .exact I.ok.has _ (.inr k)
 refine wpAny_comprehension_free Z hs (zY CF) ok.kind (fun y hy e=>by rw[ok.uniq y hy,e])
  (fX (hi pz s σ H _ I h) fun xv s1 hx=>fX hx fun itv F h2=> ?_)
 obtain⟨it,fp,U,J,H2,e,I2,T,L,f2,q⟩:=h2
 subst e
 refine fe (Ge ?_) zl
 generalize V:F.heap.objs.size=D
 obtain⟨W,⟨m0,w0⟩,turn⟩:=q D (I2.gT.fresh (yT V))
 generalize M:({F with heap:=F.heap.push {cls:= .type "list",data:= .seq ([]:List bj).toArray}})=a
 have Y:Inv X pz σ (upd H2 D (.lst [])) a:=by
  subst M
  refine I2.laid (t':=F.toks) (fun b o e=>aJ _ e) (yT V) ⟨cg _,[],0, .nil,?_⟩
  exact V▸(bc _ Z)
 have h3:a.heap=F.heap.push {cls:= .type "list",data:= .seq ([]).toArray}:=by rw[<-M]
 have sz:∀b∈fp,b<F.heap.objs.size:=fun b d=>by
  obtain⟨o,e,_⟩:=T.obj _ _ L b d
  exact bD e
 have A:∀b∈fp,yu X pz (upd H2 D (.lst [])) b/\b<a.heap.objs.size:=fun b d=>by
  have gm:=sz b d
  refine⟨⟨?_,(f2 b d).2⟩,by rw[h3,cG];exact et gm⟩
  rw[aL (by rw[<-V];exact b9 gm)]
  exact(f2 b d).1
 have I4:=Gg Y ok hN A
 have pg:=hg a (upd H2 D (.lst [])) a.heap.objs.size (fE (a.heap.objs.size+1) scope.names (gO X.env.cells scope.names [])) fp
 have pt:=ht a (upd H2 D (.lst [])) a.heap.objs.size (fE (a.heap.objs.size+1) scope.names (gO X.env.cells scope.names [])) fp
 have pe:=he a (upd H2 D (.lst [])) a.heap.objs.size (fE (a.heap.objs.size+1) scope.names (gO X.env.cells scope.names [])) fp
 show mM _ _ (.compStart (.ListComp elt [⟨tg,iter,ifs,0⟩] scope pos) 0 (.ref it) (.ref D) (hZ scope (fE (a.heap.objs.size+1) scope.names (gO X.env.cells scope.names [])) a.heap.objs.size X.env)) (compPost (model X.prog X.w) X.A NE use Qf (.ref D) a.heap.objs.size) {a with heap:=p9 (a.heap.push {cls:= .type "dict",data:= .dict #[]}) scope.names}
 have N:=fun b d=>(A b d).1.1
 generalize hce:hZ scope (fE (a.heap.objs.size+1) scope.names (gO X.env.cells scope.names [])) a.heap.objs.size X.env=f at I4 pg pt pe⊢
 have cL:f.locals=a.heap.objs.size:=by subst hce;rfl
 generalize hH3:upd H2 D (.lst [])=l at Y I4 pg pt pe w0 N A
 generalize hs4:({a with heap:=p9 (a.heap.push {cls:= .type "dict",data:= .dict #[]}) scope.names})=s4 at I4⊢
 have O:U 0 s4.heap:=T.keep _ _ _ (T.keep _ _ _ L fun b _ o e=>by rw[h3];exact aJ _ e:U 0 a.heap) fun b _ o e=>by rw[<-hs4];exact vg _ _ _ _ (aJ _ e)
 have IJ:∀{j_:St} {H':Hp} {s':bH},Inv (X.yw a l scope f fp) [] j_ H' s'->(∀b∈fp,H' b=ae)->∀b∈fp,yu (X.yw a l scope f fp) [] H' b:=fun{j_ H' s'} G hn b d=>
  ⟨hn b d,(G.ok.exf b d).1,G.ok.WN b d, .inl d,fun x c e=>(G.ok.exf b d).2 x c e,fun p hp=>az (show p∈([])++[] from hp) (by simp)⟩
 have w:mM (model X.prog X.w) X.A (.compLoop (.ListComp elt [⟨tg,iter,ifs,0⟩] scope pos) 0 (.ref it) (.ref D) f) (compPost (model X.prog X.w) X.A NE use Qf (.ref D) a.heap.objs.size) s4:=by
  refine Eg (fun n s'=>∃i H',Inv (X.yw a l scope f fp) [] (wipe σ (own.map (·.2))) H' s'/\U i s'.heap/\(∀b∈fp,H' b=ae)/\W i n H') ?_ m0 ⟨0,l,I4,O,N,w0⟩
  rintro n s5 ⟨i,P,I5,SU,n5,w5⟩
  rcases turn i n P w5 with⟨stop,qq⟩|⟨go,Nx,hNx,step⟩
  .have td:=T.done (X.yw a l scope f fp) Z rfl rfl hc i [] s5 _ P (fun _ _=>False) I5 (IJ I5 n5) SU stop
   refine Mq td ?_
   rintro r s6 ⟨hr,K⟩
   subst hr
   have I7:=Y.Vc K.os K.base K.gT K.bare fun b d=>⟨(A b d).1.2.2.2.1,(A b d).1.2.1,(A b d).1.2.2.2.2.1,(A b d).1.2.2.2.2.2⟩
   have nC:P a.heap.objs.size=none:=by
    have z:=K.free
    exact cL▸z
   obtain⟨m,hn,_⟩:=K.loc
   have hn:=hn
   rw[cL] at hn
   exact hRR D a.heap.objs.size s6 m P I7 qq hn (Y.IH (aQ _) nC)
  .have ti:=T.item (X.yw a l scope f fp) Z rfl rfl hc i [] s5 _ P (fun _ _=>False) I5 (IJ I5 n5) SU go
   refine Mq ti ?_
   rintro r s6 ⟨u,hr,h6⟩
   subst hr
   refine Mq h6 ?_
   rintro _ s7 ⟨x,H7,I7,r7,y7,B,n7⟩
   refine Mq (pg _ s7 _ H7 x u _ (I7.pinned (IJ I7 n7) (T.obj _ _ B)) r7 (step x H7 y7)) fun _ s8 ⟨E,H8,I8,R,q8⟩=>Mq (pt _ s8 E H8 _ I8 q8) ?_
   rintro b s9 ⟨H9,I9,q9⟩
   have fin:∀{s':bH} {H':Hp},Inv (X.yw a l scope f fp) ([]++zF fp s7.heap) E H' s'->Nx H'->∃m,m<n/\∃i H',Inv (X.yw a l scope f fp) [] (wipe σ (own.map (·.2))) H' s'/\U i s'.heap/\(∀b∈fp,H' b=ae)/\W i m H':=fun{s' H'} G nx=>by
    obtain⟨m',hm,w'⟩:=hNx H' nx
    have S:∀b∈fp,∀o,s7.heap.get? b=aa o->s'.heap.get? b=aa o/\H' b=none:=fun b d o e=>
     let z:=G.pin (b,o) (eX _ (eX _ (uu d e)))
     ⟨z.1,z.2.1⟩
    refine⟨m',hm,i+1,H',(G.vp).weak (by rw[<-R,rO]) (fun j v e=> ?_),T.keep _ _ _ B fun b d o e=>(S b d o e).1,fun b d=> ?_,w'⟩
    .rw[<-R] at e
     exact(wX e).1
    .obtain⟨o,e,_⟩:=T.obj _ _ B b d
     exact(S b d o e).2
   cases b with
   |false=>
    simp only[dG,if_false] at q9⊢
    exact fin I9 q9
   |true=>
    simp only[if_true] at q9⊢
    exact Mq (pe _ s9 E H9 _ I9 q9) (by rintro z s10 ⟨yv,H10,I10,r10,acc,acs,acu,nx⟩;exact Xj (X:=X.yw a l scope f fp) I10 acs acu r10 fun s11 I11=>fin I11 nx)
 exact codeAny_compStart_list w (T.self X.A 0 _ _ _ O w)
theorem aal(hi:PI X tg iter wi)(ok:Gf X.N X.env.scope scope own)
  (hg:∀(s:bH) (H:Hp) (C:Addr) (cl:List (Str×Addr)) (fp:List Addr),PG (X.yw s H scope (hZ scope cl C X.env) fp) tg g) (a:∀(s:bH) (H:Hp) (C:Addr) (cl:List (Str×Addr)) (fp:List Addr),Xk (X.yw s H scope (hZ scope cl C X.env) fp) ifs tt)
  (c:∀(s:bH) (H:Hp) (C:Addr) (cl:List (Str×Addr)) (fp:List Addr),PE (X.yw s H scope (hZ scope cl C X.env) fp) elt te) (hN:X.N.Nodup:=by assumption) (d:X.calm=true:=by rfl) (hs:∀x,kI iter X.env x=pure x:=by intro _;rfl):
  PE X (.ListComp elt [⟨tg,iter,ifs,0⟩] scope pos) (tLc wi g tt te (own.map (·.2))):=by
 intro pz s σ H Q I h
 dsimp only[eval_ListComp]
 refine KI d hN I hi ok hg a c hs h fun D C s' m H' i q hn f=>⟨m,hn,fun u j=> ?_⟩
 obtain⟨k,l,v,n,p,r⟩:=f
 exact⟨.ref D,H',i.turned (t':=s'.toks) (fun b o t e=>(j.2 b t).trans e) k l n p r,Z,q⟩
theorem OU(p:X.calm=af)(hN:X.N.Nodup)(r:X.N[i]? =aa y)(c:X.env.scope.names.lookup y=aa .local)
  (d:yl (.ListComp elt [⟨tg,iter,ifs,0⟩] scope pos) (aa (.Name y py)) Xl.line X.env=pure af) (hi:PI X tg iter wi) (ok:Gf X.N X.env.scope scope own)
  (hg:∀(s:bH) (H:Hp) (C:Addr) (cl:List (Str×Addr)) (fp:List Addr),PG (X.yw s H scope (hZ scope cl C X.env) fp) tg g) (t:∀(s:bH) (H:Hp) (C:Addr) (cl:List (Str×Addr)) (fp:List Addr),Xk (X.yw s H scope (hZ scope cl C X.env) fp) ifs tt)
  (u:∀(s:bH) (H:Hp) (C:Addr) (cl:List (Str×Addr)) (fp:List Addr),PE (X.yw s H scope (hZ scope cl C X.env) fp) elt te) (hs:∀x,kI iter X.env x=pure x:=by intro _;rfl):
  PS X (.Assign [.Name y py] (.ListComp elt [⟨tg,iter,ifs,0⟩] scope pos) Xl) (IG (tLc wi g tt te (own.map (·.2))) (pF i)):=by
 intro pz s σ H D I h
 rw[exec_Assign_Name_used _ _ _ _ d]
 refine aF (zo (aF ?_))
 refine aF (fX (KI p hN I hi ok hg t u hs h fun L C s' m H' w q hn f=>Zu (CD (v:=V.ref L) w hN r (.inl c) Z (fun A B ⟨a,E,F⟩=> ?_) (.inr c))) fun _ s' G=>aU (aU G))
 obtain⟨J,l,O,K,n,M⟩:=f
 have j:C≠a:=by
  rcases F with z|z
  .rw[z];exact l
  .exact fun e=>n y a z e.symm
 refine⟨m,hn.sameBut E j,fun P k=> ?_⟩
 exact⟨_,H',B.turned (t':=A.toks) (fun b o N e=>(k.2 b N).trans e) J l K n M,q⟩
end
theorem zZ{lo:Int}{g:TG}{tt:TT}{te:TE}{l:Hp->Prop}(c:Nat->Hp->Prop)(q:c 0 (upd H1 D (.lst [])))
  (hs:∀i H,i<n->c i H->g (.int (lo+i)) (wipe σ vs) H fun d H2=>wipe d vs=wipe σ vs/\tt d H2 fun b f=>
   if b=af then te d f fun y h=>∃a,h D=aa (.lst a)/\a.length<br/\c (i+1) (upd h D (.lst (a++[y]))) else c (i+1) f) (hd:∀H,c n H->l H):
  ∃W:Nat->Nat->Hp->Prop,(∃m,W 0 m (upd H1 D (.lst [])))/\∀i m H,W i m H->
   ((Sd lo n).stop i H/\l H)\/((Sd lo n).go i H/\∃j:Hp->Prop,(∀H',j H'->∃o,o<m/\W (i+1) o H')/\∀x H',(Sd lo n).Mf i H x H'->g x (wipe σ vs) H' fun d H2=>wipe d vs=wipe σ vs/\tt d H2 fun b f=>
    if b=af then te d f fun y h=>∃a,h D=aa (.lst a)/\a.length<br/\j (upd h D (.lst (a++[y]))) else j f):=by
 refine⟨fun i m H=>m=n-i/\i<=n/\c i H,⟨n,Z,cg _,q⟩,?_⟩
 rintro i m H ⟨rfl,hi,p⟩
 by_cases k:i<n
 .refine .inr ⟨k,c (i+1),fun H' r=>⟨n-(i+1),by lia,Z,k,r⟩,fun x H' y=> ?_⟩
  obtain⟨e,y⟩:=y
  subst e y
  exact hs i _ k p
 .have e:i=n:=by lia
  subst e
  exact .inl ⟨aQ _,hd H p⟩
theorem i9{K:aM}{g:TG}{tt:TT}{te:TE}{l:Hp->Prop}(d:Nat->Hp->Prop)(o:d 0 (upd H1 D (.lst [])))(hl:∀i H,i<=xs.length->d i H->jD K H a xs)
  (hs:∀i x H,xs[i]? =aa x->d i H->g x (wipe σ vs) H fun f H2=>wipe f vs=wipe σ vs/\tt f H2 fun b h=>
   if b=af then te f h fun y j=>∃c,j D=aa (.lst c)/\c.length<br/\d (i+1) (upd j D (.lst (c++[y]))) else d (i+1) h) (hd:∀H,d xs.length H->l H):
  ∃W:Nat->Nat->Hp->Prop,(∃m,W 0 m (upd H1 D (.lst [])))/\∀i m H,W i m H->
   ((Vh K a).stop i H/\l H)\/((Vh K a).go i H/\∃k:Hp->Prop,(∀H',k H'->∃n,n<m/\W (i+1) n H')/\∀x H',(Vh K a).Mf i H x H'->g x (wipe σ vs) H' fun f H2=>wipe f vs=wipe σ vs/\tt f H2 fun b h=>
    if b=af then te f h fun y j=>∃c,j D=aa (.lst c)/\c.length<br/\k (upd j D (.lst (c++[y]))) else k h):=by
 refine⟨fun i m H=>m=xs.length-i/\i<=xs.length/\d i H,⟨xs.length,Z,cg _,o⟩,?_⟩
 rintro i m H ⟨rfl,hi,p⟩
 have q:=hl i H hi p
 by_cases r:i<xs.length
 .refine .inr ⟨⟨xs,xs[i],q,by simp⟩,d (i+1),fun H' s=>⟨xs.length-(i+1),by lia,Z,r,s⟩,fun x H' y=> ?_⟩
  obtain⟨e,y⟩:=y
  subst e
  exact hs i x _ (y xs q) p
 .have e:i=xs.length:=by lia
  subst e
  exact .inl ⟨⟨xs,q,aQ _⟩,hd H p⟩
def Te(N:List Str)(b a:tQ)(own:List (Str×Nat)):Bool:=
 (match a.kind with| .function=>af|_=>ag)&&(a.names.all fun y=>ah (a.names.lookup y.1=aa y.2))&&(own.all fun p=>ah (N[p.2]? =aa p.1))&&
  (a.names.all fun y=>match y.2 with
   | .free=>(match b.names.lookup y.1 with|some .cell=>af|some .free=>af|_=>ag)
   | .local=>ah (y.1∈own.map (·.1))||decide (y.1∉N)
   | .cell=>ah (y.1∈own.map (·.1))||decide (y.1∉N)
   |_=>af)
theorem Gi(h:Te N sc scope own=af):Gf N sc scope own:=by
 unfold Te at h;simp only[bq,gD,aA] at h;obtain⟨⟨⟨h1,h2⟩,c⟩,b⟩:=h;refine⟨?_,h2,c,fun y a e=> ?_,fun y a e=> ?_⟩
 .split at h1
  .assumption
  .cases h1
 .have q:=b y a;simp only[e] at q;split at q<;>first|exact .inl (by assumption)|exact .inr (by assumption)|cases q
 .have q:=b y a;rcases e with e|e<;>(simp only[e,iS,aA] at q;exact q)
end L2
namespace L2
open PySem PySem.Spec PyProof.Rows
end L2
namespace L2
open PySem PySem.Spec PyProof.Rows
section
variable {κ:Type} [DecidableEq κ]
def jc(a:List (κ×V))(k:κ):Option V:=(a.find? fun kv=>ah (kv.1=k)).map (·.2)
def putK(a:List (κ×V))(k:κ)(v:V):List (κ×V):=
 if(a.any fun kv=>ah (kv.1=k))=af then a.map (fun kv=>if kv.1=k then(kv.1,v) else kv) else a++[(k,v)]
theorem jW{k:κ}(e:p.1=k):jc (p::r) k=aa p.2:=by simp[jc,jR,e]
theorem kM{k:κ}(e:¬p.1=k):jc (p::r) k=jc r k:=by simp[jc,jR,e]
theorem mC(k:κ):∀a:List (κ×V),(a.any fun kv=>ah (kv.1=k))=(jc a k).isSome
 |[]=>rfl
 |p::r=>by
  rw[List.any_cons];by_cases e:p.1=k
  .simp only[jW e,au e,Zy,LZ]
  .rw[kM e,aw e,FP];exact mC k r
theorem Gj(k j:κ)(y:V):∀a:List (κ×V),jc (a.map fun kv=>if kv.1=k then(kv.1,y) else kv) j=(jc a j).map fun x=>if j=k then y else x
 |[]=>rfl
 |p::r=>by
  have b:=Gj k j y r;rw[b5];by_cases h:p.1=k
  .rw[ai h];by_cases e:p.1=j
   .rw[jW (p:=(p.1,y)) e,jW e,fI,ai (e.symm.trans h)]
   .rw[kM (p:=(p.1,y)) e,kM e,b]
  .rw[ak h];by_cases e:p.1=j
   .rw[jW e,jW e,fI,ak (fun z=>h (e.trans z))]
   .rw[kM e,kM e,b]
theorem CS(k j:κ)(y:V):∀a:List (κ×V),jc a k=ae->jc (a++[(k,y)]) j=if j=k then aa y else jc a j
 |[],_=>by
  by_cases e:k=j
  .rw[ai e.symm];exact jW e
  .rw[ak (fun z=>e z.symm)];exact kM e
 |p::r,hn=>by
  dsimp only[iy];have hk:¬p.1=k:=fun z=>by rw[jW z] at hn;cases hn
  rw[kM hk] at hn;have b:=CS k j y r hn;by_cases e:p.1=j
  .rw[jW e,jW e,ak (fun z=>hk (e.trans z))]
  simp_all [kM]
theorem pJ(b:List (κ×V))(k j:κ)(y:V):jc (putK b k y) j=if j=k then aa y else jc b j:=by
 unfold putK;by_cases a:(b.any fun kv=>ah (kv.1=k))=af
 .rw[ai a,Gj];rw[mC] at a;by_cases e:j=k
  .obtain⟨x,c⟩:=pD.mp a;rw[ai e,e,c,fI,ai Z]
  simp_all
 .rw[ak a];refine CS k j y b ?_;rw[mC] at a;simp_all
theorem xT(a:List (κ×V))(k:κ)(v:V):(putK a k v).length<=a.length+1:=by
 unfold putK;split
 .rw[aE];simp
 simp_all
theorem Gk{k:κ}(v:V)(h:jc cw k=ae):putK cw k v=cw++[(k,v)]:=by unfold putK;rw[mC,h];exact ak (by decide)
theorem qW.wY(r:qW o u):o.isSome=u.isSome:=by
 cases o with
 |none=>cases u with
  |none=>rfl
  |some _=>exact(show False from r).elim
 |some _=>cases u with
  |none=>exact(show False from r).elim
  |some _=>rfl
theorem qW.getD(r:qW o u)(rd:RelV d d'):RelV (o.getD d) (u.getD d'):=by
 cases o with
 |none=>cases u with
  |none=>exact rd
  |some _=>exact(show False from r).elim
 |some _=>cases u with
  |none=>exact(show False from r).elim
  |some _=>exact r
theorem KV.val(r:KV cw vs)(k:κ):qW (jc cw k) (Zz vs k):=by
 induction r with
 |nil=>exact rA
 | @cons p q ps a h t c=>
  obtain⟨h1,h2⟩:=h;by_cases e:p.1=k
  .have b:Zz (q::a) k=aa q.2:=by simp[Zz,jR,(h1.symm.trans e)]
   rw[jW e,b];exact h2
  simp_all [Zz,jR,kM]
theorem KV.any(r:KV cw vs)(k:κ):(cw.any fun kv=>ah (kv.1=k))=vs.any fun kv=>ah (kv.1=k):=by induction r with|nil=>rfl|cons h t a=>simp_all
theorem KV.Xm(r:KV cw vs)(k:κ)(ry:RelV y u):
  KV (cw.map fun kv=>if kv.1=k then(kv.1,y) else kv) (vs.map fun kv=>if kv.1=k then(kv.1,u) else kv):=by
 induction r with
 |nil=>exact .nil
 | @cons p q ps b h t a=>
  rw[b5,b5]
  refine .cons ?_ a
  obtain⟨h1,h2⟩:=h
  by_cases e:p.1=k
  .rw[ai e,ai (h1.symm.trans e)];exact⟨h1,ry⟩
  .rw[ak e,ak (fun z=>e (h1.trans z))];exact⟨h1,h2⟩
theorem KV.put(r:KV cw vs)(k:κ)(ry:RelV y u):KV (putK cw k y) (stored vs k u):=by
 unfold putK stored;rw[r.any k];by_cases e:(vs.any fun kv=>ah (kv.1=k))=af
 .rw[ai e,ai e];exact r.Xm k ry
 .rw[ak e,ak e];exact yU r ⟨Z,ry⟩
theorem KV.length{vs:List (κ×bj)}(r:KV cw vs):cw.length=vs.length:=Paired.length r
end
theorem z9(r:RelV (kV k) u):(gp P w).is k u=true:=by cases k with|inl i=>obtain⟨t,e⟩:=(show∃t,u=bj.int i t from r);subst e;exact FU P w i t|inr x=>obtain⟨t,e⟩:=(show∃t,u=bj.str x t from r);subst e;exact FV P w x t
theorem CT:∀{ks:List Key} {a:List bj},Vals (ks.map kV) a->ItemsAre (gp P w) ks a
 |[],_,r=>by rw[jG] at r;cases r;exact .nil
 |k::ks,_,r=>by rw[b5] at r;cases r with|cons h t=>exact .cons (z9 h) (CT t)
abbrev KT(H:Hp):List (List Key×V)->List (List Key×Addr×bj)->Prop:=Paired fun p q=>p.1=q.1/\H q.2.1=aa (.tup (p.1.map kV))/\RelV p.2 q.2.2
theorem KT.val(r:KT H cw xs)(k:List Key):qW (jc cw k) ((N0 xs k).map (·.2)):=by
 induction r with
 |nil=>exact rA
 | @cons p q ps a h t d=>
  obtain⟨h1,_,h2⟩:=h;by_cases e:p.1=k
  .have c:=h1.symm.trans e;have b:N0 (q::a) k=aa q.2:=by simp[N0,jR,c]
   rw[jW e,b];exact h2
  .have c:¬q.1=k:=fun z=>e (h1.trans z);have b:N0 (q::a) k=N0 a k:=by simp[N0,jR,c]
   rw[kM e,b];exact d
theorem KT.Xm(r:KT H cw xs)(k:List Key)(ry:RelV y u):
  KT H (cw.map fun kv=>if kv.1=k then(kv.1,y) else kv) (xs.map (putAt k u)):=by
 induction r with
 |nil=>exact .nil
 | @cons p q ps c h t a=>
  rw[b5,b5]
  refine .cons ?_ a
  obtain⟨h1,h2,b⟩:=h
  unfold putAt
  by_cases e:p.1=k
  .rw[ai e,ai (h1.symm.trans e)];exact⟨h1,h2,ry⟩
  .rw[ak e,ak (fun z=>e (h1.trans z))];exact⟨h1,h2,b⟩
theorem KT.put(r:KT H cw xs)(k:List Key)(a:H b=aa (.tup (k.map kV)))(ry:RelV y u):
  KT H (putK cw k y) (storedH xs k b u):=by
 have e:(cw.any fun kv=>ah (kv.1=k))=(N0 xs k).isSome:=by
  rw[mC,(r.val k).wY,Nw]
 unfold putK storedH
 rw[e]
 by_cases q:(N0 xs k).isSome=af
 .rw[ai q,ai q];exact r.Xm k ry
 .rw[ak q,ak q];exact yU r ⟨Z,a,ry⟩
theorem KT.keeps(r:KT H cw xs)(a:∀b ys,H b=aa (.tup ys)->H' b=aa (.tup ys)):KT H' cw xs:=
 Paired.WL r fun _ _ z=>⟨z.1,a _ _ z.2.1,z.2.2⟩
section
variable {P:b7} {w:cW} {H:Hp} {h:Heap} {a:Addr}
theorem Vo(ok:vd P w H h)(e:Rd H a u):ie P w H h a u:=e.ok ok
theorem CU(ok:vd P w H h)(e:Rd H a (.dK cw)):cw.length<=br/\(a==iq)=ag/\∃vs,KV cw vs/\h.DictOf (gp P w) a vs:=
 show ie P w H h a (.dK cw) from Vo ok e
theorem aam(ok:vd P w H h)(e:H a=aa (.dK cw)):cw.length<=br/\(a==iq)=ag/\∃vs,KV cw vs/\h.DictOf (gp P w) a vs:=CU ok (.inl e)
theorem wZ(ok:vd P w H h)(e:H a=aa (.tup (ks.map kV))):(yk (gp P w)).is h ks a:=by obtain⟨_,its,r,o,h1,h2,n,b⟩:=(show ie P w H h a (.tup (ks.map kV)) from ok a _ e);exact⟨o,its.toArray,n,h1,h2,b,by exact CT r⟩
theorem CV(ok:vd P w H h)(e:Rd H a (.dT cw)):cw.length<=br/\(a==iq)=ag/\
  ∃xs,KT H cw xs/\h.DictOfH (yk (gp P w)) a xs:=by
 obtain⟨z,y,xs,r,o,es,d,h1,h2,f,g,i⟩:=(show ie P w H h a (.dT cw) from Vo ok e)
 refine⟨z,y,xs,r,o,es,d,h1,h2,f,g,fun x b=> ?_,i⟩
 have all:∀{l:List (List Key×V)} {m:List (List Key×Addr×bj)},KT H l m->∀x∈m,(yk (gp P w)).is h x.1 x.2.1:=by
  intro l m q
  induction q with
  |nil=>intro x b;exact nomatch b
  | @cons p q ps k c t j=>
   intro x b
   rcases aZ.mp b with e|b
   .subst e
    exact wZ ok (by rw[<-c.1];exact c.2.1)
   .exact j x b
 exact all r x b
theorem aan(ok:vd P w H h)(e:H a=aa (.dT cw)):cw.length<=br/\(a==iq)=ag/\
  ∃xs,KT H cw xs/\h.DictOfH (yk (gp P w)) a xs:=CV ok (.inl e)
end
def tK(H:Hp)(a:Addr)(y:V)(r:Option V):Prop:=
 (∃c k,Rd H a (.dK c)/\y=kV k/\r=jc c k)\/∃c k b,Rd H a (.dT c)/\y= .ref b/\H b=aa (.tup (k.map kV))/\r=jc c k
def Gm(H:Hp)(a:Addr)(y v:V)(H':Hp):Prop:=
 (∃c k,H a=aa (.dK c)/\y=kV k/\c.length<br/\H'=upd H a (.dK (putK c k v)))\/
 ∃c k b,H a=aa (.dT c)/\y= .ref b/\H b=aa (.tup (k.map kV))/\c.length<br/\H'=upd H a (.dT (putK c k v))
theorem tK.k{k:Key}(e:H a=aa (.dK cw)):tK H a (kV k) (jc cw k):= .inl ⟨cw,k, .inl e,Z,Z⟩
theorem tK.t{k:List Key}(e:H a=aa (.dT cw))(c:H b=aa (.tup (k.map kV))):tK H a (.ref b) (jc cw k):= .inr ⟨cw,k,b, .inl e,Z,c,Z⟩
theorem Gm.k{k:Key}(e:H a=aa (.dK cw))(hl:cw.length<br):Gm H a (kV k) v (upd H a (.dK (putK cw k v))):= .inl ⟨cw,k,e,Z,hl,Z⟩
theorem Gm.t{k:List Key}(e:H a=aa (.dT cw))(c:H b=aa (.tup (k.map kV)))(hl:cw.length<br):
  Gm H a (.ref b) v (upd H a (.dT (putK cw k v))):= .inr ⟨cw,k,b,e,Z,c,hl,Z⟩
section
variable {X:Cx} {pz:List (Addr×Obj)} {σ:St} {H:Hp} {s:bH} {a:Addr} {y v:V} {u r:bj} {o:Option V} {A:gK} {E:bj->bH->Prop}
theorem Inv.big(I:Inv X pz σ H s):iq<s.heap.objs.size:=by exact sI (by decide) ((I.mod.glob.keeps I.bk).lt)
theorem CW(n:A.units+1<ly)(I:Inv X pz σ H s)(g:tK H a y (aa v))(ry:RelV y u)(h:∀d s',Inv X pz σ H s'->RelV v d->Q d s'):
  bL (model X.prog X.w) A (getItem (.ref a) u) Q E s:=by
 rcases g with⟨o,k,e,f,l⟩|⟨o,k,b,e,f,q,l⟩
 .subst f
  obtain⟨z,hd,vs,c,i⟩:=CU I.gT e
  obtain⟨d,hw,j⟩:=qW.some_of (by rw[l];exact c.val k)
  exact wpAny_getItem_of (z9 ry) i.mapOf hw (h d _ (I.tok _) j)
 .subst f
  cases (show u=bj.ref b from ry)
  obtain⟨z,hd,xs,c,i⟩:=CV I.gT e
  obtain⟨d,hw,j⟩:=qW.some_of (by rw[l];exact c.val k)
  obtain⟨p,r,m⟩:=FO.mp hw
  refine wpAny_getItem_heap (qK n) (wZ I.gT q) i r ?_
  exact m▸(h d _ (I.tok _) j)
theorem acv(i:A.units+1<ly)(I:Inv X pz σ H s)(g:tK H a y o)(ry:RelV y u)(h:∀s',Inv X pz σ H s'->Q (.bool o.isSome) s'):
  bL (model X.prog X.w) A (compareOp .In u (.ref a)) Q E s:=by
 rcases g with⟨j,k,e,d,l⟩|⟨j,k,b,e,d,m,l⟩
 .subst d
  obtain⟨z,hd,vs,c,f⟩:=CU I.gT e
  refine wpAny_in_of (z9 ry) hd f.mapOf ?_
  rw[<-(c.val k).wY,<-l]
  exact h _ (I.tok _)
 .subst d
  cases (show u=bj.ref b from ry)
  obtain⟨z,hd,xs,c,f⟩:=CV I.gT e
  refine wpAny_in_heap (qK i) (wZ I.gT m) hd f ?_
  have q:=(c.val k).wY
  rw[Nw] at q
  rw[<-q,<-l]
  exact h _ (I.tok _)
theorem KJ(I:Inv X pz σ H s)(d:ZK (H a))(hs:d6 a s.heap h')(e:∃q,h'.get? a=aa q)(new:ie X.prog X.w (upd H a ob) h' a ob):
  Inv X pz σ (upd H a ob) {s with heap:=h',toks:=t'}:=
 I.write d (.inl rfl) (fun b q f z=>(hs.2 b f).trans z) e new
theorem Xn(z:cw.length<=br)(hd:(a==iq)=ag)(b:KV cw vs)(c:h'.DictOf (gp P w) a vs):
  ie P w H' h' a (.dK cw):=⟨z,hd,vs,b,c⟩
theorem CX(w:A.units+1<ly)(I:Inv X pz σ H s)(g:Gm H a y v H')(ry:RelV y u)(p:RelV v r)(h:∀s',Inv X pz σ H' s'->Q () s'):
  bL (model X.prog X.w) A (setItem (.ref a) u r) Q E s:=by
 rcases g with⟨j,k,e,m,l,n⟩|⟨j,k,b,e,m,t,l,n⟩
 .subst m n
  obtain⟨z,hd,vs,d,o⟩:=aam I.gT e
  have x:vs.length<=br:=by rw[<-d.length];exact z
  refine wpAny_setItem_pairs (z9 ry) o fun h' f hs=>h _ ?_
  exact KJ I (by rw[e];exact rA) hs (let ⟨q,_,_,i,_⟩:=f;⟨q,i⟩) (Xn (by have:=xT j k v;lia) hd (d.put k p) f)
 .subst m n
  cases (show u=bj.ref b from ry)
  obtain⟨z,hd,xs,d,o⟩:=aan I.gT e
  have x:xs.length<=br:=by rw[<-Paired.length d];exact z
  refine wpAny_setItem_heap (qK w) (wZ I.gT t) o fun h' f hs=>h _ ?_
  obtain⟨q,es,B,i,h2,C,D,_,F⟩:=f
  refine KJ I (by rw[e];exact rA) hs ⟨q,i⟩ ⟨by have:=xT j k v;lia,hd,_,(d.put k t p).keeps fun c ys G=> ?_,q,es,B,i,h2,C,D,F⟩
  rwa [aL (dE G e (fun z=>nomatch z))]
end
def Xo(i:Expr):Prop:=∀a iv,subscripted i ag a iv=operate [a,iv] (getItem a iv)
theorem KL{T id:String}
  (hl:Br (.type T) "__getitem__"=pure (aa (.builtin id))) (hs:Xo slice)
  (h:bL (model prog w) A (eval value env) (fun o c=>bL (model prog w) A (eval slice env) (fun i a=>a.TypeIs o T/\bL (model prog w) A (getItem o i) Q E a) E c) E s):
  bL (model prog w) A (eval (.Subscript value slice pos) env) Q E s:=by
 refine Bs (gZ h (fun o c f=>gZ f (fun i a b=> ?_) fun _ _ x=>x) fun _ _ x=>x)
 obtain⟨d,b⟩:=b
 refine aF ?_
 rw[getitemInPython_of_ne d.not_modules]
 refine aF (pb d hl ?_)
 have fin:bL (model prog w) A (subscripted slice ag o i) (fun r e=>bL (model prog w) A (letTemporaryGo value o r>>=fun _=>pure r) Q E e) E a:=by
  rw[hs o i]
  exact wpAny_operating (gZ b (fun r e g=>aF (wpAny_letTemporaryGo (aU g))) fun _ _ x=>x)
 first
  |exact aU (aF fin)
  |exact aF (aU (aF fin))
  |exact aF fin
theorem Gn{σ:St}(I:Inv X pz σ H s)(g:tK H a y o):s.TypeIs (.ref a) "dict":=by
 rcases g with⟨cw,k,e,_⟩|⟨cw,k,b,e,_⟩
 .obtain⟨_,_,vs,_,c⟩:=CU I.gT e;exact c.typeIs
 .obtain⟨_,_,xs,_,c⟩:=CV I.gT e;exact c.typeIs
inductive OV(Q:VK)(x:V) y H2:Prop|mk:∀a v,(x= .ref a)->(tK H2 a y (aa v))->(Q v H2)->OV Q x y H2
def aao(a b:TE):TE:=fun σ H Q=>a σ H fun x H1=>b σ H1 fun y H2=>OV Q x y H2
inductive Vp(Q:VK) y(x:V) H2:Prop|mk:∀a o,(x= .ref a)->(tK H2 a y o)->(Q (.bl o.isSome) H2)->Vp Q y x H2
def acw(a b:TE):TE:=fun σ H Q=>a σ H fun y H1=>b σ H1 fun x H2=>Vp Q y x H2
inductive OW(D:Ends) σ v(x:V) y H3:Prop|mk:∀a H4,(x= .ref a)->(Gm H3 a y v H4)->(D.nx σ H4)->OW D σ v x y H3
def aap(a b tv:TE):TS:=fun D σ H=>tv σ H fun v H1=>a σ H1 fun x H2=>b σ H2 fun y c=>OW D σ v x y c
inductive OX(tv:TE)(rd:V->V->Hp->VK->Prop)(D:Ends) σ(x:V) y H2:Prop|mk:∀a v,(x= .ref a)->(tK H2 a y (aa v))->(tv σ H2 fun y2 H3=>rd v y2 H3 fun z H4=>∃H5,Gm H4 a y z H5/\D.nx σ H5)->OX tv rd D σ x y H2
def aaq(a b tv:TE)(rd:V->V->Hp->VK->Prop):TS:=fun D σ H=>a σ H fun x H1=>b σ H1 fun y H2=>OX tv rd D σ x y H2
section
variable {X:Cx} {o i e value:Expr} {pos pos' D_:Pos} {td ty tv:TE}
theorem KN(c:X.A.units+1<ly)(ho:PE X o td)(hi:PE X i ty)(hs:Xo i):PE X (.Subscript o i pos) (aao td ty):=by intro pz s σ H Q I h;refine KL Bx.lookup hs (fX (ho pz s σ H _ I h) fun u d ⟨x,H1,e,f,j⟩=>fX (hi pz d σ H1 _ e j) ?_);rintro iv n ⟨y,H2,b,ry,a,v,ex,g,k⟩;subst ex;obtain rfl:u=bj.ref a:=f;exact⟨Gn b g,CW c b g ry fun p q l m=>⟨v,H2,l,m,k⟩⟩
theorem Xp(b:X.A.units+1<ly)(hi:PE X i ty)(ho:PE X o td):PC X .In i o (acw ty td):=by intro pz s σ H Q I h;refine fX (hi pz s σ H _ I h) fun iv c ⟨y,H1,d,ry,e⟩=>fX (ho pz c σ H1 _ d e) ?_;rintro u n ⟨x,H2,f,j,a,k,ex,g,l⟩;subst ex;obtain rfl:u=bj.ref a:=j;exact acv b f g ry fun p m=>⟨.bl k.isSome,H2,m,Z,l⟩
theorem y9(b:X.A.units+1<ly)(ho:PE X o td)(hi:PE X i ty)(hv:PE X value tv)(hs:yl value (aa (.Subscript o i pos')) pos.line X.env=pure ag):
  PS X (.Assign [.Subscript o i pos'] value pos) (aap td ty tv):=by
 intro pz s σ H D I h
 refine wpAny_Assign_Subscript (fX (hv pz s σ H _ I h) fun r c ⟨v,H1,d,e,f⟩=>fX (ho pz c σ H1 _ d f) fun u j ⟨x,H2,k,l,m⟩=>fX (hi pz j σ H2 _ k m) fun iv w ⟨y,z,n,ry,a,p,ex,g,q⟩=> ?_) hs
 subst ex
 obtain rfl:u=bj.ref a:=l
 exact CX b n g ry e fun A t=>⟨σ,p,t,q⟩
theorem Tf(e:X.A.units+1<ly)(ho:PE X o td)(hi:PE X i ty)(hv:PE X value tv)(c:S1 X op rd)
  (f:∀b iv new,augStore i b iv new=(do holding [new,b,iv] (setItem b iv new);release [new,b,iv] [];pure .next)):PS X (.AugAssign (.Subscript o i D_) op value pos) (aaq td ty tv rd):=by
 intro pz s σ H D I h
 refine wpAny_AugAssign_SubscriptAny (fX (ho pz s σ H _ I h) fun u j ⟨x,H1,k,l,m⟩=>fX (hi pz j σ H1 _ k m) fun iv P ⟨y,H2,n,ry,a,v,ex,g,p⟩=> ?_) f
 subst ex
 obtain rfl:u=bj.ref a:=l
 exact CW e n g ry fun q r t w=>fX (hv pz r σ H2 _ t p) (by rintro A B ⟨C,E,F,d,G⟩;exact fX (c pz B σ E v C q A _ F w d G) fun Q R ⟨z,S,J,K,L,M,N⟩=>CX e J M ry K fun T O=>⟨σ,L,O,N⟩)
end
theorem OY(h:Heap)(a:iq<h.objs.size):ie P w H (h.push {cls:= .type "dict",data:= .dict #[]}) h.objs.size (.dK []):=
 ⟨cg _,beq_eq_false_iff_ne.mpr (bF (b9 a)),[], .nil,Heap.DictOf.new h⟩
theorem OZ(h:Heap)(a:iq<h.objs.size):ie P w H (h.push {cls:= .type "dict",data:= .dict #[]}) h.objs.size (.dT []):=
 ⟨cg _,beq_eq_false_iff_ne.mpr (bF (b9 a)),[], .nil,_,#[],0,bc _ Z,⟨Z,Z,Z⟩,Z,Z,fh⟩
def Xq:TE:=fun _ H Q=>∀p,H p=ae->Q (.ref p) (upd H p (.dK []))
def Xr:TE:=fun _ H Q=>∀p,H p=ae->Q (.ref p) (upd H p (.dT []))
section
variable {X:Cx} {pos:Pos}
theorem Gp:PE X (.Dict [] [] pos) Xq:=fun pz s σ H Q I h=>
 wpAny_Dict_empty ⟨.ref s.heap.objs.size,_,I.laid (t':=s.toks) (fun _ _ q=>aJ _ q) (aQ _) (OY s.heap I.big),Z,h _ (I.gT.fresh (aQ _))⟩
theorem O0:PE X (.Dict [] [] pos) Xr:=fun pz s σ H Q I h=>
 wpAny_Dict_empty ⟨.ref s.heap.objs.size,_,I.laid (t':=s.toks) (fun _ _ q=>aJ _ q) (aQ _) (OZ s.heap I.big),Z,h _ (I.gT.fresh (aQ _))⟩
end
structure M1(X:Cx) o m(apos:Pos) e m6:Prop where
 base:attributeBase o m X.env (eval o X.env)=eval o X.env
 qk:((gA m6 (bV [e] X.env)).all (fun x=> !x.1)&&(lU m6 (iG [] X.env)).all (fun x=>x.1.isSome)
  &&ah (([e]).length+([]:List Iw).length+(if([]:List Iw).isEmpty then 0 else 1)<30))=af
 line:(apos.endLine==m6.line)=af
 trees:gA m6 (bV [e] X.env)=[(ag,eval e X.env)]
structure M2(X:Cx) o m(apos:Pos)(e f) m6:Prop where
 base:attributeBase o m X.env (eval o X.env)=eval o X.env
 qk:((gA m6 (bV [e,f] X.env)).all (fun x=> !x.1)&&(lU m6 (iG [] X.env)).all (fun x=>x.1.isSome)
  &&ah (([e,f]).length+([]:List Iw).length+(if([]:List Iw).isEmpty then 0 else 1)<30))=af
 line:(apos.endLine==m6.line)=af
 trees:gA m6 (bV [e,f] X.env)=[(ag,eval e X.env),(ag,eval f X.env)]
def IsD(H:Hp)(a:Addr):Prop:=(∃cw,Rd H a (.dK cw))\/∃cw,Rd H a (.dT cw)
theorem Xs{σ:St}(I:Inv X pz σ H s)(d:IsD H a):
  s.TypeIs (.ref a) "dict"/\(∀b,bj.ref a= .ref b->∃c,s.heap.get? b=aa c/\c.dict=ae)/\(a==iq)=false:=by
 rcases d with⟨cw,e⟩|⟨cw,e⟩
 .obtain⟨_,hd,vs,_,f⟩:=CU I.gT e
  refine⟨f.typeIs,fun b q=> ?_,hd⟩
  cases q
  obtain⟨c,_,_,h1,h2,_⟩:=f
  exact⟨c,h1,h2.2.1⟩
 .obtain⟨_,hd,xs,_,f⟩:=CV I.gT e
  refine⟨f.typeIs,fun b q=> ?_,hd⟩
  cases q
  obtain⟨c,_,_,h1,h2,_⟩:=f
  exact⟨c,h1,h2.2.1⟩
section
variable {X:Cx} {pz:List (Addr×Obj)} {σ:St} {H:Hp} {s:bH} {a:Addr} {y d:V} {u r:bj} {o:Option V} {A:gK} {E:bj->bH->Prop}
theorem Xt(m:A.units+1<ly)(I:Inv X pz σ H s)(g:tK H a y o)(ry:RelV y u)(rd:RelV d r)(h:∀j s',Inv X pz σ H s'->RelV (o.getD d) j->Q j s'):
  bL (model X.prog X.w) A (call (.builtin "dict.get") [.ref a,u,r]) Q E s:=by
 rcases g with⟨cw,k,e,i,l⟩|⟨cw,k,b,e,i,n,l⟩
 .subst i
  obtain⟨z,hd,vs,c,f⟩:=CU I.gT e
  refine RY jK f.typeIs qL (DT _ _ _) (meets_dict_get_default (gp X.prog X.w) a (z9 ry) hd r) ⟨_,f.mapOf,h _ _ (I.tok _) ?_⟩
  exact l▸((c.val k).getD rd)
 .subst i
  cases (show u=bj.ref b from ry)
  obtain⟨z,hd,xs,c,f⟩:=CV I.gT e
  refine RY jK f.typeIs qL (DT _ _ _) (meetsH_dict_get_default (yk (gp X.prog X.w)) a b hd r) ⟨qK m,k,xs,wZ I.gT n,f,h _ _ (I.tok _) ?_⟩
  exact l▸((c.val k).getD rd)
end
inductive KO(ty tx:TE) σ(Q:VK)(x:V) H1:Prop|mk:∀a,(x= .ref a)->(IsD H1 a)->(ty σ H1 fun y H2=>tx σ H2 fun z H3=>∃o,tK H3 a y o/\Q (o.getD z) H3)->KO ty tx σ Q x H1
def Xu(td ty a:TE):TE:=fun σ H Q=>td σ H fun x H1=>KO ty a σ Q x H1
section
variable {X:Cx} {o e f:Expr} {apos m6:Pos} {td ty tx:TE}
theorem Gq(c:X.A.units+1<ly)(ho:PE X o td)(i:PE X e ty)(j:PE X f tx)(m:M2 X o "get" apos e f m6):PE X (.Call (.Attribute o "get" apos) [e,f] [] m6) (Xu td ty tx):=by
 intro pz s σ H Q I h;refine ZA m.base m.qk m.line DU jK FQ (fX (ho pz s σ H _ I h) ?_);rintro u k ⟨x,H1,b,l,a,ex,d,n⟩;subst ex;obtain rfl:u=bj.ref a:=l;obtain⟨t1,t2,_⟩:=Xs b d;refine⟨t1,t2,?_⟩;rw[m.trees]
 refine h_ Z (mP (fP (fX (i pz k σ H1 _ b n) fun iv p ⟨y,H2,q,ry,r⟩=>
  fP (fX (j pz p σ H2 _ q r) fun D E ⟨z,t,v,w,F,g,A⟩=>g_ ?_))))
 exact Xt c v g ry w fun G J B C=>⟨_,t,B,C,A⟩
end
end L2
namespace L2
open PySem PySem.Spec PyProof.Rows
end L2
namespace L2
open PySem PySem.Spec PyProof.Rows
section
variable {X:Cx} {pz:List (Addr×Obj)} {σ:St} {H:Hp} {s:bH} {h':Heap}
theorem Inv.Tg{ch:List Addr}(I:Inv X pz σ H s)(k:∀b o,b∉ch->s.heap.get? b=aa o->h'.get? b=aa o)(d:∀b∈ch,yu X pz H b):Inv X pz σ H {s with heap:=h',toks:=t'}:=by
 have h:∀b u,H b=aa u->b∉ch:=fun b u e z=>by have q:=(d b z).1;lia
 refine I.step (g':=s.gens) (d':=s.drawn) (fun b f=>⟨(d b f).2.2.2.1,(d b f).2.1,(d b f).2.2.2.2.1,(d b f).2.2.2.2.2⟩) (fun b o _ _ a e _=>k b o a e) (fun b o _ _ a e _=>⟨o.slots,k b o a e⟩) (fun _ _ _ _ n=>n) (fun b o a e=>⟨o,k b o a e⟩) (fun _ _ e=>e) (fun _ _ _ e=>e) (fun b ps e=>⟨#[],by rw[e];simp⟩) (fun m i=> ?_) (fun b u e=> ?_) I.bare
 .obtain⟨o,es,j,ho,r⟩:=i;exact⟨o,es,j,k _ o (fun z=>(d _ z).2.1 rfl) ho,r⟩
 .refine(I.gT b u e).BC (fun c v a q=>k c v ?_ q) (fun _ q=>q) fun _ _ q=>q;rcases a with z|z
  .rw[z];exact h b u e
  .exact h c _ z
theorem Inv.w6{ch:List Addr}{T:Addr}(I:Inv X pz σ H s)(k:∀b o,b∉ch->s.heap.get? b=aa o->h'.get? b=aa o)(f:∀b∈ch,yu X pz H b)(g:s.heap.objs.size<=T)
  (new:ie X.prog X.w (upd H T ob) h' T ob):Inv X pz σ (upd H T ob) {s with heap:=h',toks:=t'}:=by
 have hn:=I.gT.fresh g
 have i:∀b u,H b=aa u->b∉ch:=fun b u e z=>by
  have q:=(f b z).1
  lia
 refine I.step (g':=s.gens) (d':=s.drawn) (fun b a=>⟨(f b a).2.2.2.1,(f b a).2.1,(f b a).2.2.2.2.1,(f b a).2.2.2.2.2⟩) (fun b o _ _ d e _=>k b o d e) (fun b o _ _ d e _=>⟨o.slots,k b o d e⟩)
  (fun b o _ e n=> ?_) (fun b o d e=>⟨o,k b o d e⟩) (fun b xs e=> ?_) (fun b o u e=> ?_) (fun b ps e=>⟨#[],?_⟩) (fun m j=> ?_) (fun b u e=> ?_) I.bare
 .rw[aL (b9 (bN (bD e) g))];exact n
 .rw[aL (aS e hn)];exact e
 .rw[aL (aS e hn)];exact e
 .rw[aL (aS e hn),e];rfl
 .obtain⟨o,es,l,ho,r⟩:=j
  exact⟨o,es,l,k _ o (fun z=>(f _ z).2.1 rfl) ho,r⟩
 .by_cases a:b=T
  .subst a
   rw[aH] at e
   cases e
   exact new
  .rw[aL a] at e
   refine(I.gT b u e).BC (fun c v d q=>k c v ?_ q) (fun c q=>by rw[aL (aS q hn)];exact q) fun c xs q=>by rw[aL (aS q hn)];exact q
   rcases d with z|z
   .rw[z];exact i b u e
   .exact i c _ z
end
section
variable {X:Cx}
theorem O1{σ:St}(I:Inv X pz σ H s)(o:Obj)
  (T:Turn X.prog X.w X.K tg J [s.heap.objs.size] s.heap.objs.size tn) (st:tn 0 (s.heap.push o)) (q:R J H):PIE X pz σ tg R (.ref s.heap.objs.size) {s with heap:=s.heap.push o,toks:=tk}:=by
 refine⟨s.heap.objs.size,[s.heap.objs.size],tn,J,H,Z,I.kept fun b d e=>aJ _ e,T,st,fun b c=> ?_,q⟩
 have e:b=s.heap.objs.size:=by simpa using c
 subst e
 exact I.IH (aQ _) (I.gT.fresh (aQ _))
end
def Vq(x:Str):It:=⟨fun i _=>i<x.cps.size,fun i H v H'=>H'=H/\∃c,x.cps[i]? =aa c/\v= .str ⟨#[c]⟩,fun i _=>x.cps.size<=i⟩
theorem Gr{K:aM}(it:Addr)(x:Str)(t:Tok)(ty:String)(g:ty="str_ascii_iterator"\/ty="str_iterator"):
  Turn P w K tg (Vq x) [it] it (fun i h=>h.IsStrIter it ty x t i) where
 mem:=by simp
 obj:=fun i h st b a=>by
  have e:b=it:=by simpa using a
  subst e
  obtain⟨o,e,c,d⟩:=st
  exact⟨o,e,fun v z=>by rw[d] at z;cases z⟩
 keep:=fun i h h' st k=>let ⟨o,ho,r⟩:=st;⟨o,k it (by simp) o ho,r⟩
 item:=by
  intro X y hw B f i pz s σ H E I j st hg
  subst y hw B
  obtain⟨l,m,L,n,p,q⟩:=j it (by simp)
  have W:Walks X.prog X.w X.A it [it] [it] x.cps.size (SignAt x) (fun i h=>h.IsStrIter it ty x t i):=by
   rcases g with e|e
   .rw[e];exact Walks.strAscii (I.ok.hd f) it x t
   .rw[e];exact Walks.strWide (I.ok.hd f) it x t
  have M:["enumerate","zip","dict_itemiterator","dict_reverseitemiterator","odict_iterator","itertools.zip_longest","itertools.pairwise"].contains ty=false:=by
   rcases g with e|e
   .rw[e];decide
   .rw[e];decide
  refine W.item i s _ _ hg st fun v h' tk hv F kk=> ?_
  obtain⟨c,u,C,rfl⟩:=hv
  have N:Inv X pz σ H {s with heap:=h',toks:=tk}:=I.turned (fun b o a e=>kk b o (by simpa using a) e) l m n p q
  obtain⟨R,e,cc,O⟩:=id F
  exact⟨_,Z,Oq e cc O M ⟨.str ⟨#[c]⟩,H,N,⟨u,Z⟩,⟨Z,c,C,Z⟩,F,fun b a=>(j b a).1⟩⟩
 done:=by
  intro X y hw B f i pz s σ H E I j st hg
  subst y hw B
  obtain⟨l,m,L,n,p,q⟩:=j it (by simp)
  have J:=lV hg
  rcases g with e|e
  .rw[e] at st
   exact wpAny_pyNext_ascii_end (I.ok.hd f) st J fun h' D=>⟨Z,I.turned (t':=s.toks) (fun b o a e=>D b o a e) l m n p q⟩
  .rw[e] at st
   exact wpAny_pyNext_wide_end (I.ok.hd f) st J fun h' D=>⟨Z,I.turned (t':=s.toks) (fun b o a e=>D b o a e) l m n p q⟩
 self:=fun A i s Q E st h=>by
  rcases g with e|e
  .rw[e] at st;exact wpAny_pyIter_striter_ascii st h
  .rw[e] at st;exact wpAny_pyIter_striter_wide st h
inductive Vr(R:It->Hp->Prop)(v:V) H1:Prop|mk:∀x,(v= .str x)->(R (Vq x) H1)->Vr R v H1
def acx(te:TE):TI:=fun σ H R=>te σ H fun v H1=>Vr R v H1
theorem O2(c:PE X e te):PI X tg e (acx te):=by
 intro pz s σ H R I h;refine fX (c pz s σ H _ I h) ?_;rintro v f ⟨y,H1,a,d,x,ex,q⟩;subst ex;obtain⟨t,rfl⟩:=d;cases b:x.cps.all (· <128)
 .exact wpAny_pyIter_wide b (O1 a _ (Gr _ x t "str_iterator" (.inr rfl)) ⟨_,bc _ Z,Z,Z⟩ q)
 .exact wpAny_pyIter_ascii b (O1 a _ (Gr _ x t "str_ascii_iterator" (.inl rfl)) ⟨_,bc _ Z,Z,Z⟩ q)
def Vs(K:aM)(a:Addr):It:=
 ⟨fun i H=>∃xs x,jD K H a xs/\xs[i]? =aa x,fun i H v H'=>∃T x,v= .ref T/\H T=ae/\H'=upd H T (.tup [.int i,x])/\∀xs,jD K H a xs->xs[i]? =aa x,fun i H=>∃xs,jD K H a xs/\xs.length<=i⟩
theorem Ms{K:aM}(a e it:Addr):
  Turn P w K (.Tuple elts kk D_) (Vs K a) [e,it] e (fun i h=>(∃c,Fx h e it ((i:Nat):Int) c)/\h.IsListIter it a i/\e≠it) where
 mem:=by simp
 obj:=fun i h st b f=>by
  obtain⟨⟨c,d⟩,⟨o,ho,n,hd⟩,_⟩:=st
  have r:b=e\/b=it:=by simpa using f
  rcases r with z|z
  .rw[z];exact⟨_,d,fun v q=>nomatch q⟩
  .rw[z];exact⟨o,ho,fun v q=>by rw[hd] at q;cases q⟩
 keep:=fun i h h' st k=>let ⟨⟨c,d⟩,hi,j⟩:=st;⟨⟨c,k e (by simp) _ d⟩,hi.at fun o q=>k it (by simp) o q,j⟩
 item:=by
  intro X t hw y n i pz s σ H E I l st hg
  subst t hw y
  obtain⟨⟨c,d⟩,g,j⟩:=st
  obtain⟨xs,x,m,B⟩:=hg
  obtain⟨its,C,p,J⟩:=I.list m
  obtain⟨u,L,M⟩:=C.get B
  have N:=bD d
  have BN:it<s.heap.objs.size:=by obtain⟨_,q,_⟩:=g;exact bD q
  refine wpAny_pyNext_enum_item d g p.isList (by simpa using L) j fun h' ho O R hsz hk=>⟨_,Z,Kh ho fun F Sh D=> ?_⟩
  have new:ie X.prog X.w (upd H s.heap.objs.size (.tup [.int (i:Nat),x])) F s.heap.objs.size (.tup [.int (i:Nat),x]):=
   ⟨zl,[.int i s.toks,u], .cons ⟨_,Z⟩ (.cons M .nil),⟨_,(D.2 _ (gN N)).trans R,Z,_,Z⟩⟩
  have S:Inv X pz σ (upd H s.heap.objs.size (.tup [.int (i:Nat),x])) {s with heap:=F,toks:=s.toks+1}:=
   I.w6 (fun b T f q=>(D.2 b (fun z=>f (by simp[z]))).trans (hk b T (fun z=>f (by simp[z])) (fun z=>f (by simp[z])) q)) l (aQ _) new
  refine⟨.ref s.heap.objs.size,_,S,Z,⟨_,x,Z,I.gT.fresh (aQ _),Z,fun ys U=>by rw[I.vm U m];exact B⟩,⟨⟨u,?_⟩,O.at fun o q=>(D.2 it (bF j)).trans q,j⟩,fun b f=> ?_⟩
  .assumption
  .have V:b<s.heap.objs.size:=by
    have r:b=e\/b=it:=by simp_all
    rcases r with z|z
    .simp_all
    simp_all
   exact(aL (b9 V))▸((l b f).1)
 done:=by
  intro X t hw y n i pz s σ H E I l st hg
  subst t hw y
  obtain⟨⟨c,d⟩,g,j⟩:=st
  obtain⟨xs,m,B⟩:=hg
  obtain⟨its,C,p,J⟩:=I.list m
  obtain⟨W,Y,f2,f3,f4,f5⟩:=l it (by simp)
  have hl:=C.length
  exact wpAny_pyNext_enum_end (I.ok.hd n) d g p.isList (by simp;lia) fun h' eb=>⟨Z,I.turned (t':=s.toks) (fun b o f q=>eb b o f q) W Y f3 f4 f5⟩
 self:=fun A i s Q E st h=>let ⟨⟨_,d⟩,_⟩:=st;rC d h
inductive O3 K(R:It->Hp->Prop)(vs:List V) H1:Prop|mk:∀a xs,(vs=[.ref a])->(jD K H1 a xs)->(R (Vs K a) H1)->O3 K R vs H1
def aar(K:aM)(ta:TA):TI:=fun σ H R=>ta σ H fun vs H1=>O3 K R vs H1
theorem KP(hg:Gl X "enumerate")(j:X.mg "enumerate"=ae)(k:PA X [e] ta)(hs:bV [e] X.env=[(ag,eval e X.env)]:=by rfl):
  PI X (.Tuple elts kk D_) (.Call (.Name "enumerate" p) [e] [] pos) (aar X.K ta):=by
 intro pz s σ H R I h
 refine NZ (kE I hg j boot_enumerate (cU (fX (k pos pz s σ H _ I h) fun u c ⟨vs,H1,f,l,m⟩=> ?_) hs Z))
 obtain⟨a,xs,ex,n,q⟩:=m
 subst ex
 cases l with
 |cons r rr=>
  cases rr
  subst r
  obtain⟨its,v,o,w⟩:=f.list n
  refine call_enumerate_list o.isList fun h' i g hsz hk=>rC i ?_
  refine⟨c.heap.objs.size+1,[c.heap.objs.size+1,c.heap.objs.size],_,_,H1,Z,f.kept (t':=c.toks) hk,Ms a (c.heap.objs.size+1) c.heap.objs.size,⟨⟨.none,i⟩,g,UX _⟩,fun b t=> ?_,q⟩
  have d:c.heap.objs.size<=b:=by
   rcases(by simpa using t) with z|z
   .simp_all
   simp_all
  exact f.IH d (f.gT.fresh d)
theorem Mt:uX "zip"=aa (.type "zip"):=by decide+kernel
end L2
section
namespace acy
open PySem PyProof.Rows
end acy
end
section
namespace TL
open PySem PySem.Builtin PySem.Builtin.Str PySem.StrLaws
abbrev tl(x:Str):List Nat:=x.cps.toList
theorem rP(x:Str):x.length=(tl x).length:=by rfl
theorem w8(h:tl x=tl y):x=y:=Str.ext' (RZ.mp h)
theorem w9(x y:Str):tl (x++y)=tl x++tl y:=by show(x++y).cps.toList=_;rw[Str.cps_append,Array.toList_append]
theorem z_:∀{l m:List Str},l.map tl=m.map tl->l=m
 |[],[],_=>rfl
 |[],_::_,h=>by simp at h
 |_::_,[],h=>by simp at h
 |x::l,y::m,h=>by rw[b5,b5] at h;injection h with h1 h2;rw[w8 h1,z_ h2]
theorem xU(s:String):tl (cq s)=s.toList.map wC:=PyProof.Rows.signs_ofString s
def pre(S l:List Nat):Bool:=l.take S.length==S
def Aa(S:List Nat):Nat->List Nat->List Nat->List (List Nat)|_,acc,[]=>[acc]|0,acc,c::r=>if pre S (c::r)=af then acc::Aa S (S.length-1) [] r else Aa S 0 (acc++[c]) r|k+1,acc,_::r=>Aa S k acc r
theorem Ti(S:List Nat)(k:Nat)(acc:List Nat):Aa S k acc []=[acc]:=by cases k<;>rfl
theorem KQ(h:pre S (c::r)=af):Aa S 0 acc (c::r)=acc::Aa S (S.length-1) [] r:=by show(if pre S (c::r)=af then acc::Aa S (S.length-1) [] r else Aa S 0 (acc++[c]) r)=_;rw[ai h]
theorem Gs(h:pre S (c::r)=ag):Aa S 0 acc (c::r)=Aa S 0 (acc++[c]) r:=by show(if pre S (c::r)=af then acc::Aa S (S.length-1) [] r else Aa S 0 (acc++[c]) r)=_;rw[ak (by rw[h];exact fQ)]
theorem Gu(S:List Nat):∀(k:Nat) (acc l:List Nat),Aa S k acc l=Aa S 0 acc (l.drop k)
 |0,_,_=>by rw[lZ]
 |k+1,acc,[]=>by rfl
 |k+1,acc,c::r=>by exact Gu S k acc r
theorem Tj(a:S≠[]):pre S []=false:=by cases S with|nil=>exact az Z a|cons s S=>rfl
theorem vx{L:List Nat}(h:a<L.length):∃c,L.drop a=c::L.drop (a+1):=⟨L[a],c_ h⟩
theorem Eh(S L:List Nat):∀(m a:Nat) (acc:List Nat),a+m<=L.length->(∀k,a<=k->k<a+m->pre S (L.drop k)=ag)->
  Aa S 0 acc (L.drop a)=Aa S 0 (acc++(L.drop a).take m) (L.drop (a+m))
 |0,a,acc,_,_=>by simp_all
 |m+1,a,acc,h,hn=>by
  have f:a<L.length:=by lia
  obtain⟨c,e⟩:=vx f
  have b:=hn a (aQ _) (by simp)
  have d:=Eh S L m (a+1) (acc++[c]) (by lia) (fun k h1 h2=>hn k (by lia) (by lia))
  have g:a+1+m=a+(m+1):=by lia
  rw[g] at d
  rw[e] at b
  rw[e,Gs b,d,nY,bJ]<;>rfl
theorem O4(L:List Nat)(a b:Nat):(L.drop a).drop b=L.drop (a+b):=by simp_all
theorem Xv{S L:List Nat}(a:S≠[])(h:pre S (L.drop c)=af):Aa S 0 acc (L.drop c)=acc::Aa S 0 [] (L.drop (c+S.length)):=by
 rw[<-O4]
 cases e:L.drop c with
 |nil=>rw[e,Tj a] at h;cases h
 |cons d r=>rw[e] at h;rw[KQ h,Gu];cases S with|nil=>exact az Z a|cons s S=>rfl
theorem O5(a:tl y≠[])(i:Nat):At x y x.length i↔pre (tl y) ((tl x).drop i)=true:=by
 have c:=rP x;have hl:=rP y;constructor
 .intro h;have h2:=h.2;rw[subAt_eq,hl] at h2;exact h2
 .intro h;have b:=congrArg List.length (eq_of_beq h);rw[bA,cz] at b;have d:=kW.mpr a;refine⟨by lia,?_⟩;rwa [subAt_eq,hl]
theorem Vt(a:tl y≠[])(h:¬At x y x.length i):pre (tl y) ((tl x).drop i)=false:=by cases b:pre (tl y) ((tl x).drop i) with|false=>rfl|true=>exact az ((O5 a i).mpr b) h
theorem Tn(a:tl y≠[]):1<=y.length:=by have b:=kW.mpr a;rwa [rP y]
theorem CY(x:Str)(i j:Nat):tl (strSub x i j)=((tl x).drop i).take (j-i):=strSub_toList x i j
theorem BO(x:Str)(i:Nat):tl (strSub x i x.length)=(tl x).drop i:=by simp[CY,rP,b8,cz]
theorem CZ(b:tl y≠[]):∀(d:List Nat) (a f:Nat),a<=(tl x).length->ChainG x y x.length a d f->(∀k,f<=k->¬At x y x.length k)->
  (partsFrom x y.length a d).map tl=Aa (tl y) 0 [] ((tl x).drop a)
 |[],a,f,g,h,hn=>by
  subst h
  show[tl (strSub x f x.length)]=_
  have run:=Eh (tl y) (tl x) ((tl x).length-f) f [] (by lia) (fun k h1 _=>Vt b (hn k h1))
  have e:f+((tl x).length-f)=(tl x).length:=by lia
  rw[e,qU,Ti,dR,b8 (by simp_all)] at run
  rw[run,BO]
 |c::r,a,f,g,h,hn=>by
  obtain⟨h1,h2,i,j⟩:=h
  have m:=h2.1
  have n:=rP x
  show tl (strSub x a c)::(partsFrom x y.length (c+y.length) r).map tl=_
  have run:=Eh (tl y) (tl x) (c-a) a [] (by lia) (fun k l o=>Vt b (i k l (by lia)))
  have e:a+(c-a)=c:=by lia
  rw[e,dR,Xv b ((O5 b c).mp h2)] at run
  rw[run,CZ b r (c+y.length) f (by assumption) j hn,CY,(rP y)]
theorem Mu(x y:Str)(a:tl y≠[])(hk:¬fo x<fo y):(Txt.split x y).map tl=Aa (tl y) 0 [] (tl x):=by
 obtain⟨f,g,hn⟩:=occ_tight x y (Tn a);have key:=CZ a _ 0 f (cg _) g hn;rw[lZ] at key;have b:occurrences x y 0 x.length (x.length+1)=[]->[x].map tl=Aa (tl y) 0 [] (tl x):=fun ho=>by rw[ho] at key;rw[<-key];show[tl x]=[tl (strSub x 0 x.length)];rw[sub_whole]
 unfold Txt.split;by_cases h1:(ah (x.length<y.length)||decide (fo x<fo y))=af
 .rw[ai h1];have d:x.length<y.length:=by
   simp only[iS,aA] at h1;rcases h1 with h|h
   .exact h
   .exact az h hk
  refine b ?_;cases ho:occurrences x y 0 x.length (x.length+1) with|nil=>rfl|cons c r=>rw[ho] at g;have e:=g.2.1.1;lia
 .rw[ak h1];by_cases h2:(occurrences x y 0 x.length (x.length+1)).isEmpty=af
  .rw[ai h2];exact b (List.isEmpty_iff.mp h2)
  .rwa [ak h2,partsBetween_eq]
theorem To(h:y.cps.all (· <256)=af):¬fo x<fo y:=by
 have e:fo y=1:=by unfold ui;rw[ai h]
 rw[e];unfold ui;split
 .simp
 .split<;>simp
def Gv(S:List Nat):List (List Nat)->List Nat|[]=>[]|[p]=>p|p::q::r=>p++(S++Gv S (q::r))
theorem KR(y:Str):∀a:List Str,tl (Str.join y a)=Gv (tl y) (a.map tl)|[]=>rfl|[_]=>rfl|x::z::r=>by show tl (x++y++Str.join y (z::r))=tl x++(tl y++Gv (tl y) ((z::r).map tl));rw[w9,w9,KR y (z::r),bJ]
theorem join_eq(y:Str)(a:List Str):Txt.join y a=Str.join y a:=glued_eq_join y a
def IY(n:Nat):List Nat:=(oC 10 n).map wC
theorem O6(n:Nat):tl (cq (toString ((n:Nat):Int)))=IY n:=PySem.W.KIN.signs_num n
theorem t6:∀d:Nat,d<10->(Ij d).toNat=48+d:=by decide
theorem Tp(h:n<10):IY n=[48+n]:=by unfold IY;rw[Iz h];show[(Ij n).toNat]=_;rw[t6 n h]
theorem Mv(h:10<=n):IY n=IY (n/10)++[48+n%10]:=by have a:n%10<10:=mQ n (by decide);have t:oC 10 (n/10)++oC 10 (n%10)=oC 10 (10*(n/10)+n%10):=Nat.toDigits_append_toDigits (by decide) (by lia) a;rw[Nat.div_add_mod] at t;show(oC 10 n).map wC=_;rw[<-t,a_,Iz a];show(oC 10 (n/10)).map wC++[(Ij (n%10)).toNat]=_;rw[t6 _ a]<;>rfl
end TL
end
namespace L2
open PySem PySem.Spec PyProof.Rows
theorem C2:∀l:List (Str×Tok),Vals ((l.map (·.1)).map V.str) (strValues l)|[]=> .nil|p::r=> .cons ⟨p.2,Z⟩ (C2 r)
theorem qm:∀{ys:List Str} {a:List bj},Vals (ys.map V.str) a->StrsAre a ys|[],_, .nil=> .nil|y::ys,_, .cons r t=>by obtain⟨k,rfl⟩:=r;exact .cons y k (qm t)
def Ab(ys:List Str):Hp->VK->Prop:=fun H Q=>∀p,H p=ae->Q (.ref p) (upd H p (.lst (ys.map V.str)))
section
variable {X:Cx} {pz:List (Addr×Obj)} {σ:St} {H:Hp} {s:bH} {Q:VK}
theorem w_(I:Inv X pz σ H s)(e:l.map (·.1)=ys)(a:ys.length<=br)(h:Ab ys H Q):
  EP X pz σ Q (.ref s.heap.objs.size) {s with toks:=k,heap:=s.heap.push {cls:= .type "list",data:= .seq (strValues l).toArray}}:=by
 refine⟨.ref s.heap.objs.size,upd H s.heap.objs.size (.lst (ys.map V.str)),I.laid (fun b u q=>aJ _ q) (aQ _) ⟨by simp_all,strValues l,_,?_,bc _ Z⟩,Z,h _ (I.gT.fresh (aQ _))⟩
 exact e▸(C2 l)
end
section
variable {X:Cx}
theorem O7:Sf X "str.split" (fun x xs H Q=>∃a b,x= .str a/\xs=[.str b]/\(b.length==0)=ag/\a.length+2<=br/\Ab (Txt.split a b) H Q):=by
 intro pz s σ H x xs v j Q I f d h;obtain⟨a,b,rfl,rfl,e,g,h⟩:=h;obtain⟨t,rfl⟩:=f
 cases d with
 |cons i d=>
  cases d
  obtain⟨u,rfl⟩:=i;have hl:=bY (PyProof.Rows.split_le a b) g;have hn:(Builtin.Str.partsBetween a (zp a b 0 a.length (a.length+1)) b.length).length<=br:=by have k:=StrLaws.occ_length_le a b 0 a.length (a.length+1);rw[length_partsBetween];lia
  cases h1:(ah (a.length<b.length)||decide (fo a<fo b))
  .cases c:(zp a b 0 a.length (a.length+1)).isEmpty
   .refine nX sJ (qJ _ _ _) Bu (yV _ _) (meets_str_split_sep a b t u h1 e c (by lia) hn) ?_;rw[strsFrom_eq];exact w_ I ((numbered_texts _ _).trans ((ak (ne_true_of_eq_false h1)).trans (ak (ne_true_of_eq_false c))).symm) hl h
   .exact nX sJ (qJ _ _ _) Bu (yV _ _) (meets_str_split_not_found a b t u h1 e c) (w_ (l:=[(a,t)]) I ((ak (ne_true_of_eq_false h1)).trans (ai c)).symm hl h)
  .exact nX sJ (qJ _ _ _) Bu (yV _ _) (meets_str_split_cannot_occur a b t u h1) (w_ (l:=[(a,t)]) I (ai h1).symm hl h)
theorem Tq:Sf X "str.join" (fun x xs H Q=>∃a p,∃ys:List Str,x= .str a/\xs=[.ref p]/\(jD X.K H p (ys.map V.str)\/oW X.K H p (ys.map V.str))/\
  (ys.map (·.length)).sum+ys.length*a.length<=16777216/\Q (.str (Txt.join a ys)) H):=by
 intro pz s σ H x xs v j Q I e c h
 obtain⟨a,p,ys,rfl,rfl,b,d,h⟩:=h
 obtain⟨t,rfl⟩:=e
 cases c with
 |cons f c=>
  cases c
  subst f
  rcases b with b|b
  .obtain⟨its,r,⟨o,n,ho,g,_,hd⟩,_⟩:=I.list b
   exact PyProof.Rows.join_list ⟨o,ho,g,n,hd⟩ (by rw[Ny];exact qm r) d fun t' k=>⟨.str _,H,I.tok k,⟨t',Z⟩,h⟩
  .obtain⟨its,r,i,_⟩:=I.tuple b
   exact PyProof.Rows.join_tuple i (by rw[Ny];exact qm r) d fun t' k=>⟨.str _,H,I.tok k,⟨t',Z⟩,h⟩
theorem mt0{id:String}{C:Str->Prop}{g:Str->V}(b:∀(a:Str) (t:Tok) (s:bH) (Q:bj->bH->Prop),C a->(∀(u:bj) (k:Nat),RelV (g a) u->Q u {s with toks:=k})->
  bL (model X.prog X.w) X.A (call (.builtin id) [.str a t]) Q NE s):Sf X id (fun x xs H Q=>∃a,x= .str a/\xs=[]/\C a/\Q (g a) H):=by
 intro pz s σ H x xs v f Q I c d h
 obtain⟨a,rfl,rfl,e,h⟩:=h
 obtain⟨t,rfl⟩:=c
 cases d
 exact b a t s _ e fun u k r=>⟨g a,H,I.tok k,r,h⟩
theorem IZ:Sf X "str.isdigit" (fun x xs H Q=>∃a,x= .str a/\xs=[]/\True/\Q (.bl (Txt.isdigit a)) H):=
 mt0 fun _ _ s _ _ h=>PySem.SC.isdigit (h _ s.toks Z)
theorem mt1{id:String}{g:Str->Str->V}(c:∀(a b:Str) (t u:Tok) (s:bH) (Q:bj->bH->Prop),(∀(v:bj) (k:Nat),RelV (g a b) v->Q v {s with toks:=k})->
  bL (model X.prog X.w) X.A (call (.builtin id) [.str a t, .str b u]) Q NE s):Sf X id (fun x xs H Q=>∃a b,x= .str a/\xs=[.str b]/\Q (g a b) H):=by
 intro pz s σ H x xs v i Q I e d h
 obtain⟨a,b,rfl,rfl,h⟩:=h
 obtain⟨t,rfl⟩:=e
 cases d with
 |cons f d=>
  cases d
  obtain⟨u,rfl⟩:=f
  exact c a b t u s _ fun v k r=>⟨g a b,H,I.tok k,r,h⟩
theorem oY:Sf X "str.startswith" (fun x xs H Q=>∃a b,x= .str a/\xs=[.str b]/\Q (.bl (Txt.startswith a b)) H):=
 mt1 fun _ _ _ _ s _ h=>PySem.SC.startswith (h _ s.toks Z)
theorem vy:pG X (.type "int") (fun xs H Q=>∃a n,xs=[.str a]/\PySem.intText? a=aa n/\a.length<=640/\Q (.int n) H):=by
 intro pz s σ H xs d Q I b h;obtain⟨a,n,rfl,hn,hl,h⟩:=h
 cases b with
 |cons c b=>
  cases b
  obtain⟨t,rfl⟩:=c;exact PySem.W.KIN.call_text hn hl ⟨.int n,H,I.tok _,⟨_,Z⟩,h⟩
end
section
variable {X:Cx} {o e:Expr} {to te:TE}
def tM0(r:V->List V->Hp->VK->Prop)(to:TE):TE:=fun σ H Q=>to σ H fun x H1=>(∃a,x= .str a)/\r x [] H1 Q
def tM1(r:V->List V->Hp->VK->Prop)(to te:TE):TE:=fun σ H Q=>to σ H fun x H1=>(∃a,x= .str a)/\te σ H1 fun y H2=>r x [y] H2 Q
theorem jd{id:String}(slot:Slot "str" name id)(ty:typeOf (.builtin id)=pure (.type "method_descriptor"))(b:Sf X id r)(ho:PE X o to)
  (f:attributeBase o name X.env (eval o X.env)=eval o X.env:=by rfl) (g:(apos.endLine==pos.line)=true:=by rfl):PE X (.Call (.Attribute o name apos) [] [] pos) (tM0 r to):=by
 intro pz s σ H Q I h
 refine PySem.Call_method0 f g (fX (ho pz s σ H _ I h) ?_)
 rintro v i ⟨x,H1,j,d,c⟩
 obtain⟨⟨a,rfl⟩,c⟩:=c
 obtain⟨t,rfl⟩:=_root_.id d
 exact⟨"str",_,YQ,slot,ty,qJ _ _ _,(fun _ e=>nomatch e),h_ Z (LY (b pz i σ H1 _ [] _ [] Q j d .nil c))⟩
theorem Gw{id:String}(slot:Slot "str" name id)(ty:typeOf (.builtin id)=pure (.type "method_descriptor"))(b:Sf X id r)(ho:PE X o to)(f:PE X e te)
  (hs:bV [e] X.env=[(ag,eval e X.env)]:=by rfl) (g:attributeBase o name X.env (eval o X.env)=eval o X.env:=by rfl) (i:(apos.endLine==pos.line)=true:=by rfl):
  PE X (.Call (.Attribute o name apos) [e] [] pos) (tM1 r to te):=by
 intro pz s σ H Q I h
 refine PySem.Call_method1 g hs i (fX (ho pz s σ H _ I h) ?_)
 rintro v j ⟨x,H1,k,d,c⟩
 obtain⟨⟨a,rfl⟩,c⟩:=c
 obtain⟨t,rfl⟩:=_root_.id d
 exact⟨"str",_,YQ,slot,ty,qJ _ _ _,(fun _ e=>nomatch e),h_ Z (mP (fP (fX (f pz j σ H1 _ k c) (by rintro u l ⟨y,H2,m,n,p⟩;exact g_ (b pz l σ H2 _ [y] _ [u] Q m d (.cons n .nil) p)))))⟩
theorem Gx(ho:PE X o to)(c:PE X e te)(hs:bV [e] X.env=[(ag,eval e X.env)]:=by rfl)(d:attributeBase o "split" X.env (eval o X.env)=eval o X.env:=by rfl)(f:(apos.endLine==pos.line)=true:=by rfl):
  PE X (.Call (.Attribute o "split" apos) [e] [] pos) (tM1 (fun x xs H Q=>∃a b,x= .str a/\xs=[.str b]/\(b.length==0)=ag/\a.length+2<=br/\Ab (Txt.split a b) H Q) to te):=
 Gw sJ F.type_str_split O7 ho c hs d f
theorem Tr(ho:PE X o to)(b:PE X e te)(hs:bV [e] X.env=[(ag,eval e X.env)]:=by rfl)(c:attributeBase o "join" X.env (eval o X.env)=eval o X.env:=by rfl)(d:(apos.endLine==pos.line)=true:=by rfl):
  PE X (.Call (.Attribute o "join" apos) [e] [] pos) (tM1 (fun x xs H Q=>∃a p,∃ys:List Str,x= .str a/\xs=[.ref p]/\(jD X.K H p (ys.map V.str)\/oW X.K H p (ys.map V.str))/\
   (ys.map (·.length)).sum+ys.length*a.length<=16777216/\Q (.str (Txt.join a ys)) H) to te):=
 Gw F.slot_str_join F.type_str_join Tq ho b hs c d
end
end L2
namespace L2
open PySem PySem.Spec PyProof.Rows
section
variable {X:Cx}
theorem I_:wM X (compareOp .In) (fun x y H Q=>∃(c:Nat) (z:Str),x= .str ⟨#[c]⟩/\y= .str z/\Q (.bl (ah (c∈z.cps.toList))) H):=by intro pz s σ H x y v u Q I a ry h;obtain⟨c,z,rfl,rfl,q⟩:=h;obtain⟨t,rfl⟩:=a;obtain⟨t',rfl⟩:=ry;exact PyProof.Rows.in_str (zH I q (PySem.StrLaws.found_one z c).symm)
end
theorem IsPart.raw(p:IsPart v o):∃l:Option (Int×Tok),v=partValue l/\l.map (·.1)=o:=by cases p with|none=>exact⟨ae,Z,Z⟩|int i t=>exact⟨aa (i,t),Z,Z⟩
def O8(n d:Nat):Option Int->Int|none=>d|some i=>max 0 (min (if i<0 then i+n else i) n)
theorem Gy(n d:Nat)(o:Option Int):O8 n d o=((HT.nu n d o:Nat):Int):=by
 cases o with
 |none=>rfl
 |some v=>
  show max 0 (min (if v<0 then v+n else v) n)=(((if v<0 then(v+(n:Int)).toNat else min v.toNat n):Nat));by_cases hv:v<0
  .simp only[ai hv];lia
  .simp only[ak hv];lia
theorem Mw(a b:Option Int)(n:Nat):eO a b 1 n=sliceRange (O8 n 0 a) (O8 n n b) 1:=by rfl
theorem acz(a b:Option Int)(n:Nat):eO a b 1 n=(List.range (HT.nu n n b-HT.nu n 0 a)).map (fun k=>HT.nu n 0 a+k):=by
 rw[Mw,Gy,Gy];generalize HT.nu n 0 a=p;generalize HT.nu n n b=q;simp only[sliceRange,show((1:Int)>0)=True from by simp,if_true];by_cases c:(p:Int)<q
 .have d:(((q:Int)-p+1-1)/1).toNat=q-p:=by simp
  simp only[c,if_true,d];refine fD fun k _=> ?_;lia
 .have:q-p=0:=by lia
  simp[c,this]
def O9(z:Str)(lo hi:Option Int):Str:=
 ⟨((z.cps.toList.drop (HT.nu z.length 0 lo)).take (HT.nu z.length z.length hi-HT.nu z.length 0 lo)).toArray⟩
theorem t7(z:Str)(lo hi:Option Int):gB z lo hi=O9 z lo hi:=by
 have a:HT.nu z.length 0 lo<=max (HT.nu z.length 0 lo) (HT.nu z.length z.length hi):=Nat.le_max_left _ _;have b:=Nat.max_le.mpr ⟨(HT.OI _ _ (cg _) _:HT.nu z.length 0 lo<=z.length),(HT.OI _ _ (aQ _) _:HT.nu z.length z.length hi<=z.length)⟩;have hd:max (HT.nu z.length 0 lo) (HT.nu z.length z.length hi)-HT.nu z.length 0 lo=HT.nu z.length z.length hi-HT.nu z.length 0 lo:=by lia
 have e:eO lo hi 1 z.length=
   eO (aa ((HT.nu z.length 0 lo:Nat))) (aa ((max (HT.nu z.length 0 lo) (HT.nu z.length z.length hi):Nat))) 1 z.length:=by
  rw[PySem.StrLaws.strSliceIndices_plain a b,hd,acz]
 have c:gB z lo hi=
   gB z (aa ((HT.nu z.length 0 lo:Nat))) (aa ((max (HT.nu z.length 0 lo) (HT.nu z.length z.length hi):Nat))):=by
  unfold gB
  rw[e]
 rw[c,PySem.StrLaws.sliceText_nat z a b,hd];rfl
theorem Gz(z:Str)(lo hi:Option Int):(O9 z lo hi).length<=z.length:=by show(((z.cps.toList.drop (HT.nu z.length 0 lo)).take (HT.nu z.length z.length hi-HT.nu z.length 0 lo)).toArray).size<=z.cps.size;rw[bz,bA,cz,bO];lia
inductive aat(x:V) lo hi H(Q:VK):Prop|mk:∀z,(x= .str z)->(z.length<=br)->(Q (.str (O9 z lo hi)) H)->aat x lo hi H Q
theorem Xw:SlR X aat:=by
 intro pz s σ H x v j k lo hi m Q I d hs e f h;obtain⟨z,rfl,g,q⟩:=h;obtain⟨t,rfl⟩:=d;obtain⟨os,a,i,b⟩:=hs;obtain⟨l,rfl,rfl⟩:=IsPart.raw e;obtain⟨u,rfl,rfl⟩:=IsPart.raw f;refine⟨"str",_,F.slot_str_getitem.lookup,qJ _ _ _,wpAny_getItem_str_slice (st:=ae) ⟨os,a,i,b⟩ Z ?_⟩;have hl:(gB z (l.map (·.1)) (u.map (·.1))).length<=br:=by rw[t7];exact bY (Gz z _ _) g
 rw[<-t7] at q;unfold gB at q hl;show Made.post (if((1:Int)==1&&(eO (l.map (·.1)) (u.map (·.1)) 1 z.length).length==z.length)=af then Made.val (.str z t) else Made.str ⟨((eO (l.map (·.1)) (u.map (·.1)) 1 z.length).filterMap (z.cps[·]?)).toArray⟩) (EP X pz σ Q) s;by_cases c:((1:Int)==1&&(eO (l.map (·.1)) (u.map (·.1)) 1 z.length).length==z.length)=af
 .rw[ai c] at q⊢;exact⟨.str z,H,I,⟨t,Z⟩,q⟩
 .rw[ak c] at q hl⊢;exact⟨hl, .str _,H,I.tok _,⟨_,Z⟩,q⟩
end L2
namespace Att
open PySem PySem.W PySem.Calls PyProof.Rows
end Att
namespace L2
open PySem PySem.Spec PyProof.Rows
end L2
namespace L2
open PySem PySem.Spec PyProof.Rows
end L2
namespace L2
open PySem PySem.Spec PyProof.Rows
def inClass(s:Stmt)(j:Nat):Stmt:=match s with| .ClassDef _ _ _ a _ _ _ _ _ _ _=>a.getD j (.Pass ⟨0,0,0,0⟩)|_=> .Pass ⟨0,0,0,0⟩
section
variable {X:Cx}
theorem pv(i:Nat)(hN:X.N[i]? =aa x:=by rfl)(hv:Vis X.env.scope x:=by first|exact Or.inl Z|exact SE (Or.inl Z)|exact SE (SE Z))(hd:(x==("__debug__":Str))=false:=by decide)
  (a:(x==("__classdict__":Str))=false:=by decide):PE X (.Name x pos) (oV i):=WQ hN hv hd a
end
theorem kN{A B:Prop}(h:B):if ag=af then A else B:=by rwa [ak fQ]
theorem lI{A B:Prop}(h:A):if af=af then A else B:=by rwa [ai Z]
theorem e_{c A B:Prop}[Decidable c](h1:c->A)(h2:¬c->B):if c then A else B:=by
 by_cases h:c
 .exact(ai h)▸(h1 h)
 .exact(ak h)▸(h2 h)
def cI(H H':Hp):Prop:=∀b o,H b=aa o->H' b=aa o
theorem cI.refl(H:Hp):cI H H:=fun _ _ h=>h
theorem cI.trans(a:cI H H1)(b:cI H1 H2):cI H H2:=fun c o h=>b c o (a c o h)
theorem cI.free(e:cI H H')(h:H' l=Option.none):H l=Option.none:=by cases q:H l with|none=>rfl|some o=>rw[e l o q] at h;cases h
theorem cI.seq{K:aM}(e:cI H H')(h:jD K H a xs):jD K H' a xs:=by
 rcases h with(h|⟨o,h⟩)|h
 .exact .inl (.inl (e _ _ h))
 .exact .inl (.inr ⟨o,e _ _ h⟩)
 .exact .inr h
section
variable {κ:Type} [DecidableEq κ]
theorem O_{k:κ}(h:jc cw k=ae):¬k∈cw.map (·.1):=by intro m;obtain⟨p,a,e⟩:=bK.mp m;have q:(cw.any fun kv=>ah (kv.1=k))=true:=zq.mpr ⟨p,a,au e⟩;rw[mC,h] at q;exact az q (by simp)
theorem Ts{k:κ}(h:jc cw k=aa v):k∈cw.map (·.1):=by
 have q:(cw.any fun kv=>ah (kv.1=k))=true:=by rw[mC,h];all_goals rfl
 obtain⟨p,a,e⟩:=zq.mp q;exact bK.mpr ⟨p,a,aq e⟩
theorem y_:∀{l:List κ} {k:κ},l.Nodup->¬k∈l->(l++[k]).Nodup
 |[],k,_,_=>by simp
 |a::r,k,h,hk=>by
  obtain⟨h1,h2⟩:=c8.mp h;refine c8.mpr ⟨fun m=> ?_,y_ h2 fun m=>hk (aZ.mpr (SE m))⟩;rcases cN.mp m with q|q
  .exact h1 q
  .exact hk (aZ.mpr (Or.inl (a0.mp q).symm))
end
theorem at_of{j:Nat}{v:V}(e:z=(j:Int))(h:xs[j]? =aa v):Ga xs z=aa v:=by exact e▸(cB h)
end L2
namespace L2
open PySem PySem.Spec PyProof.Rows
section
theorem GA(S:Addr->Prop)(b:Addr->Sp)(hv:PE X (.Name x p) tf)
  (j:∀f,S f->∃ps,Ky X.prog X.w X.K X.mg X.base k f ps (b f)) (l:jI k X.A) (m:PA X (e::es) t)
  (n:bV (e::es) X.env=(ag,eval e X.env)::bV es X.env:=by rfl) (o:(gA pos (bV es X.env)).any (·.1)=false:=by rfl):
  PE X (.Call (.Name x p) (e::es) [] pos) (fun a H Q=>tf a H fun v c=>∃f,v= .ref f/\S f/\t a c fun vs w=>b f w Q vs):=by
 intro d s a H Q I h
 refine dM (fX (hv d s a H _ I h) ?_)
 rintro u y ⟨v,H0,g,z,f,A,hs,B⟩
 subst A
 subst z
 obtain⟨ps,F,C,D,E⟩:=j f hs
 exact nW g.ok.mod.Y4 C (fX (m pos d y a H0 _ g B) (by rintro G J ⟨vs,c,i,r,q⟩;exact⟨i.BI,zR E l D i r q⟩)) n o
inductive GB K(x:V)(vs:List V) H(Q:VK):Prop|mk:∀l b xs zs,(x= .ref l)->(vs=[.ref b])->(H l=aa (.lst xs))->(oW K H b zs)->(xs.length+zs.length<=br)->(Q .rH (upd H l (.lst (xs++zs))))->GB K x vs H Q
inductive KS(x:V)(vs:List V) H(Q:VK):Prop|mk:∀l (ns:List Int) k,(x= .ref l)->(vs=[.int k])->(H l=aa (.lst (ns.map V.int)))->(k∈ns)->(Q .rH (upd H l (.lst ((ns.erase k).map V.int))))->KS x vs H Q
theorem GC:∀(ns:List Int) (k:Int),k∈ns->∃j,∃h:j<ns.length,ns[j]=k/\(∀m (b:m<ns.length),m<j->ns[m]≠k)/\ns.erase k=ns.eraseIdx j
 |[],k,h=>by simp at h
 |a::r,k,h=>by
  by_cases e:a=k
  .exact⟨0,by simp,by exact e,fun m b h=>az h (nZ _),by simp[e]⟩
  .obtain⟨j,f,h1,c,d⟩:=GC r k (by simpa [bF e] using h);refine⟨j+1,by simp_all,by exact h1,fun m b g=> ?_,?_⟩
   .cases m with|zero=>simp_all|succ m=>exact c m (by simp_all) (by lia)
   .rw[iW (by simpa using e),Ik,d]
def aau(k:Int):bj->Bool| .int a _=>a==k|_=>ag
theorem qo{b c:Type}(f:b->c):∀(l:List b) (j:Nat),(l.eraseIdx j).map f=(l.map f).eraseIdx j|[],_=>rfl|_::_,0=>rfl|a::r,j+1=>by show f a::(r.eraseIdx j).map f=f a::(r.map f).eraseIdx j;rw[qo f r j]
theorem C3:Za X "list.remove" KS:=by
 intro t s A H x vs v B Q I g i h;obtain⟨l,ns,k,rfl,rfl,c,hk,q⟩:=h;subst g;obtain⟨u,rfl,o⟩:=i.one;obtain⟨tk,rfl⟩:=o;obtain⟨z,its,n,r,hl,e⟩:=I.zW c;obtain⟨j,C,h1,D,d⟩:=GC ns k hk;have f:its.length=ns.length:=by rw[<-hl,aE]
 have at_:∀m (a:m<its.toArray.size),∃t',its.toArray[m]= .int (ns[m]'(by grind)) t':=by
  intro m a;have E:m<ns.length:=by grind
  have hv:(ns.map V.int)[m]? =aa (V.int ns[m]):=by simp_all
  obtain⟨w,hw,t',G⟩:=r.get hv;simp_all
 refine nX F.slot_list_remove ⟨_,e,Z⟩ F.entry_list_remove (F.args_list_remove_2 _ _) (MeetsSeq.list_remove l its.toArray n (.int k tk) (aau k) ?_ j (by simp_all) ?_ ?_ (by rw[bz];lia)) ⟨e,?_⟩
 .intro y p;obtain⟨m,a,rfl⟩:=Array.mem_iff_getElem.mp p;obtain⟨t',b⟩:=at_ m a;exact b▸(MeetsSeq.EqGives.int _ _ _ _)
 .obtain⟨t',b⟩:=at_ j (by simp_all);rw[b];show(ns[j]==k)=af;simp_all
 .intro m a J;obtain⟨t',b⟩:=at_ m a;rw[b];show(ns[m]'(by lia)==k)=ag;simp_all
 .refine⟨.rH,_,I.Mp (its':=its.eraseIdx j) c e ?_ ?_ ?_,Z,q⟩
  .simp_all
  .rw[d,qo];exact r.eraseIdx j
  .rw[aE,d];have:=wR ns j;rw[aE] at z;lia
theorem Ja:Za X "list.extend" (GB X.K):=by
 intro t s w H x vs v y Q I g i h;obtain⟨l,b,xs,A,rfl,rfl,a,j,B,q⟩:=h;subst g;obtain⟨u,rfl,k⟩:=i.one;subst k;obtain⟨z,its,n,r,hl,e⟩:=I.zW a;obtain⟨c,d,⟨C,f,m,D,o⟩,E⟩:=I.tuple j;have F:=d.length;have p:¬(!its.toArray.isEmpty&&nA (its.toArray.size+c.toArray.size))=true:=by rw[Gb (by rw[bz,bz];lia),eS];exact fQ
 refine eE UW ⟨_,e,Z⟩ SD ?_ (RW _ _);show bL _ _ (jA (.ref l) (.ref b) .none) _ _ _;refine aF (u5 ⟨_,f,m⟩ ?_);rw[ai (by simp)];refine aF (wpAny_listItems f o (aF (wpAny_listItems e Z ?_)));rw[ak p];refine aF (kr e Z ?_ (by rw[bz];lia) (by simp only[bz,Array.size_append] at*;lia));refine aU ⟨_,Z, .rH,_,I.Mp (t':=s.toks) (its':=its++c) a e (by simp) (r.append d) ?_,Z,q⟩;rw[aG];assumption
theorem Mx(h:ZC P acc n)(c:∀i v,P i v->RelV (f i) v):Vals ((List.range n).map f) acc.toList:=by
 obtain⟨hsz,d⟩:=h;subst hsz;have key:∀l k,(∀j v,l[j]? =aa v->P (k+j) v)->Vals ((List.range' k l.length).map f) l:=by intro l;induction l with|nil=>intro k _;exact .nil|cons a r e=>intro k hk;dsimp only[aK,List.range'_succ,b5];refine .cons (c _ _ (hk 0 a Z)) (e (k+1) fun j v b=> ?_);have:=hk (j+1) v b;rwa [show k+(j+1)=k+1+j by lia] at this
 have:=key acc.toList 0 fun j v b=>by simp_all
 rwa [bO,<-List.range_eq_range'] at this
theorem GD(n:Nat):nV 0 (n:Int) 1=(n:Int):=by unfold nV;simp;lia
theorem Pa{n:Nat}(h:n<=2^24):By 0 (n:Int) 1=true:=by
 unfold By;have q:∀z:Int,0<=z->z<=2^24->vh z=true:=fun z h1 a=>by unfold vh;simp;lia
 simp[GD];exact⟨⟨⟨⟨q _ (by decide) (by decide),q _ (by lia) (by lia)⟩,q _ (by decide) (by decide)⟩,q _ (by lia) (by lia)⟩,SE (q _ (by lia) (by lia))⟩
theorem qp(o:X.calm=af)(hg:Gl X "list")(p:X.mg "list"=ae)(w:Gl X "range")(x:X.mg "range"=ae)(y:PA X [e] ta)
  (hs:bV [e] X.env=[(ag,eval e X.env)]:=by rfl) (z:bV [.Call (.Name "range" c) [e] [] q2] X.env=[(ag,eval (.Call (.Name "range" c) [e] [] q2) X.env)]:=by rfl):
  PE X (.Call (.Name "list" p1) [.Call (.Name "range" c) [e] [] q2] [] p2) (fun g H Q=>ta g H fun vs j=>∃n:Nat,vs=[.int n]/\n<=2^24/\∀l,j l=ae->Q (.ref l) (upd j l (.lst ((List.range n).map fun(i:Nat)=>V.int (i:Int))))):=by
 intro A s g H Q I h
 refine dM (kE I hg p boot_list (cU (fP (NZ (kE I w x YN (cU (fX (y q2 A s g H _ I h) fun E d ⟨vs,j,k,B,c⟩=> ?_) hs Z)))) z Z) (by decide) Z)
 obtain⟨n,e,hn,q⟩:=c
 subst e
 cases B with
 |cons r rr=>
  cases rr
  obtain⟨t,rfl⟩:=r
  refine call_range_1 (g_ ?_)
  refine call_list_range (k.ok.hd o) (bc _ Z) ?_ ?_ hn fun h' tk m C hk F D=> ?_
  .exact Pa (by assumption)
  .exact GD n
  .have a:d.heap.objs.size<=(d.heap.push {cls:= .type "range",data:= .fields #[.int 0 d.toks, .int n t, .int 1 (d.toks+1)]}).objs.size:=by
    simp_all
   refine⟨.ref _,_,k.laid (fun b u e=>hk b u (aJ _ e)) a (show ie X.prog X.w _ h' _ (.lst _) from⟨?_,m.toList,C,Mx (f:=fun i=>V.int (i:Int)) D (by rintro i v ⟨t,e⟩;exact⟨t,by subst e;congr 1;simp⟩),?_⟩),Z,q _ (k.gT.fresh a)⟩
   .rwa [aE,bG]
   simp_all
end
theorem My:Br (.type "list_reverseiterator") "__len__"=pure none:=by rw[vi,nB];kernel_rfl
theorem Pb:Br (.type "list_reverseiterator") "__length_hint__"=pure (aa (.builtin "list_reverseiterator.__length_hint__")):=by rw[vi,nB];kernel_rfl
section
variable {St:Nat->bH->Prop}
theorem Jb(W:YR prog w A.in1 I fp wr G n P St)(k:∀i s,St i s->s.TypeIs (.ref I) "list_reverseiterator")(S:Addr)(g:bj)(h:Nat)(c:St 0 s)(p:S∉fp)(q:I∈fp)
  (r:s.heap.get? S=aa {cls:= .type "list",data:= .seq #[] h})
  (hR:∀a l d,UY (S::wr) G s a->a.heap.get? S=aa {cls:= .type "list",dict:=ae,data:= .seq l d,slots:= #[]}->ZC P l n->R (.ok (.ret g)) a) (hn:n<=br):
  bL (model prog w) A.in1 (jA (.ref S) (.ref I) g)
   (fun fin a=>match fin with| .done f=>R (.ok f) a| .again d=>d.quiet=af/\mM (model prog w) A d R a) (fun e a=>R (.error e) a) s:=by
 have m:S≠I:=fun e=>p (e▸q)
 have h1:ka (.ref S) (.ref I)=false:=by simp[ka,m]
 refine aF (u5 (k 0 _ c) ?_)
 rw[ak (by rw[h1];decide)]
 refine aF (W.self 0 _ _ _ c (aF (d4 (aF (pb (k 0 _ c) My (aF (pb (k 0 _ c) Pb ?_)))))))
 (generalize o:("list_reverseiterator.__length_hint__":String)=j;(fail_if_success (clear o j));wp_delta;rw[show splitId j=aa ("list_reverseiterator","__length_hint__") from by subst o;decide+kernel];subst o)
 refine aF (lq (b:=af) (k 0 _ c) (by rw[xH];kernel_rfl) ?_)
 refine aU ?_
 rw[ak (by decide)]
 exact aU ⟨iH SF _,UZ W hn _ p _ n 0 _ _ _ Z (cg _) c r (ZC.nil P) fun a l d t u v=>hR a l d t u v⟩
theorem BP(W:YR prog w A.in1 I fp wr G n P St)(m:∀i s,St i s->s.TypeIs (.ref I) "list_reverseiterator")(S:Addr)(p:St 0 s)(l:S∉fp)(q:I∈fp)
  (k:s.heap.get? S=aa {cls:= .type "list",data:= .seq #[]})
  (hR:∀a j c,UY (S::wr) G s a->a.heap.get? S=aa {cls:= .type "list",dict:=ae,data:= .seq j c,slots:= #[]}->ZC P j n->R (.ok (.ret .none)) a) (hn:n<=br):
  bL (model prog w) A.in1 (Builtin.«list.__init__» ⟨[.ref S, .ref I],[]⟩)
   (fun fin a=>match fin with| .done f=>R (.ok f) a| .again c=>c.quiet=af/\mM (model prog w) A c R a) (fun e a=>R (.error e) a) s:=by
 refine aF (aF (eY k Z (aU (aF (kr k Z ?_)))))
 have d:∀b o,b≠S->s.heap.get? b=aa o->(s.heap.update S (jJ (fun _=>(#[]:Array bj)))).get? b=aa o:=
  fun b o g e=>(dU _ _ (bF g)).trans e
 exact aF (my (Jb (hn:=hn) W m S .none _ (W.frame 0 s _ s.toks p (aQ _) fun b g o e=>d b o (fun h=>l (h▸g)) e) l q (dc (jJ (fun _=>(#[]))) k Z) fun a j c r t u=>hR a j c (Ki W.gtrans ((UY.refl W.grefl).then_heap (aQ _) fun b o g e=>d b o (fun h=>g (h▸aT)) e) r) t u))
end
section
variable {St:Nat->bH->Prop}
theorem BQ(W:YR prog w A.in1.in1 I fp wr G n P St)(k:∀i s,St i s->s.TypeIs (.ref I) "list_reverseiterator")(l:St 0 s)(m:∀b∈fp,b<s.heap.objs.size)(p:I∈fp)
  (q:∀a d f,UY (s.heap.objs.size::wr) G {s with heap:=s.heap.push {cls:= .type "list",data:= .seq #[]}} a->
   a.heap.get? s.heap.objs.size=aa {cls:= .type "list",dict:=ae,data:= .seq d f,slots:= #[]}->ZC P d n->Q (.ref s.heap.objs.size) a) (hn:n<=br):
  bL (model prog w) A (call (.type "list") [.ref I]) Q E s:=by
 refine callType_codes (Q₁:=fun obj h=>obj= .ref s.heap.objs.size/\h={s with heap:=s.heap.push {cls:= .type "list",data:= .seq #[]}}) F.called_list (F.typeCall_list_1 _) F.entry_list_init
  (code_list_new _ ⟨Z,Z⟩) fun obj h r=> ?_
 obtain⟨rfl,rfl⟩:=r
 have j:(s.heap.push {cls:= .type "list",data:= .seq #[]}).get? s.heap.objs.size=aa {cls:= .type "list",data:= .seq #[]}:=bc _ Z
 refine⟨⟨_,j,Z⟩,F.args_list_init_2 _ _,BP (hn:=hn) W k _ (W.frame 0 s _ s.toks l (aQ _) fun b _ o e=>aJ _ e) (fun g=>c9 _ (m _ g)) p j fun a d f g t u=> ?_⟩
 exact⟨Z,q a d f g t u⟩
end
section
theorem ux{F G j m:Pos}(J:X.calm=af)(hg:Gl X "list")(n:X.mg "list"=ae)(K:Gl X "reversed")(L:X.mg "reversed"=ae)(M:PA X [e] ta)
  (hs:bV [e] X.env=[(ag,eval e X.env)]:=by rfl) (N:bV [.Call (.Name "reversed" j) [e] [] m] X.env=[(ag,eval (.Call (.Name "reversed" j) [e] [] m) X.env)]:=by rfl):
  PE X (.Call (.Name "list" F) [.Call (.Name "reversed" j) [e] [] m] [] G) (fun v H Q=>ta v H fun vs p=>∃(a:Addr) (xs:List V),vs=[.ref a]/\jD X.K p a xs/\∀l,p l=ae->Q (.ref l) (upd p l (.lst xs.reverse))):=by
 intro O s v H Q I h
 refine dM (kE I hg n boot_list (cU (fP (NZ (kE I K L boot_reversed (cU (fX (M m O s v H _ I h) fun us d ⟨vs,p,t,P,j⟩=> ?_) hs Z)))) N Z) (by decide) Z)
 obtain⟨a,xs,e,R,q⟩:=j
 subst e
 cases P with
 |cons r rr=>
  cases rr
  subst r
  obtain⟨its,z,S,B⟩:=t.list R
  have hl:=S.isList
  have T:=z.length
  refine call_reversed_list hl (g_ ?_)
  have U:a≠d.heap.objs.size:=fun e=>by
   obtain⟨o,ho,_⟩:=id hl
   exact c9 _ (e▸bD ho)
  have W:a<d.heap.objs.size:=by
   obtain⟨o,ho,_⟩:=id hl
   exact bD ho
  have C:∀o,(d.heap.push o).objs.size=d.heap.objs.size+1:=fun o=>by simp_all
  refine BQ ((Walks.listRev (prog:=X.prog) (w:=X.w) (A:=X.A.in1.in1) (t.ok.hd J) d.heap.objs.size a U its.toArray).toS) (fun i s x=>x.2.1.typeIs) ⟨cg _,⟨_,bc _ Z,Z,by simp[revObj]⟩,hl.at fun o e=>aJ _ e⟩ ?_ (by simp) ?_ (by simp_all)
  .intro b f
   rw[C]
   rcases aZ.mp f with rfl|f
   .exact fY _
   .rcases aZ.mp f with rfl|f
    .exact et W
    .simp at f
  .intro Y c c' n hS D
   rw[UY.eq_with n]
   have g:d.heap.objs.size<=(d.heap.push (revObj a (its.toArray.size-1))).objs.size:=by
    rw[C]
    exact pZ _
   have y:=fun b u e=>n.heap b u (fun E=>by
    have f:=bD e
    rcases aZ.mp E with rfl|E
    .exact c9 _ (bN f g)
    simp_all) (aJ _ (aJ _ e))
   have hv:Vals xs.reverse c.toList:=by
    have:c.toList=its.reverse:=by
     apply fF
     intro i
     have h1:c.size=its.length:=D.1.trans Z
     by_cases gm:i<its.length
     .have k:i<c.size:=by omega
      rw[eV,bT k,<-(D.2 i c[i] (bT k)),List.getElem?_reverse gm,bz]
      simp
     .rw[eV,lV (by omega),dH (by rw[dN];omega)]
    exact this▸z.reverse
   refine⟨.ref _,_,t.laid y g (show ie X.prog X.w _ Y.heap _ (.lst _) from⟨?_,c.toList,c',hv,?_⟩),Z,q _ (t.gT.fresh g)⟩
   .rwa [dN]
   simp_all
end
end L2
namespace iC
open PySem
def yy(l:List Nat):Prop:=l.Pairwise (· <·)
structure Good(t:U0):Prop where
 rise:yy t.place.toList
 Vu:t.dummies= #[]
theorem vA(h:yy l)(b:i<l.length)(c:j<l.length)(a:i<j):l[i]<l[j]:=List.pairwise_iff_getElem.mp h i j b c a
theorem Ei(xs:Array Nat)(j:Nat)(h:yy xs.toList):∀(c lo d:Nat),lo<=d->d<=xs.size->d-lo<=c->(∀i (f:i<xs.size),i<lo->xs[i]<j)->(∀i (f:i<xs.size),d<=i->j<=xs[i])->
  mR xs j c lo d<=xs.size/\(∀i (f:i<xs.size),i<mR xs j c lo d->xs[i]<j)/\(∀i (f:i<xs.size),mR xs j c lo d<=i->j<=xs[i])
 |0,lo,d,h1,g,p,k,l=>by
  have e:lo=d:=by lia
  subst e
  exact⟨g,k,l⟩
 |c+1,lo,d,h1,g,p,k,l=>by
  unfold mR
  by_cases o:lo<d
  .rw[ai o]
   dsimp only
   have m:(lo+d)/2<xs.size:=by lia
   rw[fW,bT m,jk]
   have mono:∀a b (q:a<xs.size) (r:b<xs.size),a<b->xs[a]<xs[b]:=fun a b q r s=>by
    have:=vA h (by simp_all) (by simp_all) s
    simp_all
   by_cases n:xs[(lo+d)/2]<j
   .rw[ai n]
    refine Ei xs j h c _ d (by lia) g (by lia) (fun i f t=> ?_) l
    by_cases e:i=(lo+d)/2
    .simp_all
    .exact sI (mono i _ f m (by lia)) n
   .rw[ak n]
    refine Ei xs j h c lo _ (by lia) (by lia) (by lia) k (fun i f u=> ?_)
    by_cases e:i=(lo+d)/2
    .simp_all
    .have:=mono _ i m f (by lia)
     lia
  .rw[ak o]
   have e:lo=d:=by lia
   subst e
   exact⟨g,k,l⟩
theorem nI(xs:Array Nat)(j:Nat)(h:yy xs.toList):
  dA xs j<=xs.size/\(∀i (a:i<xs.size),i<dA xs j->xs[i]<j)/\(∀i (a:i<xs.size),dA xs j<=i->j<=xs[i]):=by
 exact Ei xs j h xs.size 0 xs.size (cg _) (aQ _) (by simp) (fun i _ h=>az h (nZ _)) (fun i a b=>az a (by lia))
theorem Ac(h:yy xs.toList)(d:i<xs.size):dA xs (xs[i]+1)=i+1:=by
 obtain⟨h1,e,f⟩:=nI xs (xs[i]+1) h;have mono:∀a b (g:a<xs.size) (j:b<xs.size),a<b->xs[a]<xs[b]:=fun a b g j k=>by have:=vA h (by simp_all) (by simp_all) k;simp_all
 by_cases l:dA xs (xs[i]+1)<=i
 .have:=f i d l;lia
 .by_cases c:i+1<dA xs (xs[i]+1)
  .have hs:i+1<xs.size:=by lia
   have:=e (i+1) hs c;have:=mono i (i+1) d hs (by simp);lia
  .lia
theorem Ad(h:yy xs.toList):dA xs 0=0:=by
 obtain⟨h1,a,b⟩:=nI xs 0 h;by_cases e:dA xs 0=0
 .exact e
 .have:=a 0 (by lia) (by lia);lia
theorem uy(n:Nat):yy (List.range n):=IA
theorem xW(h:yy xs.toList)(k:xs[dA xs j]? ≠aa j):yy (fy xs (dA xs j) j).toList:=by
 obtain⟨h1,l,c⟩:=nI xs j h;rw[iL];generalize s:dA xs j=p at*;refine List.pairwise_append.mpr ⟨h.sublist (ym _ _),fR.mpr ⟨fun a d=> ?_,h.sublist (List.drop_sublist _ _)⟩,fun a d b f=> ?_⟩
 .obtain⟨i,g,rfl⟩:=eG.mp d;rw[R0];have hs:p+i<xs.size:=by rw[cz,bO] at g;lia
  rw[ku];have n:=c (p+i) hs (by lia);by_cases e:i=0
  .subst e;have:xs[p]? ≠aa j:=k;rw[bT (by assumption)] at this;have:xs[p]≠j:=fun q=>this (by rw[q]);dsimp only[sL] at*;lia
  .have t:=c p (by lia) (aQ _);have:=vA h (i:=p) (j:=p+i) (by dsimp only[bO];lia) (by dsimp only[bO];assumption) (by lia);dsimp only[ku] at this;lia
 .obtain⟨i,g,rfl⟩:=eG.mp d;rw[bA,bO] at g;rw[List.getElem_take,ku];have o:=l i (by lia) (by lia);rcases aZ.mp f with rfl|f
  .exact o
  .obtain⟨m,r,rfl⟩:=eG.mp f;rw[R0,ku];have hs:p+m<xs.size:=by rw[cz,bO] at r;lia
   have:=c (p+m) hs (by lia);lia
theorem m7(t:U0)(n:Nat):Good (t.standIn n):=⟨by simpa [U0.standIn] using uy n,Z⟩
theorem za(j:Nat):U0.has #[] j=false:=by rfl
theorem GG(t:U0)(hd:t.dummies= #[])(a:Nat->Int)(h:Int):∀(b:Nat) (p:U0.Probe) (j:Nat) (d:Option Nat),p.dummy=ae->rD t a h b p=aa (.empty j d)->d=ae/\t.slot j= .empty
 |0,p,j,d,_,e=>by simp[rD] at e
 |b+1,p,j,d,c,e=>by
  unfold rD at e
  cases hs:t.slot p.j with
  |empty=>simp_all
  |dummy=>exfalso;unfold tU at hs;dsimp only at hs;rw[hd,za] at hs;split at hs<;>simp at hs
  |live i=>
   rw[hs] at e;dsimp only at e;split at e
   .simp at e
   .exact GG t hd a h b _ j d (by unfold U0.advance;split<;>exact c) e
theorem Pc(g:Good t)(a:t.freeSlot h=aa (slot,wd)):Good (t.put slot).1:=by
 unfold U0.freeSlot at a;split at a
 .rename_i e;obtain⟨rfl,hs⟩:=GG t g.Vu _ _ _ _ _ _ Z e;simp only[yn,Option.isSome_none,kY,dC] at a;obtain⟨rfl,rfl⟩:=a;unfold U0.put;refine⟨?_,?_⟩
  .refine xW g.rise fun q=> ?_;simp_all [tU,ai]
  .dsimp only;rw[g.Vu,za];rfl
 .cases a
theorem GH(g:Good t)(a:Array (Int×bj))(h:Int)(x:bj):Good (YS t a h x).2.1/\(YS t a h x).2.1.led=t.led:=by
 unfold YS;split
 .rename_i e;dsimp only;unfold U0.orStandIn;split
  .exact⟨Pc g e,Z⟩
  .exact⟨m7 _ _,Z⟩
 .exact⟨m7 _ _,Z⟩
theorem nJ:∀(l:List Nat) (f:Nat->Option Nat),yy l->yy ((l.filterMap fun j=>(f j).map fun k=>(j,k)).map (·.1))|[],f,_=>List.Pairwise.nil|a::r,f,h=>by obtain⟨h1,c⟩:=fR.mp h;have d:=nJ r f c;cases e:f a with|none=>simp_all|some k=>rw[qb (by rw[e];rfl),b5];refine fR.mpr ⟨fun b g=> ?_,d⟩;simp_all
theorem Jc(b:Array (Int×bj))(a:Nat):Good (xI t b a).2.1/\(xI t b a).2.1.led=t.led:=by
 unfold xI;split
 .rename_i e;dsimp only;split
  .unfold U0.relaid U0.laid at e
   cases hl:U0.layClean (U0.sizeAbove a-1) (b.map (·.1)) with
   |none=>rw[hl] at e;cases e
   |some owner=>rw[hl] at e;simp only[Option.bind_eq_bind,Option.bind_some,Option.pure_def,kY,dC] at e;obtain⟨rfl,rfl⟩:=e;exact⟨⟨nJ _ (fun j=>owner.getD j ae) (uy _),Z⟩,Z⟩
  .exact⟨m7 _ _,Z⟩
 .exact⟨m7 _ _,Z⟩
section
open PySem.Spec PyProof.Rows
def iv:bj->Int| .int i _=>i|_=>0
def keys(a:Array (Int×bj)):List Int:=a.toList.map fun e=>iv e.2
def Pe(a:List (Int×bj)):Prop:=∀e∈a,∃k t,e.2= .int k t/\e.1=Zt k
structure Is(h:Heap) a led ks o es ep t:Prop where
 ho:h.get? a=aa o
 ex:o.ExactSet
 dat:o.data= .set es ep t
 nums:Pe es.toList
 perm:(keys es).Perm ks
 qk:es.size<lr
 fits:t.fits es.size=af
 good:Good t
 led:t.led=led
def BR(h:Heap)(a:Addr)(led:Bool)(ks:List Int):Prop:=∃o b c t,Is h a led ks o b c t
theorem Is.elems{led:Bool}(x:Is h a led ks o es ep t):ElemsOf (jS prog w) es.toList:=fun e b=>by
 obtain⟨k,t,h1,c⟩:=x.nums e b
 refine⟨⟨k,?_,c⟩,?_⟩
 .rw[h1];exact YT prog w k t
 .rw[h1];rfl
theorem Is.size{led:Bool}(x:Is h a led ks o es ep t):es.size=ks.length:=by have:=x.perm.length_eq;unfold keys at this;rw[aE,bO] at this;exact this
theorem BR.at(x:BR h a led ks)(k:∀o,h.get? a=aa o->h'.get? a=aa o):BR h' a led ks:=by obtain⟨o,b,c,t,y⟩:=x;exact⟨o,b,c,t,⟨k o y.ho,y.ex,y.dat,y.nums,y.perm,y.qk,y.fits,y.good,y.led⟩⟩
section
theorem KW{h:Heap}(ho:h.get? a=aa o)(c:o.ExactSet)(hd:o.data= .set es ep t)
  (d:Pe CC.toList) (e:(keys CC).Perm ks) (f:CC.size<lr) (g:t'.fits CC.size=af) (hg:Good t') (hl:t'.led=led):
  Is (h.update a (lQ CC t')) a led ks {o with data:= .set CC (ep+1) t'} CC (ep+1) t':=by
 have i:(h.update a (lQ CC t')).get? a=aa {o with data:= .set CC (ep+1) t'}:=by
  have:=dc (lQ CC t') ho (by rw[N1 CC t' hd];rfl)
  rw[N1 CC t' hd] at this;exact this
 exact⟨i,c,Z,d,e,f,g,hg,hl⟩
theorem C4{g:Bool->Sem Unit}(hg:∀(b:Bool) (n:bH) (p:Unit->bH->Prop),p () n->bL (model prog w) A (g b) p E n)
  (ho:s.heap.get? a=aa o) (j:o.ExactSet) (hd:o.data= .set es ep t)
  (q:Pe pC.toList) (r:(keys pC).Perm ks) (u:pC.size<lr) (k:t2.fits pC.size=af) (l:Good t2) (hl:t2.led=led)
  (h:∀h',d6 a s.heap h'->BR h' a led ks->R (aa af) {s with heap:=h'}):
  bL (model prog w) A (do
    storeSet a pC t2
    if(!Pf&&t2.tooFull)=af then do
      g (xI t2 pC (gE pC.size)).2.2
      storeSet a (xI t2 pC (gE pC.size)).1 (xI t2 pC (gE pC.size)).2.1
      pure (aa af)
     else pure (aa af)) R E s:=by
 refine aF (rE ho hd ?_ (kJ u))
 have f:=KW ho j hd q r u k l hl
 have c:=d6.update s.heap a (lQ pC t2)
 split
 .have i:=relayAll_perm t2 pC (gE pC.size)
  have x:=relayAll_fits t2 pC (gE pC.size)
  have m:=Jc (t:=t2) pC (gE pC.size)
  generalize z:xI t2 pC (gE pC.size)=B at i x m⊢
  obtain⟨d,F,C⟩:=B
  have hsz:d.size=pC.size:=by rw[<-bO,i.length_eq,bO]
  have y:d.size<lr:=by simp_all
  refine aF (hg _ _ _ (aF (rE f.ho Z ?_ (kJ y))))
  exact aU (h _ (c.trans (d6.update _ a _)) ⟨_,_,_,_,KW f.ho f.ex Z (fun e D=>q e (i.mem_iff.mp D)) ((i.map (fun e:Int×bj=>iv e.2)).trans r) y x m.1 (m.2.trans hl)⟩)
 .exact aU (h _ c ⟨_,_,_,_,f⟩)
theorem find_key(b:Pe es)(k:Int):(∃e∈es,zm k e.2=af)↔k∈es.map fun e=>iv e.2:=by
 constructor
 .rintro⟨e,a,h⟩;obtain⟨t,h1⟩:=NY h;exact bK.mpr ⟨e,a,by rw[h1];rfl⟩
 .intro h;obtain⟨e,a,rfl⟩:=bK.mp h;obtain⟨c,t,h1,_⟩:=b e a;exact⟨e,a,by rw[h1];simp[iv,zm]⟩
def put(ks:List Int)(k:Int):List Int:=if k∈ks then ks else ks++[k]
theorem aaw(J:BR s.heap a led ks)(K:ks.length+1<lr)
  (h:∀h' b,d6 a s.heap h'->BR h' a led (put ks k)->Q b {s with heap:=h'}):
  bL (model prog w) A (setAddHashed a (.int k tk) (Zt k)) Q E s:=by
 obtain⟨o,c,M,t,x⟩:=J
 have C:=x.elems (prog:=prog) (w:=w)
 refine d4 (aF (fg x.ho x.dat x.fits ?_))
 dsimp only
 rw[byScan_of Z x.qk C]
 simp only[↓reduceIte]
 refine aF (aF (u6 (aF (wpAny_setScan_of (YT prog w k tk) x.ho x.dat x.fits C ?_))))
 have D:=(find_key x.nums k).trans (x.perm.mem_iff)
 cases F:List.findIdx? (fun e=>(jS prog w).is k e.2) c.toList with
 |some j=>
  obtain⟨N,l,_⟩:=List.findIdx?_eq_some_iff_getElem.mp F
  have hk:=D.mp ⟨c.toList[j],mG N,l⟩
  refine aU (aU ?_)
  have e:s={s with heap:=s.heap}:=rfl
  exact e▸(h s.heap ag (Fy a s.heap) ⟨o,c,M,t,by unfold put;rw[ai hk];exact x⟩)
 |none=>
  have hk:k∉ks:=fun hk=>by
   obtain⟨e,m,R⟩:=D.mpr hk
   have:=List.findIdx?_eq_none_iff.mp F e m
   simp_all [jS,SG]
  have n:∀(b:Bool) {p:bH} {r:Unit->bH->Prop},r () p->bL (model prog w) A (match b with|true=>rule "set.scan.the-table-gave-way"|false=>pure ()) r E p:=
   fun b p r G=>by cases b<;>first|exact aU G|exact u6 G
  have f:=layNew_perm t c ((jS prog w).hash k) (.int k tk)
  have u:=layNew_fits t c ((jS prog w).hash k) (.int k tk)
  have g:=GH x.good c ((jS prog w).hash k) (.int k tk)
  generalize O:YS t c ((jS prog w).hash k) (.int k tk)=L at f u g⊢
  have v:YS t c (Zt k) (.int k tk)=L:=O
  rw[v]
  obtain⟨y,S,T,P⟩:=L
  rw[N2] at f
  have H:Pe y.toList:=fun e m=>by
   rcases cN.mp (f.mem_iff.mp m) with q|q
   .exact x.nums e q
   .rw[a0] at q
    subst q
    exact⟨k,tk,Z,Z⟩
  have I:(keys y).Perm (put ks k):=by
   unfold put
   rw[ak hk]
   refine(f.map (fun e:Int×bj=>iv e.2)).trans ?_
   exact a_▸(x.perm.append_right [k])
  have i:y.size<lr:=by rw[<-bO,f.length_eq,aG,bO,x.size];exact K
  refine aF (n _ ?_)
  split
  .refine aF ?_
   rw[hashByValue_scannable 8 rfl]
   refine aU ?_
   refine C4 (led:=led) ?_ x.ho x.ex x.dat H I i ?_ ?_ ?_ ?_
   .assumption
   .exact u
   .exact g.1
   .exact g.2.trans x.led
   .intro h' z B;dsimp only;exact aU (h h' af z B)
  .refine aF (aU ?_)
   dsimp only[↓reduceIte]
   refine C4 ?_ x.ho x.ex x.dat H I i u g.1 (g.2.trans x.led) ?_
   .assumption
   .intro h' z B;dsimp only;exact aU (h h' af z B)
end
def met(ns:List Int):List Int:=ns.foldl put []
theorem sR(ks:List Int)(k:Int):(put ks k).length<=ks.length+1:=by unfold put;split<;>simp
theorem Ae:∀(ns ks:List Int),(ns.foldl put ks).length<=ks.length+ns.length
 |[],ks=>by simp
 |a::r,ks=>by have:=Ae r (put ks a);have:=sR ks a;simp only[iT,aK];lia
section
variable {St:Nat->bH->Prop}
theorem BS(W:YR prog w A.in1 I fp wr G n P St)(S:Addr)(p:S∉fp)(ns:List Int)(hn:ns.length=n)(led:Bool)
  (x:∀i v,P i v->∃t,v= .int (ns.getD i 0) t) (c:n+1<lr):
  ∀(k i:Nat) (s:bH),n-i=k->i<=n->St i s->BR s.heap S led (met (ns.take i))->
   (∀a,UY (S::wr) G s a->BR a.heap S led (met ns)->R (.ok (.ret .none)) a)->
   mM (model prog w) A (.builtin "set.update.loop" ⟨[.ref S, .ref I],[]⟩) R s:=by
 have d:=fun h=>p (W.sub _ h)
 have q:∀b∈wr,b∈S::wr:=fun b c=>aO _ c
 intro k
 induction k with
 |zero=>
  intro i s hk y j g hR
  have z:i=n:=by lia
  subst z
  refine fC gF ?_
  rw[eA dX _]
  refine aF (W.done s _ _ j fun a f=> ?_)
  rw[b8 (by lia)] at g
  exact aU (hR a (f.mono q) (g.at fun o e=>f.heap S _ d e))
 |succ k B=>
  intro i s hk y j g hR
  have r:i<n:=by lia
  refine fC gF ?_
  rw[eA dX _]
  refine aF (W.item i s _ _ r j fun v a C D f=> ?_)
  obtain⟨t,rfl⟩:=x i v C
  refine aF (d4 (d4 (aF ((jS prog w).pyHash (YT _ _ _ _) ?_))))
  have E:(met (ns.take i)).length+1<lr:=by
   have:=Ae (ns.take i) []
   unfold met
   rw[bA] at this
   simp only[bQ] at this
   lia
  refine aaw (g.at fun o e=>f.heap S _ d e) E fun h' b u J=> ?_
  have l:BR h' S led (met (ns.take (i+1))):=by
   have e:ns.take (i+1)=ns.take i++[ns.getD i 0]:=by
    simp_all
   rw[e]
   unfold met
   rwa [iX]
  refine aU ⟨iH dX _,B (i+1) _ (by lia) r (W.frame _ a _ _ D (pZ _) fun b c o e=> ?_) l fun m F H=> ?_⟩
  .rw[u.2 b (fun h:b=S=>p (by rw[<-h];exact c))];exact e
  .refine hR m (Ki W.gtrans ((f.mono q).then_heap (pZ _) fun b o c e=> ?_) F) H
   rw[u.2 b (fun h:b=S=>c (by rw[h];exact aT))];exact e
end
end
section
open PySem.Spec
def kF(w:cW):Bool:= !w.params.followText "set-order"
section
theorem MB(a:bj)
  (h:Q₁ (.ref s.heap.objs.size) {s with heap:=s.heap.push {cls:= .type "set",dict:=ae,data:= .set #[] 0 (.fresh 0 0 (kF w))}}):
  mM (model prog w) A (.call (.builtin "set.__new__") ⟨[.type "set",a],[]⟩) (wants Q₁ E) s:=by
 refine Il (aF (jq (F.newCall_set_1 a) (aU ⟨iH ZD _,fC F.entry_set_new ?_⟩)))
 rw[eA ZD _]
 unfold Builtin.«set.__new__» U1
 have c:=sub_set_self
 obtain⟨e,g,d,tk,os⟩:=s
 wp_walk
 refine Fz (aU ?_)
 dsimp only[newObj]
 exact aF (wpAny_alloc (aU (aU h)))
set_option maxHeartbeats 8000000 in
theorem xX{Made:Heap->Prop}(hl:s.heap.IsList l items)
  (d:∀(R:Result->bH->Prop) (m:bH),m={s with heap:=(s.heap.push {cls:= .type "set",dict:=ae,data:= .set #[] 0 (.fresh 0 0 (kF w))}).push {cls:= .type "list_iterator",data:= .fields #[.ref l, .int 0 0]}}->
   (∀(h':Heap) (tk:Nat),Made h'->(∀b o,b<s.heap.objs.size->s.heap.get? b=aa o->h'.get? b=aa o)->R (.ok (.ret .none)) {s with heap:=h',toks:=tk})->
   mM (model prog w) A.in1.in1 (.builtin "set.update.loop" ⟨[.ref s.heap.objs.size, .ref (s.heap.push {cls:= .type "set",dict:=ae,data:= .set #[] 0 (.fresh 0 0 (kF w))}).objs.size],[]⟩) R m)
  (h:∀(h':Heap) (tk:Nat),Made h'->
   (∀b o,b<s.heap.objs.size->s.heap.get? b=aa o->h'.get? b=aa o)->Q (.ref s.heap.objs.size) {s with heap:=h',toks:=tk}):
  bL (model prog w) A (call (.type "set") [.ref l]) Q E s:=by
 obtain⟨c,tl,x⟩:=kZ.mro
 have y:=kZ.made
 have V:=kZ.sub
 refine Bp (Il ?_)
 show bL _ _ (callAny (.type "set") _) _ _ _
 refine aU ⟨N3 _ (by decide+kernel),fC F.entry_type_call ?_⟩
 rw[L0 (SH "set" [.ref l] []) Z]
 have h1:=kZ.notType
 have W:=kZ.canCreate
 have z:=F.typeCall_set_1 (.ref l)
 repeat (any_goals (first|assumption|wp_step))
 refine mO (MB (.ref l) (E:=E) (Q₁:=fun obj n=>obj= .ref s.heap.objs.size/\n={s with heap:=s.heap.push {cls:= .type "set",dict:=ae,data:= .set #[] 0 (.fresh 0 0 (kF w))}}) ⟨Z,Z⟩) fun r n p=> ?_
 cases r with
 |error e=>exact p
 |ok fl=>
  cases fl with
  |ret obj=>
   obtain⟨rfl,rfl⟩:=p
   have B:(s.heap.push {cls:= .type "set",dict:=ae,data:= .set #[] 0 (.fresh 0 0 (kF w))}).get? s.heap.objs.size=aa {cls:= .type "set",dict:=ae,data:= .set #[] 0 (.fresh 0 0 (kF w))}:=bc _ Z
   have C:bH.TypeIs {s with heap:=s.heap.push {cls:= .type "set",dict:=ae,data:= .set #[] 0 (.fresh 0 0 (kF w))}} (.ref s.heap.objs.size) "set":=⟨_,B,Z⟩
   have D:=kZ.init.lookup
   have G:=kZ.init.bind (.ref s.heap.objs.size)
   repeat (any_goals (first|assumption|wp_step))
   refine mO (xJ (R:=wants (fun r q=>r= .none/\∃h' tk,q={s with heap:=h',toks:=tk}/\
     Made h'/\
     (∀b o,b<s.heap.objs.size->s.heap.get? b=aa o->h'.get? b=aa o)) E) kZ.init.plain F.entry_set_init (check_set_init_1 C ?_)) fun H q f=> ?_
   .obtain⟨ol,I,t,u,v⟩:=hl
    obtain⟨J,g,K,L⟩:=ol
    simp only at t v
    subst t;subst v
    have i:(s.heap.push {cls:= .type "set",dict:=ae,data:= .set #[] 0 (.fresh 0 0 (kF w))}).get? l=aa {cls:= .type "list",dict:=g,data:= .seq items u,slots:=L}:=aJ _ I
    have M:=F.sub_list_set
    have N:=F.sub_list_frozenset
    have X:(bj.type "list"==bj.type "dict")=false:=rfl
    have O:(s.heap.push {cls:= .type "set",dict:=ae,data:= .set #[] 0 (.fresh 0 0 (kF w))}).IsList l items:=⟨_,i,Z,u,Z⟩
    unfold Builtin.«set.__init__» noKeywords U2
    generalize j:pyIter=PI
    wp_walk
    subst j
    refine jn O ?_
    refine aF (wpAny_runValue ?_)
    refine d _ _ Z fun h' P S k=> ?_
    show bL _ _ _ _ _ _
    refine aU ?_
    show bL _ _ (ret bj.none) _ _ _
    exact aU ⟨Z,h',P,Z,S,k⟩
   .cases H with
    |error e=>exact f
    |ok T=>
     cases T with
     |ret r=>
      obtain⟨rfl,h',tk,rfl,U,k⟩:=f
      repeat (any_goals (first|assumption|wp_step))
      exact h _ _ U k
     |_=>exact f.elim
  |_=>simp_all
theorem Jd
  (hh:A.handled=ae) (hl:s.heap.IsList l items) (f:qc items.toList ns) (c:items.size+1<lr)
  (h:∀(h':Heap) (tk:Nat),BR h' s.heap.objs.size (kF w) (met ns)->
   (∀b o,b<s.heap.objs.size->s.heap.get? b=aa o->h'.get? b=aa o)->Q (.ref s.heap.objs.size) {s with heap:=h',toks:=tk}):
  bL (model prog w) A (call (.type "set") [.ref l]) Q E s:=by
 refine xX hl (fun R G e hR=> ?_) h
 subst e
 have j:(s.heap.push {cls:= .type "set",dict:=ae,data:= .set #[] 0 (.fresh 0 0 (kF w))}).get? s.heap.objs.size=aa {cls:= .type "set",dict:=ae,data:= .set #[] 0 (.fresh 0 0 (kF w))}:=bc _ Z
 have k:(s.heap.push {cls:= .type "set",dict:=ae,data:= .set #[] 0 (.fresh 0 0 (kF w))}).IsList l items:=hl.push _
 have a:l<s.heap.objs.size:=by obtain⟨o,ho,_⟩:=hl;exact bD ho
 have m:l≠(s.heap.push {cls:= .type "set",dict:=ae,data:= .set #[] 0 (.fresh 0 0 (kF w))}).objs.size:=by
  rw[cG];exact b9 (et a)
 have n:s.heap.objs.size∉[(s.heap.push {cls:= .type "set",dict:=ae,data:= .set #[] 0 (.fresh 0 0 (kF w))}).objs.size,l]:=by
  rw[cG];simp only[aZ,a0,dD,or_false,not_or]
  exact⟨b9 (fY _),gN a⟩
 have p:=fun i v hv=>
  N4 f i v (by rw[eV];exact hv)
 have q:ns.length=items.size:=by
  have:=qc.length f
  rw[bO] at this
  exact this.symm
 refine BS ((Walks.list (by simp[hh]) _ l m items).toS) s.heap.objs.size
  n ns q (kF w) p c (items.size-0) 0 _ Z (cg _)
  ⟨⟨_,bc _ Z,Z,Z⟩,(k.push _)⟩ ?Zd ?hR
 case Zd=>
  have r:((s.heap.push {cls:= .type "set",dict:=ae,data:= .set #[] 0 (.fresh 0 0 (kF w))}).push {cls:= .type "list_iterator",data:= .fields #[.ref l, .int 0 0]}).get? s.heap.objs.size
    =aa {cls:= .type "set",dict:=ae,data:= .set #[] 0 (.fresh 0 0 (kF w))}:=aJ _ j
  exact⟨_,#[],0,_,⟨r,⟨Z,Z,Z⟩,Z,fun e t=>by simp at t, .refl _,by decide,by rfl,⟨List.Pairwise.nil,Z⟩,Z⟩⟩
 case hR=>
  intro u d x
  obtain⟨h',g',d',y,z⟩:=u
  have B:g'=s.gens:=d.gens
  have C:d'=s.drawn:=d.drawn
  have D:z=s.os:=d.os
  subst B;subst C;subst D
  refine hR h' y x fun b o c e=> ?_
  have F:b≠(s.heap.push {cls:= .type "set",dict:=ae,data:= .set #[] 0 (.fresh 0 0 (kF w))}).objs.size:=by
   rw[cG];exact b9 (et c)
  exact d.heap b o (by simp only[aZ,a0,dD,or_false,not_or];exact⟨b9 c,F⟩) (aJ _ (aJ _ e))
end
end
section
open PySem.Spec
theorem GK:Manifest.owners.lookup (String.ofList ['r','o','t','a','r','e','t','i','_','t','e','s'].reverse)=aa Manifest.sig_set_iterator:=by kernel_rfl
theorem fG:Slot "set_iterator" "__next__" "set_iterator.__next__":=
 .of (owner:="set_iterator") (n:="__next__") (by rw[vi,nB];kernel_rfl) (by decide+kernel) (by decide+kernel) (by decide+kernel)
  (by first|exact .inl (by decide+kernel)|exact .inr (by decide+kernel)) (by rw[xH];kernel_rfl)
theorem mj:Kj table "set_iterator.__next__"=aa Builtin.«set_iterator.__next__»:=entryFor_of_tree (by kernel_rfl)
theorem m8(a:bj):Kk "set_iterator.__next__" ⟨[a],[]⟩:=by unfold Kk;rw[Nz (n:=['_','_','t','x','e','n','_','_']) (by kernel_rfl) GK];kernel_rfl
theorem vB:Slot "set_iterator" "__iter__" "set_iterator.__iter__":=
 .of (owner:="set_iterator") (n:="__iter__") (by rw[vi,nB];kernel_rfl) (by decide+kernel) (by decide+kernel) (by decide+kernel)
  (by first|exact .inl (by decide+kernel)|exact .inr (by decide+kernel)) (by rw[xH];kernel_rfl)
theorem El(a:bj):Kk "set_iterator.__iter__" ⟨[a],[]⟩:=by unfold Kk;rw[Nz (n:=['_','_','r','e','t','i','_','_']) (by kernel_rfl) GK];kernel_rfl
theorem BW:Kj table "set_iterator.__iter__"=aa Builtin.«dict_keyiterator.__iter__»:=
 entryFor_alias (id':="dict_keyiterator.__iter__") (by kernel_rfl) (by first|rfl|decide+kernel|(unfold String.splitOn;simp+decide [String.splitOnAux])) (by decide+kernel) (by kernel_rfl)
theorem Af:Kj table "set.__iter__"=aa Builtin.«frozenset.__iter__»:=
 entryFor_alias (id':="frozenset.__iter__") (by kernel_rfl) Z (by decide+kernel) (by kernel_rfl)
theorem qr{b:Type}:∀(l:List b) (j:Nat) (h:j<l.length),(l[j]::l.eraseIdx j).Perm l|a::r,0,_=> .refl _|a::r,j+1,h=>by exact(List.Perm.swap _ _ _).trans ((qr r j (by simpa using h)).cons a)
theorem C7{d:Type}(next:Nat->Nat):∀(b k:Nat) (left:List d) (c:Array d),left.length<=b->(Co next b k left c).toList.Perm (c.toList++left)
 |0,k,left,c,h=>by have e:left=[]:=bX.mp (by lia);subst e;dsimp only[Co];simp
 |b+1,k,left,c,h=>by
  unfold Co
  cases f:left[next k%left.length]? with
  |none=>
   have e:left=[]:=by cases left with|nil=>rfl|cons a r=>have:=List.getElem?_eq_none_iff.mp f;have:=mQ (next k) (show 0<(a::r).length by simp);lia
   simp_all
  |some x=>
   obtain⟨g,j⟩:=aV.mp f;have i:(left.eraseIdx (next k%left.length)).length+1=left.length:=by rw[cY g];lia
   refine(C7 next b (k+1) _ (c.push x) (by lia)).trans ?_;rw[N2,bJ];refine List.Perm.append_left _ ?_;have:=qr left _ g;simp_all
theorem rQ{a:Type}(next:Nat->Nat)(xs:Array a):(yp next xs).toList.Perm xs.toList:=by unfold yp;have:=C7 next xs.size 0 xs.toList #[] (by simp);exact this
section
theorem Je(hn:n≠0)(h:∀x d,x<n->Q x {s with drawn:=d}):bL (model prog w) A (choose src n) Q E s:=fun c p b=>by
 exact⟨hn,h _ _ (mQ _ (R4 hn))⟩
theorem rR{f:Type}:∀(n:Nat) (xs:List f) (s:bH) (Q:List f->bH->Prop),xs.length=n->(∀ys d,ys.Perm xs->Q ys {s with drawn:=d})->bL (model prog w) A (drawOrder n xs) Q E s
 |0,xs,s,Q,hn,h=>by have e:=bX.mp hn;subst e;exact aU (h [] s.drawn (.refl _))
 |n+1,[],s,Q,hn,h=>by simp at hn
 |n+1,a::r,s,Q,hn,h=>by unfold drawOrder;refine aF (Je (by simp) fun x d c=> ?_);exact(aP c)▸(aF (rR n _ _ _ (by rw[cY c];lia) fun ys d' g=>aU (h _ d' ((g.cons _).trans (qr (a::r) x c)))))
end
end
section
open PySem.Spec
section
variable {s:bH}
theorem sS(h:Q (w.params.followText "set-order") s):bL (model prog w) A setsByText Q E s:=by exact aF (Fz (aU h))
variable {led:Bool}
theorem C8(x:Is s.heap a led ks o es ep t)(hw:w.params.followText "set-order"=af)(i b:Nat)
  (h:Q (((yp (w.params.setOrder a ep) es)[i]?).map fun e=>(e.2,b)) s):bL (model prog w) A (IB a b i ep) Q E s:=by
 refine aF (fg x.ho x.dat x.fits (aF (sS ?_)))
 rw[ai hw,ak (by simp)]
 refine aF (aF (fg x.ho x.dat x.fits (aF (sS ?_))))
 exact(ai hw)▸(aF (Fz (aU (aU h))))
theorem Ag(x:Is s.heap a af ks o es ep t)(hw:w.params.followText "set-order"=ag)(hd:(!t.plain&&ah (es.size>1))=ag)(i b:Nat)(c:dA t.place b=i)
  (h:Q (match es[i]?,t.place[i]? with|some (_,x),some j=>aa (x,j+1)|_,_=>ae) s):bL (model prog w) A (IB a b i ep) Q E s:=by
 refine aF (fg x.ho x.dat x.fits (aF (sS ?_)))
 rw[ak (by rw[hw];simp),ak (by show ¬((!t.plain&&ah (es.size>1))=af);rw[hd];simp)]
 refine aF ?_
 show bL _ _ (if(!t.led&& !es.isEmpty)=af then unsupported "set:maker-not-led" else pure ()) _ _ _
 rw[ak (by rw[x.led];simp)]
 refine aU ?_
 exact c▸(aU h)
def Iter(h:Heap)(I a:Addr)(first:bj)(i n b:Nat):Prop:=∃o,h.get? I=aa o/\o.cls= .type "set_iterator"/\o.data= .fields #[first,f9 i, .ref a,f9 n,f9 b]
theorem Iter.typeIs(x:Iter s.heap I a first i n ep):s.TypeIs (.ref I) "set_iterator":=let ⟨o,ho,hc,_⟩:=x;⟨o,ho,hc⟩
theorem Iter.at(x:Iter h I a first i n ep)(e:∀o,h.get? I=aa o->h'.get? I=aa o):Iter h' I a first i n ep:=let ⟨o,ho,r⟩:=x;⟨o,e _ ho,r⟩
theorem GL{f sl' i:Nat}(b:Iter s.heap I a (f9 (f:Int)) i es.size ep)(x:Is s.heap a led ks o es ep t)
  (j:∀(k:gK) (l:bj->bH->Prop) (g:Option (bj×Nat)->bH->Prop),g (aa (v,sl')) s->bL (model prog w) k (IB a f i ep) g l s)
  (m:∀h',Iter h' I a (f9 (sl':Int)) (i+1) es.size ep->d6 I s.heap h'->Q (aa v) {s with heap:=h'}):bL (model prog w) A (pyNext (.ref I)) Q E s:=by
 obtain⟨n,e,p,c⟩:=id b
 refine aF (kz (eF b.typeIs fG
  (eE fG b.typeIs mj ?_ (m8 _))))
 refine aF (jq Z (aF (aF (uZ e ?_))))
 rw[c]
 refine aU ?_
 dsimp only[f9]
 refine aF (lR x.ho x.dat x.fits ?_)
 rw[ak (by simp)]
 dsimp only[dw]
 refine aF (j _ _ _ (aF (k_ e c (by simp) ?_)))
 have d:=dc (wD (·.setIfInBounds 0 (f9 sl'))) e (j9 (d0 c _))
 refine aF (k_ d (d0 c _) (by simp) ?_)
 refine aU ⟨v,Z,aU (m _ ⟨_,dc (wD (·.setIfInBounds 1 (f9 (i+1)))) d (j9 (d0 (d0 c _) _)),?_,?_⟩ ((d6.update ..).trans (d6.update ..)))⟩
 .rwa [qd,qd]
 .rw[d0 (d0 c _)]
  rfl
theorem Jf{c i:Nat}(hh:A.handled=ae)(b:Iter s.heap I a (f9 (c:Int)) i es.size ep)(x:Is s.heap a led ks o es ep t)
  (h:∀(j:gK) (k:bj->bH->Prop) (d:Option (bj×Nat)->bH->Prop),d ae s->bL (model prog w) j (IB a c i ep) d k s)
  (l:∀h',uj I s.heap h'->Q ae {s with heap:=h'}):bL (model prog w) A (pyNext (.ref I)) Q E s:=by
 obtain⟨m,f,n,g⟩:=id b
 refine aF (kz (eF b.typeIs fG
  (eE fG b.typeIs mj ?_ (m8 _))))
 refine aF (jq Z (aF (aF (uZ f ?_))))
 rw[g]
 refine aU ?_
 dsimp only[f9]
 refine aF (lR x.ho x.dat x.fits ?_)
 rw[ak (by simp)]
 dsimp only[dw]
 refine aF (h _ _ _ (aF (k_ f g (by simp) (aF ?_))))
 dsimp only[newExc,newTuple]
 refine aF (fe (aF (jq (by rfl) (fe ?_ (by size_fits)))) (by size_fits))
 dsimp only[raiseNew]
 refine aF (wpAny_handled ?_)
 first|rw[show A.in1.handled=ae from hh]|rw[hh]
 refine aF (aU (wpAny_throw ?_))
 refine aF (lq ⟨_,bc _ Z,Z⟩ xK ?_)
 exact aU (l _ (((Cp (d6.update ..)).push _).push _))
def Drawn(h:Heap)(T:Addr)(ps:List Nat):Prop:=∃o n,h.get? T=aa o/\o.data= .seq (ps.map fun(p:Nat)=>f9 p).toArray n
theorem Drawn.at(x:Drawn h T ps)(e:∀o,h.get? T=aa o->h'.get? T=aa o):Drawn h' T ps:=let ⟨o,n,ho,r⟩:=x;⟨o,n,e _ ho,r⟩
theorem Em(b:Iter s.heap I a (.ref T) i es.size ep)(k:Drawn s.heap T ps)(x:Is s.heap a led ks o es ep t)
  (l:ps[i]? =aa p) (m:es[p]? =aa e)
  (n:∀h',Iter h' I a (.ref T) (i+1) es.size ep->d6 I s.heap h'->Q (aa e.2) {s with heap:=h'}):bL (model prog w) A (pyNext (.ref I)) Q E s:=by
 obtain⟨q,d,r,c⟩:=id b
 obtain⟨u,v,f,g⟩:=k
 refine aF (kz (eF b.typeIs fG
  (eE fG b.typeIs mj ?_ (m8 _))))
 refine aF (jq Z (aF (aF (uZ d ?_))))
 rw[c]
 refine aU ?_
 dsimp only[f9]
 refine aF (lR x.ho x.dat x.fits ?_)
 rw[ak (by simp)]
 dsimp only[dw]
 refine aF (eY f g ?_)
 dsimp only
 have h:(ps.map fun(p:Nat)=>f9 p).toArray[i]? =aa (.int p 0):=by
  rw[tH,bp,l]
  rfl
 rw[h]
 refine aF (aF (fg x.ho x.dat x.fits ?_))
 dsimp only[dw]
 rw[ak (by simp),m]
 refine aU (aF (k_ d c (by simp) ?_))
 refine aU ⟨e.2,Z,aU (n _ ⟨_,dc (wD (·.setIfInBounds 1 (f9 (i+1)))) d (j9 (d0 c _)),?_,?_⟩ (d6.update ..))⟩
 .rwa [qd]
 .rw[d0 c]
  rfl
theorem yz(hh:A.handled=ae)(b:Iter s.heap I a (.ref T) i es.size ep)(j:Drawn s.heap T ps)(x:Is s.heap a led ks o es ep t)
  (l:ps[i]? =ae) (k:∀h',uj I s.heap h'->Q ae {s with heap:=h'}):bL (model prog w) A (pyNext (.ref I)) Q E s:=by
 obtain⟨m,d,n,c⟩:=id b
 obtain⟨q,r,e,f⟩:=j
 refine aF (kz (eF b.typeIs fG
  (eE fG b.typeIs mj ?_ (m8 _))))
 refine aF (jq Z (aF (aF (uZ d ?_))))
 rw[c]
 refine aU (aF (lR x.ho x.dat x.fits ?_))
 rw[ak (by simp)]
 dsimp only[dw]
 refine aF (eY e f ?_)
 dsimp only
 have g:(ps.map fun(p:Nat)=>f9 p).toArray[i]? =none:=by
  simp_all
 rw[g]
 refine aF (k_ d c (by simp) ?_)
 refine aF (k_ (dc (wD (·.setIfInBounds 0 (f9 0))) d (j9 (d0 c _))) (d0 c _) (by simp) (aF ?_))
 dsimp only[newExc,newTuple]
 refine aF (fe (aF (jq (by rfl) (fe ?_ (by size_fits)))) (by size_fits))
 dsimp only[raiseNew]
 refine aF (wpAny_handled ?_)
 first|rw[show A.in1.handled=ae from hh]|rw[hh]
 refine aF (aU (wpAny_throw ?_))
 refine aF (lq ⟨_,bc _ Z,Z⟩ xK ?_)
 exact aU (k _ (((Cp ((d6.update ..).trans (d6.update ..))).push _).push _))
theorem pyIter_self(b:Iter s.heap I a first i n ep)(h:Q (.ref I) s):bL (model prog w) A (pyIter (.ref I)) Q E s:=by exact ZE b.typeIs vB (eE vB b.typeIs BW (aU ⟨_,Z,"set_iterator",_,b.typeIs,fG.lookup,h⟩) (El _))
theorem Is.at(x:Is h a led ks o es ep t)(e:h'.get? a=aa o):Is h' a led ks o es ep t:=⟨e,x.ex,x.dat,x.nums,x.perm,x.qk,x.fits,x.good,x.led⟩
theorem GO(hh:A.handled=ae)(n:a≠I)(xs:List bj)(j:Nat->Nat)(p:xs.length=es.size)
  (q:∀(s:bH) (i:Nat) (v:bj) (d:gK) (f:bj->bH->Prop) (c:Option (bj×Nat)->bH->Prop),Is s.heap a led ks o es ep t->xs[i]? =aa v->c (aa (v,j (i+1))) s->bL (model prog w) d (IB a (j i) i ep) c f s)
  (r:∀(s:bH) (d:gK) (f:bj->bH->Prop) (c:Option (bj×Nat)->bH->Prop),Is s.heap a led ks o es ep t->c ae s->bL (model prog w) d (IB a (j es.size) es.size ep) c f s):
  Walks prog w A I [I,a] [I] es.size (fun i v=>xs[i]? =aa v) (fun i h=>Iter h I a (f9 (j i:Int)) i es.size ep/\Is h a led ks o es ep t) where
 sub:=fun b g=>by simp at g;simp[g]
 frame:=fun _ _ _ x hk=>⟨x.1.at fun o e=>hk I (by simp) o e,x.2.at (hk a (by simp) o x.2.ho)⟩
 item:=fun i s Q E z x k=>by
  have hv:xs[i]? =aa (xs[i]'(by lia)):=aP (by lia)
  exact GL (sl':=j (i+1)) x.1 x.2 (fun d f c h=>q s i _ d f c x.2 hv h) fun h' u m=>k _ h' s.toks hv ⟨u,x.2.at ((m.2 a n).trans x.2.ho)⟩ fun b o g l=>m.extBut b o (fun h=>g (by simp[h])) l
 done:=fun s Q E x k=>Jf hh x.1 x.2 (fun d f c h=>r s d f c x.2 h) fun h' y=>k h' s.toks fun b o g l=>y b o (fun h=>g (by simp[h])) l
 self:=fun _ _ _ _ x k=>pyIter_self x.1 k
theorem GP(hh:A.handled=ae)(k:a≠I)(g:T≠I)(xs:List bj)(l:xs.length=es.size)(m:ps.length=es.size)
  (n:∀(i:Nat) (v:bj),xs[i]? =aa v->∃p e,ps[i]? =aa p/\es[p]? =aa e/\e.2=v):
  Walks prog w A I [I,a,T] [I] es.size (fun i v=>xs[i]? =aa v) (fun i h=>Iter h I a (.ref T) i es.size ep/\Is h a led ks o es ep t/\Drawn h T ps) where
 sub:=fun b c=>by simp at c;simp[c]
 frame:=fun _ _ _ x hk=>⟨x.1.at fun o e=>hk I (by simp) o e,x.2.1.at (hk a (by simp) o x.2.1.ho),x.2.2.at fun o e=>hk T (by simp) o e⟩
 item:=fun i s Q E z x d=>by
  have hv:xs[i]? =aa (xs[i]'(by lia)):=aP (by lia)
  obtain⟨p,e,h1,q,r⟩:=n i _ hv
  refine Em x.1 x.2.2 x.2.1 h1 q fun h' u j=> ?_
  exact r▸(d _ h' s.toks hv ⟨u,x.2.1.at ((j.2 a k).trans x.2.1.ho),x.2.2.at fun o f=>(j.2 T g).trans f⟩ fun b o c f=>j.extBut b o (fun h=>c (by simp[h])) f)
 done:=fun s Q E x d=>yz hh x.1 x.2.2 x.2.1 (dH (by lia)) fun h' y=>d h' s.toks fun b o c f=>y b o (fun h=>c (by simp[h])) f
 self:=fun _ _ _ _ x d=>pyIter_self x.1 d
end
end
section
open PySem.Spec
section
variable {s:bH}
variable {es:Array (Int×bj)}
structure Way prog w(s s1:bH) a(es:Array (Int×bj))(I:Addr):Prop where
 new:s.heap.objs.size<=I
 keep:∀b o,s.heap.get? b=aa o->s1.heap.get? b=aa o
 gens:s1.gens=s.gens
 os:s1.os=s.os
 toks:s.toks<=s1.toks
 ex:∃(fp:List Addr) (xs:List bj) (St:Nat->Heap->Prop),(∀b∈fp,b=a\/s.heap.objs.size<=b)/\I∈fp/\(∀A:gK,A.handled=ae->Walks prog w A I fp [I] es.size (fun i v=>xs[i]? =aa v) St)/\St 0 s1.heap/\xs.Perm (es.toList.map (·.2))
theorem vD(h:Heap)(o:Obj):(h.push o).objs.size=h.objs.size+1:=by simp_all
theorem Pk(ys:List Nat)(h:∀p∈ys,p<es.size):ys.filterMap (fun p=>es[p]?.map (·.2))=ys.map fun p=>(es[p]?.map (·.2)).getD .none:=by induction ys with|nil=>rfl|cons a r c=>have b:=h a (aT ..);rw[qb (by rw[bT b];rfl),b5,c fun p d=>h p (aO _ d),bT b];rfl
theorem GQ(x:Is s.heap a (kF w) ks o es ep t)(h:Q (!w.params.followText "set-order"&&(!t.plain&&ah (es.size>1))) s):bL (model prog w) A (setDrawn a) Q E s:=by exact aF (fg x.ho x.dat x.fits (aF (sS (aU h))))
theorem Is.typeIs(x:Is s.heap a (kF w) ks o es ep t):s.TypeIs (.ref a) "set":=⟨o,x.ho,x.ex.1⟩
theorem Jh(x:Is s.heap a (kF w) ks o es ep t)(z:∀(I:Addr) (G:bH),Way prog w s G a es I->Q (.ref I) G):bL (model prog w) A (pyIter (.ref a)) Q E s:=by
 refine ZE x.typeIs ZF (eE ZF x.typeIs Af ?_ (F.args_set_iter_1 _));have B:=bD x.ho;refine aF (jq Z (aF (aF (lR x.ho x.dat x.fits (aU (aF (GQ x ?_)))))));have k:∀(j:bH),j.heap.get? a=aa o->∀{l:Nat->bH->Prop} {c:gK} {n:bj->bH->Prop},l ep j->bL (model prog w) c (setEpoch a) l n j:=fun j e l c n h=>wpAny_setEpoch_of e x.dat x.fits h;by_cases hw:w.params.followText "set-order"=af
 .rw[hw,ak (by simp)];refine aF (aU (aF (k s x.ho (aF (fe (aU ⟨_,Z,"set_iterator",_,⟨_,bc _ Z,Z⟩,fG.lookup,z _ _ ?_⟩))))));have hsz:(yp (w.params.setOrder a ep) es).toList.length=es.size:=by rw[(rQ _ es).length_eq,bO]
  refine⟨aQ _,fun b o e=>aJ _ e,Z,Z,aQ _,[s.heap.objs.size,a],(yp (w.params.setOrder a ep) es).toList.map (·.2),_,?_,by simp,fun c hh=>GO hh (b9 B) _ (fun _=>0) (by rw[aE,hsz]) ?_ ?_,⟨⟨_,bc _ Z,Z,Z⟩,x.at (aJ _ x.ho)⟩,(rQ _ es).map _⟩
  .intro b m;rcases aZ.mp m with rfl|m
   .exact .inr (aQ _)
   .exact .inl (a0.mp m)
  .intro j i v c n l y hv h;refine C8 y hw i 0 ?_;rw[bp] at hv;rw[<-eV]
   cases q:(yp (w.params.setOrder a ep) es).toList[i]? with
   |none=>rw[q] at hv;cases hv
   |some e=>simp_all
  .intro j c n l y h;refine C8 y hw _ 0 ?_;simp_all
 .have f:w.params.followText "set-order"=false:=by simpa using hw
  have C:kF w=true:=by unfold kF;rw[f];rfl
  rw[f];by_cases hd:(!t.plain&&ah (es.size>1))=af
  .rw[hd,ai (show(!ag&&af)=af from rfl)];refine aF (rR es.size _ _ _ (by simp) fun ys d u=>aF (Kl ?_ ?_))
   .have r:ys.length=es.size:=by rw[u.length_eq,bG]
    refine aF (k _ (aJ _ x.ho) ?_);refine aF (fe (aU ⟨_,Z,"set_iterator",_,⟨_,bc _ Z,Z⟩,fG.lookup,z _ _ ?_⟩));have H:∀p∈ys,p<es.size:=fun p g=>bU.mp (u.mem_iff.mp g);refine⟨?_,fun b o e=>aJ _ (aJ _ e),Z,Z,aQ _,[_,a,s.heap.objs.size],ys.filterMap (fun p=>es[p]?.map (·.2)),_,?_,by simp,fun c hh=>GP hh ?_ ?_ _ ?_ r ?_,⟨⟨_,bc _ Z,Z,Z⟩,x.at (aJ _ (aJ _ x.ho)),⟨_,_,aJ _ (bc _ Z),Z⟩⟩,?_⟩
    .simp_all
    .simp_all
    .show a≠(s.heap.push _).objs.size;rw[vD];exact b9 (et B)
    .simp_all
    .simp_all [Pk,aE]
    .intro i v hv;rw[Pk ys H,bp] at hv;cases q:ys[i]? with|none=>simp_all|some p=>rw[q] at hv;have g:=H p (bC q);refine⟨p,es[p],Z,bT g,?_⟩;have:=aW hv;rw[<-this];simp[g]
    .have:=u.filterMap (fun p=>es[p]?.map (·.2));refine this.trans (List.Perm.of_eq ?_);rw[<-(filterMap_getElem?_range es),List.map_filterMap]
   .have:=x.qk;have e:lr=4096:=rfl;rw[aE,u.length_eq,bG,d8];lia
  .have D:(!t.plain&&ah (es.size>1))=false:=by simpa using hd
   rw[D,ak (by simp)];refine aF (aU (aF (k s x.ho (aF (fe (aU ⟨_,Z,"set_iterator",_,⟨_,bc _ Z,Z⟩,fG.lookup,z _ _ ?_⟩))))));have J:t.place.size=es.size:=by have:=x.fits;simp only[U0.fits,bq,beq_iff_eq] at this;exact this.1
   refine⟨aQ _,fun b o e=>aJ _ e,Z,Z,aQ _,[s.heap.objs.size,a],es.toList.map (·.2),_,?_,by simp,fun c hh=>GO (o:=o) (t:=t) (led:=af) (ks:=ks) hh (b9 B) _ (fun i=>match i with|0=>0|i+1=>t.place.getD i 0+1) (by rw[aE,bO]) ?_ ?_,⟨⟨_,bc _ Z,Z,Z⟩,?_⟩, .refl _⟩
   .intro b m;rcases aZ.mp m with rfl|m
    .exact .inr (aQ _)
    .exact .inl (a0.mp m)
   .intro j i v c n l y hv h;rw[bp] at hv
    cases q:es.toList[i]? with
    |none=>simp_all
    |some e=>
     rw[q] at hv;cases hv
     have K:i<es.size:=by obtain⟨h1,_⟩:=aV.mp q;simpa using h1
     refine Ag y f D i _ ?_ ?_
     .cases i with|zero=>exact Ad x.good.rise|succ i=>dsimp only;rw[fW,bT (show i<t.place.size by lia),jk];exact Ac x.good.rise (by lia)
     simp_all
   .intro j c n l y h;refine Ag y f D es.size _ ?_ ?_
    .cases hn:es.size with|zero=>exact Ad x.good.rise|succ i=>dsimp only;rw[fW,bT (show i<t.place.size by lia),jk];exact Ac x.good.rise (by lia)
    .rwa [lV (aQ _)]
   .rw[C] at x;exact x.at (aJ _ x.ho)
end
end
end iC
namespace iC
open PySem PySem.Spec
section
theorem GR(hh:A.handled=ae)(x:Is s.heap a (kF w) ks o es ep t)
  (H:∀d (c:List bj),(∀b o,s.heap.get? b=aa o->d.heap.get? b=aa o)->d.gens=s.gens->d.os=s.os->s.heap.objs.size<=d.heap.objs.size->c.Perm (es.toList.map (·.2))->Q c d):bL (model prog w) A (collect (.ref a)) Q E s:=by
 have J:=bD x.ho
 unfold collect
 refine aF (wpAny_runValue (fC F.entry_proto_collect ?_))
 dsimp only[eA F.plain_proto_collect _]
 show bL _ A.in1 (newList []>>=fun l=>again (.builtin "list.__iadd__" ⟨[l, .ref a],[]⟩)) _ _ s
 refine aF (fe ?_)
 refine aU ⟨iH WA _,fC F.entry_list_iadd ?_⟩
 dsimp only[eA WA _]
 have K:(s.heap.push {cls:= .type "list",data:= .seq ([]:List bj).toArray}).get? s.heap.objs.size=aa {cls:= .type "list",data:= .seq ([]:List bj).toArray}:=bc _ Z
 have j:Is (s.heap.push {cls:= .type "list",data:= .seq ([]:List bj).toArray}) a (kF w) ks o es ep t:=x.at (aJ _ x.ho)
 have h1:ka (.ref s.heap.objs.size) (.ref a)=false:=by simp[ka,gN J]
 show bL _ A.in1 (jA (.ref s.heap.objs.size) (.ref a) (.ref s.heap.objs.size)) _ _ _
 dsimp only[jA]
 refine aF (u5 ⟨o,j.ho,j.ex.1⟩ ?_)
 rw[ak (by rw[h1];decide)]
 refine aF (Jh j fun I k W=> ?_)
 have g:=j.at (W.keep a o j.ho)
 obtain⟨fp,xs,St,L,S,M,N,u⟩:=W.ex
 have v:=W.keep _ _ K
 refine aF (d4 ?_)
 unfold Builtin.List.listLengthHint
 refine aF (pb ⟨o,g.ho,g.ex.1⟩ F.slot_set_len.lookup ?_)
 (generalize q:("set.__len__":String)=m;(fail_if_success (clear q m));wp_delta;rw[show splitId m=aa ("set","__len__") from by subst q;decide+kernel];subst q)
 refine aF (lq (b:=af) ⟨o,g.ho,g.ex.1⟩ (by rw[xH];kernel_rfl) ?_)
 rw[ak (show ¬((!af)=af) by simp)]
 dsimp only
 rw[ai (by decide+kernel)]
 refine aF (u5 ⟨o,g.ho,g.ex.1⟩ ?_)
 dsimp only
 refine aU ?_
 rw[ai (by decide+kernel)]
 refine aF (u6 ?_)
 refine aF ?_
 show bL _ A.in1 (N5 s.heap.objs.size (·.push .none)>>=fun _=>N5 s.heap.objs.size (·.pop)) _ _ _
 refine aF (kr v Z ?_)
 have y:=dc (jJ (·.push bj.none)) v Z
 refine kr y Z ?_
 have O:s.heap.objs.size≠I:=by
  have:=W.new
  rw[show(s.heap.push {cls:= .type "list",data:= .seq ([]).toArray}).objs.size=s.heap.objs.size+1 from vD _ _] at this
  exact b9 this
 have z:s.heap.objs.size∉fp:=fun n=>by
  rcases L _ n with e|e
  .simp_all
  .rw[show(s.heap.push {cls:= .type "list",data:= .seq ([]).toArray}).objs.size=s.heap.objs.size+1 from vD _ _] at e
   exact c9 _ e
 have p:∀b o,b≠s.heap.objs.size->k.heap.get? b=aa o->((k.heap.update s.heap.objs.size (jJ (·.push bj.none))).update s.heap.objs.size (jJ (·.pop))).get? b=aa o:=
  fun b o f e=>(dU _ _ (bF f)).trans ((dU _ _ (bF f)).trans e)
 have B:=(M A.in1 hh).toS
 refine aU ⟨iH SF _,UZ B (kJ x.qk) _ z _ es.size 0 _ _ _ Z (cg _)
  (B.frame 0 k _ k.toks N (aQ _) fun b f o e=>p b o (fun h=>z (h▸f)) e) (dc (jJ (·.pop)) y Z) (ZC.nil _) fun d c T n C D=> ?_⟩
 show bL _ A (load s.heap.objs.size>>=_) _ _ d
 refine aF (uZ C ?_)
 refine aU (H d c.toList (fun b o e=> ?_) ?_ ?_ (oB (bD C)) ?_)
 .have f:=bD e
  refine n.heap b o (fun P=> ?_) (p b o (b9 f) (W.keep b o (aJ _ e)))
  rcases aZ.mp P with r|r
  .exact b9 f r
  .have:=W.new
   rw[show(s.heap.push {cls:= .type "list",data:= .seq ([]).toArray}).objs.size=s.heap.objs.size+1 from vD _ _] at this
   rw[a0.mp r] at f
   exact c9 _ (sI f this)
 .exact(show d.gens=k.gens from n.gens).trans W.gens
 .exact n.os.trans W.os
 .have e:c.toList=xs:=by
   have R:xs.length=es.size:=by rw[u.length_eq,aE,bO]
   apply fF
   intro i
   rw[eV]
   by_cases G:i<c.size
   .rw[bT G]
    exact(D.2 i _ (bT G)).symm
   .have h1:=D.1
    rw[lV (by lia),dH (by lia)]
  rw[e]
  exact u
theorem Ji(hh:A.handled=ae)(x:Is s.heap a (kF w) ks o es ep t)
  (B:∀(h:bH) (l:Addr) (f:Array bj) (c:Nat) (ns:List Int),(∀b o,s.heap.get? b=aa o->h.heap.get? b=aa o)->h.gens=s.gens->h.os=s.os->s.heap.objs.size<=l->
   h.heap.get? l=aa {cls:= .type "list",data:= .seq f c}->qc f.toList ns->ns.Perm ks->ns.Pairwise (· <=·)->Q (.ref l) h):
  bL (model prog w) A (call (.builtin "sorted") [.ref a]) Q E s:=by
 refine Calls.call_function_entry PyProof.Rows.kind_sorted PyProof.Rows.plain_sorted PyProof.Rows.entry_sorted (PyProof.Rows.args_sorted1 _) (aF (aU (aF (GR (by exact hh) x fun q d hk hg ho j i=> ?_))))
 have g:d.length=es.size:=by rw[i.length_eq,aE,bO]
 have m:d.length<=br:=by rw[g];exact kJ x.qk
 have C:qc d (d.map iv):=by
  have u:∀v∈d,∃k t,v= .int k t:=fun v hv=>by
   obtain⟨e,n,rfl⟩:=bK.mp (i.mem_iff.mp hv)
   obtain⟨k,t,h1,_⟩:=x.nums e n
   exact⟨k,t,h1⟩
  clear i g m
  induction d with
  |nil=>exact .nil
  |cons v r D=>
   obtain⟨k,t,rfl⟩:=u v (aT ..)
   exact .cons k t (D fun v hv=>u v (aO _ hv))
 have F:(d.map iv).Perm ks:=by
  have:=i.map iv
  rw[dI] at this
  exact this.trans x.perm
 refine aF (wpAny_newList ?_ m)
 have p:(q.heap.push (Cq "list" d.toArray 0)).get? q.heap.objs.size=aa (Cq "list" d.toArray 0):=bc _ Z
 refine aF (d4 (eE PyProof.Rows.slot_list_sort ⟨_,p,Z⟩ PyProof.Rows.entry_list_sort (PyProof.Rows.list_sort_treeAny p C m fun f G H I J=>⟨_,Z,?_⟩) (PyProof.Rows.args_list_sort _)))
 obtain⟨e,n⟩:=PyProof.Rows.sortedHeap_at p
 refine aU ⟨_,Z,B _ _ f e G (fun b o y=> ?_) hg ho j n H (I.trans F) J⟩
 have z:=bD (hk b o y)
 rw[PyProof.Rows.sortedHeap_old (b9 z) (by rw[vD];exact et z)]
 exact aJ _ (hk b o y)
end
end iC
namespace L2
open PySem PySem.Spec PyProof.Rows
section
theorem Inv.Tv{d:St}{a:Addr}(I:Inv X pz d H s)(k:∀b u,s.heap.get? b=aa u->s'.heap.get? b=aa u)(hg:s'.gens=s.gens)(ho:s'.os=s.os)(c:s.heap.objs.size<=a)
  (new:ie X.prog X.w (upd H a o) s'.heap a o):Inv X pz d (upd H a o) s':=
 I.Vc (ch:=[]) ho (Un.laid k c (I.gT.fresh c)) (I.gT.laid k c new) (by rw[hg];exact I.bare) (fun b e=>az e (by simp))
theorem En(C:X.calm=af)(hg:Gl X "sorted")(D:X.mg "sorted"=ae)(E:Gl X "set")(F:X.mg "set"=ae)(G:PA X [e] ta)
  (hs:bV [e] X.env=[(ag,eval e X.env)]:=by rfl) (J:bV [.Call (.Name "set" g) [e] [] q2] X.env=[(ag,eval (.Call (.Name "set" g) [e] [] q2) X.env)]:=by rfl):
  PE X (.Call (.Name "sorted" p1) [.Call (.Name "set" g) [e] [] q2] [] p2) (fun k H Q=>ta k H fun vs i=>∃(a:Addr) (ns:List Int),vs=[.ref a]/\jD X.K i a (ns.map V.int)/\ns.length<4000/\
   ∀(d:List Int) (l:Addr),d.Perm (iC.met ns)->d.Pairwise (· <=·)->i l=ae->Q (.ref l) (upd i l (.lst (d.map V.int)))):=by
 intro K s k H Q I h
 refine dM (kE I hg D boot_sorted (lA (fP (NZ (kE I E F boot_set (cU (fX (G q2 K s k H _ I h) fun W Y ⟨vs,i,j,L,g⟩=> ?_) hs Z)))) J Z) (by decide) Z)
 obtain⟨a,ns,e,M,hn,q⟩:=g
 subst e
 cases L with
 |cons r rr=>
  cases rr
  subst r
  obtain⟨its,y,N,z⟩:=j.list M
  have m:=y.length
  rw[aE] at m
  have hh:=j.ok.hd C
  have O:lr=4096:=rfl
  refine iC.Jd hh N.isList (by exact y.ints) (by rw[bz,O];lia) fun h' tk P hk=> ?_
  refine g_ ?_
  obtain⟨o,es,ep,t,x⟩:=P
  refine iC.Ji hh x fun R l n c d S p v w hl T A hs=> ?_
  have f:=bY (oB (bD x.ho)) w
  have U:(iC.met ns).length<=ns.length:=by
   have:=iC.Ae ns []
   simpa [iC.met] using this
  refine⟨.ref l,_,j.Tv (fun b u B=>S b u (hk b u (bD B) B)) p v f (show ie X.prog X.w _ R.heap _ (.lst (d.map V.int)) from⟨?_,n.toList,c,vv T,by exact hl⟩),Z,q d l A hs (j.gT.fresh f)⟩
  rw[aE,A.length_eq,d8]
  lia
end
end L2
namespace D
open PySem PySem.Spec PyProof.Rows L2
inductive E1{ta:Type}(p:ta->Prop):Prop|mk:∀a,p a->E1 p
inductive E2{ta tb:Type}(p:ta->tb->Prop):Prop|mk:∀a b,p a b->E2 p
inductive E3{ta tb tc:Type}(p:ta->tb->tc->Prop):Prop|mk:∀a b c,p a b c->E3 p
inductive E4{ta tb tc td:Type}(p:ta->tb->tc->td->Prop):Prop|mk:∀a b c d,p a b c d->E4 p
inductive E5{ta tb tc td te:Type}(p:ta->tb->tc->td->te->Prop):Prop|mk:∀a b c d e,p a b c d e->E5 p
inductive E6{ta tb tc td te tf:Type}(p:ta->tb->tc->td->te->tf->Prop):Prop|mk:∀a b c d e f,p a b c d e f->E6 p
inductive E7{ta tb tc td te tf tg:Type}(p:ta->tb->tc->td->te->tf->tg->Prop):Prop|mk:∀a b c d e f g,p a b c d e f g->E7 p
inductive E11{ta tb tc td te tf tg th ti tj tk:Type}(p:ta->tb->tc->td->te->tf->tg->th->ti->tj->tk->Prop):Prop|mk:∀a b c d e f g h i j k,p a b c d e f g h i j k->E11 p
inductive A2(a b:Prop):Prop|mk:a->b->A2 a b
inductive A3(a b c:Prop):Prop|mk:a->b->c->A3 a b c
inductive A4(a b c d:Prop):Prop|mk:a->b->c->d->A4 a b c d
inductive A5(a b c d e:Prop):Prop|mk:a->b->c->d->e->A5 a b c d e
inductive A6(a b c d e f:Prop):Prop|mk:a->b->c->d->e->f->A6 a b c d e f
inductive A7(a b c d e f g:Prop):Prop|mk:a->b->c->d->e->f->g->A7 a b c d e f g
inductive A8(a b c d e f g h:Prop):Prop|mk:a->b->c->d->e->f->g->h->A8 a b c d e f g h
inductive A9(a b c d e f g h i:Prop):Prop|mk:a->b->c->d->e->f->g->h->i->A9 a b c d e f g h i
inductive A11(a b c d e f g h i j k:Prop):Prop|mk:a->b->c->d->e->f->g->h->i->j->k->A11 a b c d e f g h i j k
def top(i:Nat):Stmt:=iU.main.body.getD i (.Pass ⟨0,0,0,0⟩)
def Tw(s:Stmt):Str:=match s with| .FunctionDef n _ _ _ _ _ _ _ _ _=>n|_=>""
def Sl(s:Stmt):List Str:=(qh s).args.map (·.arg)
def Zf(s:Stmt):List Str:=(fZ s).names.filterMap fun p=>match p.2 with| .local=>aa p.1| .cell=>aa p.1|_=>ae
section
variable {K:aM}
def Fn(K:aM)(x a:Str)(st:Stmt)(ps:List Str)(f:Addr)(c:bj):Prop:=∃oc od kV b e g ct d,K.lookup f=aa ⟨oc,od, .func (nj x a (qh st) (oF st) (fZ st) .none kV b e g c ct),d⟩/\Bq K c a=af/\jh K (.ref f)=af/\Binds K (nj x a (qh st) (oF st) (fZ st) .none kV b e g c ct) ps
theorem Fn.ok{a:Sp}{st:Stmt}(F:Fn K x qual st ps f c)(S:mZ N ps (fZ st))(len:∀vs H Q,a H Q vs->vs.length=ps.length)(b:∀A o s,Bd P w K mg base k N qual st a ⟨f,c,A,o,s⟩):Ky P w K mg base (k+1) f ps a:=by obtain⟨oc,od,kV,d,j,l,ct,e,g,h,hk,i⟩:=F;exact⟨_,hk,i,Z8 g h S len b⟩
def OkG(P:b7)(w:cW)(K:aM)(mg:Str->Option bj)(base:Heap)(k:Nat)(x:Str)(ps:List Str)(a:Sp):Prop:=∃f,mg x=aa (.ref f)/\Ky P w K mg base k f ps a
def OkM(P:b7)(w:cW)(K:aM)(mg:Str->Option bj)(base:Heap)(k:Nat)(C:Addr)(m:Str)(ps:List Str)(a:Sp):Prop:=∃f,Kx K C/\Meth K C m f/\Ky P w K mg base k f ps a
def OkK(P:b7)(w:cW)(K:aM)(mg:Str->Option bj)(base:Heap)(k:Nat)(x:Str)(C:Addr)(ps:List Str)(a:Sp):Prop:=∃f,mg x=aa (.ref C)/\Mk K C f/\Ky P w K mg base k f ps a
end
theorem _root_.L2.mZ.m{P:List Str}{h:tQ}(a:h.kind= .function:=by rfl)(b:h.isCoroutine=false:=by rfl)(c:h.isGenerator=false:=by rfl)(d:N.Nodup:=by decide+kernel)(e:N.take P.length=P:=by rfl)(f:∀x∈P,h.names.lookup x=aa .local\/h.names.lookup x=aa .cell:=by decide+kernel)(g:∀y∈h.names,y.2≠ .free:=by decide+kernel):mZ N P h:=⟨a,b,c,d,e,f,g⟩
section
theorem _root_.L2.jI.u1{A:gK}(r:jI k A):A.units+1<ly:=by have:=r.un;lia
theorem cO(a:PE X e te)(hs:bV [e] X.env=(ag,eval e X.env)::bV [] X.env:=by rfl):PA X [e] (tY te uv):=aR a gW hs
theorem cy(a:PE X e te):Sa X [.Return (aa e) pos] (WV te):=b6 (WW a)
theorem dZ(b:X.mg "len"=ae)(c:PE X e te)(hg:Gl X "len":=by rfl)(a:bV [e] X.env=(ag,eval e X.env)::bV [] X.env:=by rfl)(d:(gA pos (bV [] X.env)).any (·.1)=false:=by rfl):PE X (.Call (.Name "len" p) [e] [] pos) (W_ (fun xs H Q=>∃p ys,xs=[.ref p]/\(jD X.K H p ys\/oW X.K H p ys)/\Q (.int ys.length) H) (tY te uv)):=ja Ec hg b Cr (cO c a) (by decide) Z a d
theorem cP(F:OkG X.prog X.w X.K X.mg X.base k x ps sp)(a:jI k X.A)(b:PA X (e::es) t)
  (hg:Gl X x:=by rfl) (c:(x==("__debug__":Str))=false:=by decide) (d:bV (e::es) X.env=(ag,eval e X.env)::bV es X.env:=by rfl) (g:(gA pos (bV es X.env)).any (·.1)=false:=by rfl):
  PE X (.Call (.Name x p) (e::es) [] pos) (zQ sp t):=by
 obtain⟨f,h1,l,h,i,j⟩:=F
 exact S3 j a hg h1 h i b c d g
theorem aaC(F:OkG X.prog X.w X.K X.mg X.base k x ps sp)(a:jI k X.A)(hg:Gl X x:=by rfl)(b:(x==("__debug__":Str))=false:=by decide):PE X (.Call (.Name x p) [] [] pos) (zQ sp uv):=by obtain⟨f,h1,g,c,d,e⟩:=F;exact OD e a hg h1 c d b
theorem Tx(F:OkM X.prog X.w X.K X.mg X.base k C m ps sp)(b:jI k X.A)(ho:PE X o ta)(c:PA X (e::es) t)(d:bV (e::es) X.env=(ag,eval e X.env)::bV es X.env:=by rfl)
  (g:(gA pos (bV es X.env)).any (·.1)=false:=by rfl)
  (h:eval (.Call (.Attribute o m apos) (e::es) [] pos) X.env=(do let a<-eval o X.env;uY apos.atName;let (f,first)<-holding [a] (getMethod a m pl);callWith pos f first (gA pos (bV (e::es) X.env)) (lU pos (iG [] X.env))):=by rfl):
  PE X (.Call (.Attribute o m apos) (e::es) [] pos) (F6 C m sp ta t):=by
 obtain⟨f,cl,h1,l,_,i,j⟩:=F
 exact S4 ho cl h1 j b i c d g h
theorem jd(F:OkM X.prog X.w X.K X.mg X.base k C m ps sp)(b:jI k X.A)(ho:PE X o ta)
  (c:eval (.Call (.Attribute o m apos) [] [] pos) X.env=(do let a<-eval o X.env;uY apos.atName;let (f,first)<-holding [a] (getMethod a m pl);callWith pos f first (gA pos (bV [] X.env)) (lU pos (iG [] X.env))):=by rfl):
  PE X (.Call (.Attribute o m apos) [] [] pos) (F6 C m sp ta uv):=by
 obtain⟨f,cl,h1,g,_,d,e⟩:=F
 exact OE ho cl h1 e b d c
theorem acD(F:OkK X.prog X.w X.K X.mg X.base k x C ps sp)(a:jI (k+1) X.A)(b:PA X (e::es) t)(hg:Gl X x:=by rfl)(c:(x==("__debug__":Str))=false:=by decide)
  (d:bV (e::es) X.env=(ag,eval e X.env)::bV es X.env:=by rfl) (g:(gA pos (bV es X.env)).any (·.1)=false:=by rfl):PE X (.Call (.Name x p) (e::es) [] pos) (Kz C sp t):=by
 obtain⟨f,h1,h,l,_,i,j⟩:=F
 exact S5 h j a hg h1 i b c d g
theorem Pl(F:OkK X.prog X.w X.K X.mg X.base k x C ps sp)(a:jI (k+1) X.A)(hg:Gl X x:=by rfl)(b:(x==("__debug__":Str))=false:=by decide):PE X (.Call (.Name x p) [] [] pos) (Kz C sp uv):=by obtain⟨f,h1,c,g,_,d,e⟩:=F;exact OF c e a hg h1 d b
theorem Eo{X:Cx}{a:TE}(own:List (Str×Nat))(b:PI X tg iter wi)
  (hg:∀{s:bH} {H:Hp} {C:Addr} {cl:List (Str×Addr)} {fp:List Addr},PG (X.yw s H scope (hZ scope cl C X.env) fp) tg g) (c:∀{s:bH} {H:Hp} {C:Addr} {cl:List (Str×Addr)} {fp:List Addr},Xk (X.yw s H scope (hZ scope cl C X.env) fp) ifs tt)
  (d:∀{s:bH} {H:Hp} {C:Addr} {cl:List (Str×Addr)} {fp:List Addr},PE (X.yw s H scope (hZ scope cl C X.env) fp) elt a) (hN:X.N.Nodup:=by assumption) (e:X.calm=true:=by rfl) (hs:∀x,kI iter X.env x=pure x:=by intro _;rfl) (ok:Te X.N X.env.scope scope own=true:=by kernel_rfl):
  PE X (.ListComp elt [⟨tg,iter,ifs,0⟩] scope pos) (tLc wi g tt a (own.map (·.2))):=aal b (Gi ok) (fun _ _ _ _ _=>hg) (fun _ _ _ _ _=>c) (fun _ _ _ _ _=>d) hN e hs
theorem slc{X:Cx}{c:TE}(i:Nat)(own:List (Str×Nat))(d:PI X tg iter wi)
  (hg:∀{s:bH} {H:Hp} {C:Addr} {cl:List (Str×Addr)} {fp:List Addr},PG (X.yw s H scope (hZ scope cl C X.env) fp) tg g) (e:∀{s:bH} {H:Hp} {C:Addr} {cl:List (Str×Addr)} {fp:List Addr},Xk (X.yw s H scope (hZ scope cl C X.env) fp) ifs tt)
  (f:∀{s:bH} {H:Hp} {C:Addr} {cl:List (Str×Addr)} {fp:List Addr},PE (X.yw s H scope (hZ scope cl C X.env) fp) elt c) (h:X.N[i]? =aa y:=by rfl) (a:X.env.scope.names.lookup y=aa .local:=by rfl) (b:yl (.ListComp elt [⟨tg,iter,ifs,0⟩] scope pos) (aa (.Name y py)) Xl.line X.env=pure true:=by rfl) (hN:X.N.Nodup:=by assumption) (j:X.calm=true:=by rfl) (hs:∀x,kI iter X.env x=pure x:=by intro _;rfl) (ok:Te X.N X.env.scope scope own=true:=by kernel_rfl):
  PS X (.Assign [.Name y py] (.ListComp elt [⟨tg,iter,ifs,0⟩] scope pos) Xl) (IG (tLc wi g tt c (own.map (·.2))) (pF i)):=OU j hN h a b d (Gi ok) (fun _ _ _ _ _=>hg) (fun _ _ _ _ _=>e) (fun _ _ _ _ _=>f) hs
theorem i_{K:aM}(h:X.K=K:=by rfl):IxR X (Xb K):=h▸di
theorem GS{K:aM}(h:X.K=K:=by rfl):IxR X (Xa K):=h▸bP
def aaD(K:aM)(a:TE):TT:=fun b H Q=>a b H fun x H'=>∃k,SX K x H' k/\Q k H'
theorem je(b:PE X e ta)(c:∀a,isTrue e X.env a=(do let v<-a;uY e.pos;holding [v] (truthy v))):PT X e (aaD X.K ta):=F3 b c
theorem MC{K:aM}(b:PE X e ta)(c:∀a,isTrue e X.env a=(do let v<-a;uY e.pos;holding [v] (truthy v)))(h:X.K=K:=by rfl):PT X e (aaD K ta):=h▸F3 b c
theorem KY{K:aM}(a:X.calm=af)(h:ZU X es tt)(b:X.K=K:=by rfl)(hn:(nU es X.env).length=n:=by rfl)(c:(nU es X.env).findIdx? (·.1)=none:=by rfl):
  PG X (.Tuple es kk pos) (WX K n tt):=b▸D8 a h hn c
theorem pK(h:X.mg x=aa (.ref a))(hg:Gl X x:=by rfl)(hd:(x==("__debug__":Str))=false:=by decide):PE X (.Name x pos) (tC (.ref a)):=D0 hg h Z hd
theorem d_(h:∃t,X.mg x=aa (.int v t))(hg:Gl X x:=by rfl)(hd:(x==("__debug__":Str))=false:=by decide):PE X (.Name x pos) (tC (.int v)):=by obtain⟨t,h⟩:=h;exact D0 hg h ⟨t,Z⟩ hd
end
section
theorem Ah(h:∃t,X.mg x=aa (.str v t))(hg:Gl X x:=by rfl)(hd:(x==("__debug__":Str))=false:=by decide):PE X (.Name x pos) (tC (.str v)):=by obtain⟨t,h⟩:=h;exact D0 hg h ⟨t,Z⟩ hd
def aaE(i j:Int):Prop:=0<j/\j<4611686018427387904
theorem Ai:wM X (binaryOp .FloorDiv) (rI aaE fun i j=> .int (i/j)):=opI fun i j _ _ _ _ _ a q=>by
 have h1:=a.1
 have c:=a.2
 refine floordiv_int (by omega) (by rw[Int.fdiv_eq_ediv_of_nonneg i (by omega)];exact q) (.inl (PyProof.noPylong_of_log2 ?_))
 have b:j.natAbs<2^62:=by omega
 have d:=(Nat.log2_lt (by omega)).mpr b
 omega
abbrev TF:=Str->L2.St->Hp->(Str->Hp->Prop)->Prop
def PF(X:Cx)(c:List Expr)(t:TF):Prop:=
 ∀b s (a:L2.St) H out Q,Inv X b a H s->t out a H Q->
  bL (model X.prog X.w) X.A (joinParts out (evalEach c X.env)) (EP X b a fun v H'=>∃z,v= .str z/\Q z H') NE s
def aaF:TF:=fun a _ H Q=>a.length<=br/\Q a H
def ME(c:Str)(t:TF):TF:=fun a b H Q=>(a++c).length<=br/\t (a++c) b H Q
def aaG(c:TE)(t:TF):TF:=fun a b H Q=>c b H fun v d=>∃i,v= .int i/\i.natAbs.log2<1920/\(a++(toString i)).length<=br/\t (a++(toString i)) b d Q
def XH(c:TE)(t:TF):TF:=fun a b H Q=>c b H fun v d=>∃z,v= .str z/\z.length<=br/\(a++z).length<=br/\t (a++z) b d Q
theorem Ep:PF X [] aaF:=fun b s c H a Q I h=>joinParts_nil ⟨.str a,H,I.tok _,⟨_,Z⟩,a,Z,h.2⟩ h.1
theorem uA(b:PF X es t):PF X (.Constant (.str c) k pos::es) (ME c t):=fun d s e H a Q I h=>
 Km (Nu ⟨h.1,b d _ e H (a++c) Q (I.tok _) h.2⟩)
theorem uB(c:PE X e te)(d:PF X es t):PF X (.FormattedValue e (-1) ae pos::es) (aaG te t):=fun a s b H f Q I h=>by
 refine Km (U3 (fX (c a s b H _ I h) ?_))
 rintro v n ⟨y,g,j,k,i,l,hd,m,q⟩
 subst l
 obtain⟨tk,rfl⟩:=k
 exact formatField_int_small hd ⟨m,d a _ b g _ Q (j.tok _) q⟩
theorem XI(d:PE X e te)(f:PF X es t):PF X (.FormattedValue e (-1) ae pos::es) (XH te t):=fun b s c H g Q I h=>by
 refine Km (U3 (fX (d b s c H _ I h) ?_))
 rintro v n ⟨y,i,j,k,z,l,m,a,q⟩
 subst l
 obtain⟨tk,rfl⟩:=k
 exact formatField_str (fun t' tk=>⟨a,f b _ c i _ Q (j.tok _) q⟩) m
def aaH(t:TF):TE:=fun a H Q=>t Str.empty a H fun z H'=>Q (.str z) H'
theorem zb(a:PF X (v1::v2::es) t):PE X (.JoinedStr (v1::v2::es) pos) (aaH t):=fun b s c H Q I h=>by
 refine JoinedStr_many (fX (a b s c H Str.empty _ I h) ?_)
 rintro v i ⟨y,d,e,f,z,g,q⟩
 subst g
 exact⟨.str z,d,e,f,q⟩
end
section
theorem GU(hh:A.handled=ae)
  (B:∀(m:bH) (O:bj->bH->Prop) (E':bj->bH->Prop),(∀c o,s.heap.get? c=aa o->m.heap.get? c=aa o)->O (.bool bt) m->bL (model prog w) A.in1 (US .Lt b a) O E' m)
  (h:∀h' tk,(∀c o,s.heap.get? c=aa o->h'.get? c=aa o)->Q (if bt=af then b else a) {s with heap:=h',toks:=tk}):
  bL (model prog w) A (call (.builtin "min") [a,b]) Q E s:=by
 have y:(toString "min"++toString ".loop")="min.loop":=by decide
 have P:(s.heap.push {cls:= .type "tuple",data:= .seq #[a,b]}).IsTuple s.heap.objs.size #[a,b]:=⟨_,bc _ Z,Z,0,Z⟩
 refine call_function_tree PySem.F.kind_min PySem.F.plain_min PySem.F.entry_min (PySem.F.args_min2 _ _) ?_
 refine aF (jq (show WB "min" ["key","default"] 0 ⟨[],[]⟩=pure [ae,ae] from rfl) ?_)
 refine aF (fe ?_)
 refine aF (YU P ?_)
 refine aF (fe ?_)
 rw[y]
 refine aU ⟨iH gb _,?_⟩
 have z1:(s.heap.push {cls:= .type "tuple",data:= .seq #[a,b]}).objs.size=s.heap.objs.size+1:=cG ..
 generalize hI:(s.heap.push {cls:= .type "tuple",data:= .seq #[a,b]}).objs.size=I
 generalize C:(s.heap.push {cls:= .type "tuple",data:= .seq #[a,b]}).push {cls:= .type "tuple_iterator",data:= .fields #[.ref s.heap.objs.size, .int 0 0]}=h1
 have z2:h1.objs.size=s.heap.objs.size+2:=by rw[<-C,cG,z1]
 generalize hS:h1.objs.size=S
 have W:=Walks.tuple (prog:=prog) (w:=w) (A:=A.in1) hh I s.heap.objs.size (by lia) #[a,b]
 have D:h1.IsTupleIter I s.heap.objs.size 0/\h1.IsTuple s.heap.objs.size #[a,b]:=by
  rw[<-C,<-hI]
  exact⟨⟨_,bc _ Z,Z,Z⟩,P.push _⟩
 generalize F:h1.push {cls:= .type "list",data:= .seq #[]}=h2
 have R:h2.get? S=aa {cls:= .type "list",dict:=ae,data:= .seq #[] 0,slots:= #[]}:=by rw[<-F,<-hS];exact bc _ Z
 have f:∀c o,s.heap.get? c=aa o->c≠S:=fun c o e z=>by have h0:=bD e;lia
 have g:∀c o,s.heap.get? c=aa o->c∉[I]:=fun c o e z=>by have h0':=bD e;have z':=a0.mp z;lia
 have q:∀i∈[I,s.heap.objs.size],S≠i:=fun i j=>by
  rcases aZ.mp j with rfl|j
  .lia
  .rw[a0.mp j]
   lia
 have k:S∉[I]:=fun z=>by have z':=a0.mp z;lia
 refine fC qM ?_
 dsimp only[eA gb _]
 refine aF (eY R Z ?_)
 refine aF (xM (W.item 0 _ _ _ (Nat.zero_lt_succ _) (W.frame _ _ _ D fun i _ o e=>by rw[<-F];exact aJ _ e) fun v h3 tk3 G H T=> ?_))
 cases G
 have U:=T S _ k R
 show bL _ A.in1 (N5 S (fun _=> #[a,a])>>=_) _ _ _
 refine aF ?_
 refine kr U Z ?_
 rw[y]
 refine aU ⟨iH gb _,?_⟩
 generalize l:h3.update S (jJ fun _=> #[a,a])=V
 obtain⟨X,Y⟩:∃X,V.get? S=aa {cls:= .type "list",dict:=ae,data:= .seq #[a,a] X,slots:= #[]}:=⟨_,by rw[<-l];exact dc _ U Z⟩
 refine fC qM ?_
 dsimp only[eA gb _]
 show bL _ A.in1 (seqItems? (.ref S)>>=_) _ _ _
 refine aF (eY Y Z ?_)
 show bL _ A.in1 (tryCatch (pyNext (.ref I)) _>>=_) _ _ _
 refine aF (xM (W.item 1 _ _ _ (fY _) (W.frame _ _ _ H fun i j o e=>by rw[<-l];exact(dU _ _ (q i j)).trans e) fun v h5 tk5 G SU t=> ?_))
 cases G
 have J:=t S _ k Y
 have K:=fun c o e=>t c o (g c o e) ((fun c o e=>by rw[<-l];exact(dU _ _ (bF (f c o e))).trans ((fun c o e=>T c o (g c o e) ((fun c o e=>by rw[<-F];exact aJ _ ((fun c o e=>by rw[<-C];exact aJ _ (aJ _ e)) c o e)) c o e)) c o e):∀c o,s.heap.get? c=aa o->V.get? c=aa o) c o e)
 show bL _ A.in1 (tryCatch (holding [b,b] (US .Lt b a>>=_)) _>>=_) _ _ _
 refine aF (xM (d4 (aF (B _ _ _ K ?_))))
 refine aF (d4 (eJ ?_))
 refine aF (my (aU ?_))
 have d:∀n u v c6,(n.IsTupleIter I s.heap.objs.size 2/\n.IsTuple s.heap.objs.size #[a,b])->(∀c o,s.heap.get? c=aa o->n.get? c=aa o)->
   n.get? S=aa {cls:= .type "list",dict:=ae,data:= .seq #[v,v] c6,slots:= #[]}->v=(if bt=af then b else a)->
   mM (model prog w) A (.builtin "min.loop" ⟨[.ref I, .none, .ref S],[]⟩) (fun r m=>match r with| .ok (.ret v)=>Q v m| .ok _=>False| .error e=>E e m) {s with heap:=n,toks:=u}:=by
  intro n u v c6 L M Jj hv
  refine fC qM ?_
  dsimp only[eA gb _]
  show bL _ A.in1 (seqItems? (.ref S)>>=_) _ _ _
  refine aF (eY Jj Z ?_)
  show bL _ A.in1 (tryCatch (pyNext (.ref I)) _>>=_) _ _ _
  refine aF (xM (W.done _ _ _ L fun h7 N x=> ?_))
  show bL _ A.in1 (N5 S (fun _=> #[])>>=_) _ _ _
  refine aF ?_
  refine kr (x S _ k Jj) Z (aF (my (aU ?_)))
  rw[hv]
  exact h _ N fun c o e=>(dU _ _ (bF (f c o e))).trans (x c o (g c o e) (M c o e))
 cases bt with
 |true=>
  dsimp only[if_true]
  refine aF ?_
  refine kr J Z (aF (my ?_))
  dsimp only[y]
  refine aU ⟨iH gb _,d _ _ b _ (W.frame _ _ _ SU fun i j o e=>(dU _ _ (q i j)).trans e) (fun c o e=>(dU _ _ (bF (f c o e))).trans (K c o e)) (dc _ J Z) Z⟩
 |false=>
  dsimp only[dG,if_false]
  refine aF (my ?_)
  rw[y]
  exact aU ⟨iH gb _,d _ _ a _ SU K J Z⟩
end
section
inductive Pn K(vs:List V) H(Q:VK):Prop|mk:∀a b ns ms,(vs=[.ref a, .ref b])->(oW K H a (ns.map V.int))->(oW K H b (ms.map V.int))->(Q (.ref (if HT.lexLt ms ns=af then b else a)) H)->Pn K vs H Q
theorem IsTup.keeps(p:IsTup h l its)(k:∀c o,h.get? c=aa o->h'.get? c=aa o):IsTup h' l its:=by obtain⟨o,e,c⟩:=p;exact⟨o,k _ _ e,c⟩
theorem Jk(c:X.calm=af)(n:X.A.units+64<ly):pG X (.builtin "min") (Pn X.K):=by
 intro o s p H vs t Q I r h;obtain⟨a,b,ns,ms,rfl,d,e,q⟩:=h;obtain⟨u,v,rfl,f,rb⟩:=vals2 r;subst f;subst rb;obtain⟨its,g,i,_⟩:=I.tuple d;obtain⟨w,j,l,_⟩:=I.tuple e;refine GU (bt:=HT.lexLt ms ns) (I.ok.hd c) (fun x y z k m=> ?_) fun h' tk k=>⟨.ref (if HT.lexLt ms ns=af then b else a),H,I.kept k,?_,q⟩
 .exact HT.IU (IsTup.keeps l k) (IsTup.keeps i k) (by exact j.ints) (by exact g.ints) (by show X.A.units+1<ly;lia) m
 .split<;>rfl
end
end D
namespace D
open PySem PySem.Spec
section
open AutoSeq1 (wpAny_loadPart')
open Sem (wp)
theorem Aj(a b:bj):checkTypeCall "enumerate" ⟨[a],[(cq "start",b)]⟩=pure ():=by kernel_rfl
theorem BX(a b:bj):checkBuiltinCall "enumerate.__new__" ⟨[.type "enumerate",a],[(cq "start",b)]⟩=pure ():=by kernel_rfl
theorem yA(a b c:bj):Kk "object.__init__" ⟨[a,b],[(cq "start",c)]⟩:=by unfold Kk;rw[Nz (n:=['_','_','t','i','n','i','_','_']) (by kernel_rfl) PySem.F.owner_object];kernel_rfl
theorem GV(l:Addr)(a:Array bj)(n:Nat)(XK:Option Addr)(f:Array (Option bj))(t:Tok):
  Zv (Builtin.«enumerate.__new__» ⟨[.type "enumerate", .ref l],[(cq "start", .int 1 t)]⟩) (fun _ R s=>s.heap.get? l=aa {cls:= .type "list",dict:=XK,data:= .seq a n,slots:=f}/\
   R (.ok (.ret (.ref (s.heap.push {cls:= .type "list_iterator",data:= .fields #[.ref l, .int 0 0]}).objs.size)))
    {s with heap:=(s.heap.push {cls:= .type "list_iterator",data:= .fields #[.ref l, .int 0 0]}).push {cls:= .type "enumerate",data:= .fields #[.none, .bool ag, .ref s.heap.objs.size,f9 1, .none, .none]}}):=
 .of_wp fun prog w A R s h=>by
  obtain⟨i,g,d,tk,os⟩:=s;obtain⟨hl,h⟩:=h
  have j:=sub_enumerate
  have b:Heap.IsList (YV ⟨i,g,d,tk,os⟩) l a:=⟨_,hl,Z,n,Z⟩
  wp_walk using lY hl
  refine wpAny_stack_any fun st=>aU ?_
  set_option tactic.hygienic true in split
  .rename_i c _ _ _ _ _
   cases (c==bj.type "enumerate")
   .wp_walk using lY hl,jn b
    exact⟨_,Z,h⟩
   .wp_walk using lY hl,jn b
    exact⟨_,Z,h⟩
  .wp_walk using lY hl,jn b
   exact⟨_,Z,h⟩
section
theorem Ak(hl:Br (.type T) "__init__"=pure (aa (.builtin "object.__init__")))
  (d:Bind.madeBy (.type T)=pure (aa newId)) (e:(aa newId !=aa "object.__new__")=af):
  Zv (Builtin.«object.__init__» ⟨[self,a],[(cq "start",b)]⟩) (fun _ R s=>s.TypeIs self T/\R (.ok (.ret .none)) s):=by
 refine Zv.of_wp fun prog w A R s hs=> ?_
 obtain⟨f,c⟩:=hs
 repeat (any_goals (first|assumption|wp_step))
 exact⟨_,Z,c⟩
theorem GW(a:TypeCalled T newId Po)
  (n:checkTypeCall T ⟨args,kw⟩=pure ()) (d:checkBuiltinCall newId ⟨.type T::args,kw⟩=pure ())
  (o:Kj table newId=aa Bn) (p:Kj table Po=aa Bi) (g:Zv (Bn ⟨.type T::args,kw⟩) S)
  (h:S A.in1 (wants Q₁ E) s)
  (f:∀obj b,Q₁ obj b->b.TypeIs obj T/\Kk Po ⟨obj::args,kw⟩/\∃i,Zv (Bi ⟨obj::args,kw⟩) i/\i A.in1 (wants (fun r k=>r= .none/\Q obj k) E) b):
  bL (model prog w) A (call (.type T) args kw) Q E s:=by
 obtain⟨c,tl,q⟩:=a.mro
 have t:=a.made
 have C:=a.sub
 refine Bp (Il (aU ⟨N3 _ (by decide+kernel),fC PySem.F.entry_type_call ?_⟩))
 dsimp only[L0 (SH T args kw) (units_type_call_type T args kw)]
 have h1:=a.notType
 have D:=a.canCreate
 repeat (any_goals (first|assumption|wp_step))
 refine mO (xJ a.plain o (jq d (g prog w A.in1 _ s h))) fun r b l=> ?_
 cases r with
 |error e=>exact l
 |ok fl=>
  cases fl with
  |ret obj=>
   obtain⟨u,gT,i,v,j⟩:=f _ _ l
   have x:=a.init.lookup
   have y:=a.init.bind obj
   repeat (any_goals (first|assumption|wp_step))
   refine mO (xJ a.init.plain p (a.init.check _ _ _ _ _ _ _ _ u gT (v prog w A.in1 _ b j))) fun z k m=> ?_
   cases z with
   |error e=>exact m
   |ok B=>
    cases B with
    |ret r=>
     obtain⟨rfl,F⟩:=m
     repeat (any_goals (first|assumption|wp_step))
    |_=>simp_all
  |_=>simp_all
theorem Jl(j:s.heap.IsList l items)
  (h:∀h',Fx h' (s.heap.objs.size+1) s.heap.objs.size 1 .none->h'.IsListIter s.heap.objs.size l 0->h'.objs.size=s.heap.objs.size+2->
   (∀b o,s.heap.get? b=aa o->h'.get? b=aa o)->Q (.ref (s.heap.objs.size+1)) {s with heap:=h'}):
  bL (model prog w) A (call (.type "enumerate") [.ref l] [(cq "start", .int 1 t)]) Q E s:=by
 obtain⟨⟨c,XK,k,m⟩,hl,a,n,hd⟩:=j
 replace a:c= .type "list":=a
 replace hd:k= .seq items n:=hd
 subst a hd
 refine GW (Q₁:=fun obj d=>d.TypeIs obj "enumerate"/\Q obj d) pj (Aj _ _) (BX _ _) PySem.F.entry_enumerate_new PySem.F.entry_object_init
  (GV l items n XK m t) ⟨hl,?_⟩ fun obj d e=>⟨e.1,yA obj _ _,_,Ak pj.init.lookup pj.made Z,e.1,Z,e.2⟩
 have f:(s.heap.push {cls:= .type "list_iterator",data:= .fields #[.ref l, .int 0 0]}).objs.size=s.heap.objs.size+1:=cG ..
 rw[f]
 have i:Fx ((s.heap.push {cls:= .type "list_iterator",data:= .fields #[.ref l, .int 0 0]}).push
   {cls:= .type "enumerate",data:= .fields #[.none, .bool ag, .ref s.heap.objs.size,f9 1, .none, .none]}) (s.heap.objs.size+1) s.heap.objs.size 1 .none:=by
  have:=bc (s.heap.push {cls:= .type "list_iterator",data:= .fields #[.ref l, .int 0 0]})
   (o:={cls:= .type "enumerate",data:= .fields #[.none, .bool ag, .ref s.heap.objs.size,f9 1, .none, .none]}) Z
  rw[f] at this;exact this
 refine⟨⟨_,i,Z⟩,h _ i ⟨_,aJ _ (bc _ Z),Z,Z⟩ (by rw[cG,f]) fun b o x=>aJ _ (aJ _ x)⟩
end
section
theorem yB
  (h:bL M A (spliced (gA pos (bV (e::rest) env))) (fun vs b=>bL M A (evalAll ((lU pos (iG kws env)).map (·.2)))
   (fun i d=>bL M A (call (.type T) vs (((lU pos (iG kws env)).filterMap (·.1)).zip i)) Q E d) E b) E s)
  (f:gA pos (bV (e::rest) env)=(ag,eval e env)::gA pos (bV rest env))
  (g:(gA pos (bV (e::rest) env)).any (·.1)=ag)
  (j:(lU pos (iG kws env)).all (·.1.isSome)=af)
  (c:(lU pos (iG kws env)).any (·.1.isNone)=ag):
  bL M A (callWith pos (.type T) [] (gA pos (bV (e::rest) env)) (lU pos (iG kws env))) Q E s:=by
 rw[f] at h⊢
 refine aF (d4 (gZ (PyProof.Rows.evalArgs_kwB (Q:=fun a b=>bL M A (call (.type T) ([]++a.pos) a.kw) Q E b) j h) (fun a b k=>aF (zo ?_)) fun _ _ x=>x))
 rw[f] at g
 simp only[g,c,YW]
 exact aF (aU (aF (gZ k (fun r d l=>aF (d4 (wpAny_point (aU l)))) fun _ _ x=>x)))
end
end
section
open PyProof.Rows L2
section
theorem Er
  (j:Fx s.heap e it c old) (n:s.heap.IsListIter it l i) (hl:s.heap.IsList l items) (T:items[i]? =aa x) (h:e≠it)
  (U:∀h',IsEnumOut h' e it (c+1) x s.heap.objs.size->h'.IsListIter it l (i+1)->h'.get? s.heap.objs.size=aa {cls:= .type "tuple",data:= .seq #[.int c s.toks,x]}->
   (∀b o,b≠e->b≠it->s.heap.get? b=aa o->h'.get? b=aa o)->Q (aa (.ref s.heap.objs.size)) {s with heap:=h',toks:=s.toks+1}):
  bL (model prog w) A (pyNext (.ref e)) Q E s:=by
 have I:s.TypeIs (.ref e) "enumerate":=⟨_,j,Z⟩
 have key:bL (model prog w) A.in1 (Builtin.«enumerate.__next__» ⟨[.ref e],[]⟩) (fun fin J=>∃v,fin= .done (.ret v)/\Q (aa v) J) (fun _ _=>False) s:=by
  obtain⟨p,g,d,tk,os⟩:=s
  have lt:=bD j
  refine aF (m:=field (.ref e) 2) (fM j Z rfl (aF (R5 n hl T fun h1 r t=> ?_)))
  have u:=(t.2 e h).trans j
  refine aF (fM u Z rfl (aF (fM u Z rfl (aF (wpAny_mkInt (aF (fz u (by simp) fun K V (y:d6 e h1 K)=>aF (fz V (by simp) fun a W (B:d6 e K a)=> ?_))))))))
  have L:a.objs.size=p.objs.size:=by rw[B.1,y.1,t.1]
  refine aF (Kl ?_)
  have k:Fx (a.push {cls:= .type "tuple",data:= .seq #[.int c tk,x]}) e it (c+1) old:=aJ _ W
  have M:(a.push {cls:= .type "tuple",data:= .seq #[.int c tk,x]}).get? p.objs.size=aa {cls:= .type "tuple",data:= .seq #[.int c tk,x]}:=by rw[<-L];exact bc _ Z
  have N:∀b o,b≠e->b≠it->p.get? b=aa o->(a.push {cls:= .type "tuple",data:= .seq #[.int c tk,x]}).get? b=aa o:=fun b o f C q=>
   aJ _ (B.extBut b o f (y.extBut b o f (t.extBut b o C q)))
  have O:(a.push {cls:= .type "tuple",data:= .seq #[.int c tk,x]}).IsListIter it l (i+1):=((r.extBut y.extBut (bF h)).extBut B.extBut (bF h)).at fun o q=>aJ _ q
  rw[L]
  generalize a.push {cls:= .type "tuple",data:= .seq #[.int c tk,x]}=h4 at k M N O
  refine aF (aF (fM k Z rfl (aU ?_)))
  dsimp only[if_true]
  refine aF (u6 (aF (fM k Z (x:=old) Z (aF (fz k (by simp) fun P (X:Fx P e it (c+1) x) D=>aF (aF (fz X (by simp) fun R Y (F:d6 e P R)=>fz Y (by simp) fun S e7 (G:d6 e R S)=> ?_)))))))
  refine aF (my (aU ⟨_,Z,U S e7 ?_ ?_ ?_⟩))
  .exact((O.extBut D.extBut (bF h)).extBut F.extBut (bF h)).extBut G.extBut (bF h)
  .exact G.extBut _ _ (gN lt) (F.extBut _ _ (gN lt) (D.extBut _ _ (gN lt) M))
  .exact fun b o f C q=>G.extBut b o f (F.extBut b o f (D.extBut b o f (N b o f C q)))
 refine aF (kz (eF I jT (eE jT I yW ?_ (yq _))))
 exact gZ key (by rintro fin J ⟨v,ev,q⟩;exact⟨v,ev,aU q⟩) fun _ _ z=>z.elim
theorem GX(hh:A.handled=ae)
  (b:Fx s.heap e it c old) (a:s.heap.IsListIter it l i) (hl:s.heap.IsList l items) (g:items[i]? =ae)
  (h:∀h',uj it s.heap h'->Q ae {s with heap:=h'}):bL (model prog w) A (pyNext (.ref e)) Q E s:=by
 have f:s.TypeIs (.ref e) "enumerate":=⟨_,b,Z⟩
 refine aF (kz (eF f jT (eE jT f yW ?_ (yq _))))
 exact aF (m:=field (.ref e) 2) (fM b Z rfl (aF (SI hh a hl g (by rintro h' x j ⟨o,ho,k⟩;exact aF (lq ⟨o,ho,k⟩ xK (aU (h _ j)))))))
end
def Itf(K:aM)(a:Addr):It:=
 ⟨fun i H=>∃xs x,jD K H a xs/\xs[i]? =aa x,fun i H v H'=>∃T x,v= .ref T/\H T=ae/\H'=upd H T (.tup [.int ((i+1:Nat)),x])/\∀xs,jD K H a xs->xs[i]? =aa x,fun i H=>∃xs,jD K H a xs/\xs.length<=i⟩
theorem Jm{K:aM}(a e d:Addr):
  Turn P w K (.Tuple elts kk D_) (Itf K a) [e,d] e (fun i h=>(∃c,Fx h e d ((i+1:Nat):Int) c)/\h.IsListIter d a i/\e≠d) where
 mem:=by simp
 obj:=fun i h st b g=>by
  obtain⟨⟨c,f⟩,⟨o,ho,r,hd⟩,_⟩:=st
  have t:b=e\/b=d:=by simpa using g
  rcases t with z|z
  .rw[z];exact⟨_,f,fun v q=>nomatch q⟩
  .rw[z];exact⟨o,ho,fun v q=>by rw[hd] at q;cases q⟩
 keep:=fun i h h' st k=>let ⟨⟨c,f⟩,hi,l⟩:=st;⟨⟨c,k e (by simp) _ f⟩,hi.at fun o q=>k d (by simp) o q,l⟩
 item:=by
  intro X y hw B r i G s J H E I m st hg
  subst y hw B
  obtain⟨⟨c,f⟩,j,l⟩:=st
  obtain⟨xs,x,n,C⟩:=hg
  obtain⟨its,D,p,N⟩:=I.list n
  obtain⟨u,O,R⟩:=D.get C
  have S:=bD f
  have BN:d<s.heap.objs.size:=by obtain⟨_,q,_⟩:=j;exact bD q
  refine Er f j p.isList (by simpa using O) l fun h' ho T U hk=>⟨_,Z,Kh ho fun L Sh F=> ?_⟩
  have new:ie X.prog X.w (upd H s.heap.objs.size (.tup [.int ((i+1:Nat):Int),x])) L s.heap.objs.size (.tup [.int ((i+1:Nat):Int),x]):=
   ⟨zl,[.int ((i+1:Nat)) s.toks,u], .cons ⟨_,Z⟩ (.cons R .nil),⟨_,(F.2 _ (gN S)).trans U,Z,_,Z⟩⟩
  have V:Inv X G J (upd H s.heap.objs.size (.tup [.int ((i+1:Nat):Int),x])) {s with heap:=L,toks:=s.toks+1}:=
   I.w6 (fun b W g q=>(F.2 b (fun z=>g (by simp[z]))).trans (hk b W (fun z=>g (by simp[z])) (fun z=>g (by simp[z])) q)) m (aQ _) new
  refine⟨.ref s.heap.objs.size,_,V,Z,⟨_,x,Z,I.gT.fresh (aQ _),Z,fun ys Y=>by rw[I.vm Y n];exact C⟩,⟨⟨u,?_⟩,T.at fun o q=>(F.2 d (bF l)).trans q,l⟩,fun b g=> ?_⟩
  .assumption
  .have F9:b<s.heap.objs.size:=by
    have t:b=e\/b=d:=by simp_all
    rcases t with z|z
    .simp_all
    simp_all
   exact(aL (b9 F9))▸((m b g).1)
 done:=by
  intro X y hw B r i G s J H E I m st hg
  subst y hw B
  obtain⟨⟨c,f⟩,j,l⟩:=st
  obtain⟨xs,n,C⟩:=hg
  obtain⟨its,D,p,N⟩:=I.list n
  obtain⟨f0,f1,f2,f3,f4,f5⟩:=m d (by simp)
  have hl:=D.length
  exact GX (I.ok.hd r) f j p.isList (by simp;lia) fun h' eb=>⟨Z,I.turned (t':=s.toks) (fun b o g q=>eb b o g q) f0 f1 f3 f4 f5⟩
 self:=fun A i s Q E st h=>let ⟨⟨_,f⟩,_⟩:=st;rC f h
inductive KZ K(R:It->Hp->Prop)(vs:List V) H1:Prop|mk:∀a xs,(vs=[.ref a])->(jD K H1 a xs)->(R (Itf K a) H1)->KZ K R vs H1
def XO(K:aM)(a:TA):TI:=fun b H R=>a b H fun vs c=>KZ K R vs c
theorem GY(hg:Gl X "enumerate")(l:X.mg "enumerate"=ae)(m:PA X [e] ta)
  (n:∀c,gA c (bV [e] X.env)=(ag,eval e X.env)::gA c (bV [] X.env):=by intro _;rfl) (o:(gA c (bV [e] X.env)).any (·.1)=false:=by rfl):
  PI X (.Tuple elts kk D_) (.Call (.Name "enumerate" p) [e] [⟨aa "start", .Constant (.int 1) k cp,kp⟩] c) (XO X.K ta):=by
 intro t s u H R I h
 refine dM (kE I hg l boot_enumerate (yB (fX (m c t s u H _ I h) fun C d ⟨vs,v,g,w,x⟩=> ?_) (n c) o Z rfl))
 obtain⟨a,xs,ex,y,q⟩:=x
 subst ex
 refine kws_cons (Bm (kws_nil ?_))
 cases w with
 |cons r rr=>
  cases rr
  subst r
  obtain⟨its,D,A,E⟩:=(g.tok (d.toks+1)).list y
  refine Jl A.isList fun h' j i hsz hk=>rC j ?_
  refine⟨d.heap.objs.size+1,[d.heap.objs.size+1,d.heap.objs.size],_,_,v,Z,g.kept (t':=d.toks+1) hk,Jm a (d.heap.objs.size+1) d.heap.objs.size,⟨⟨.none,j⟩,i,UX _⟩,fun b B=> ?_,q⟩
  have f:d.heap.objs.size<=b:=by
   rcases(by simpa using B) with z|z
   .simp_all
   simp_all
  exact g.IH f (g.gT.fresh f)
theorem C_{K:aM}{g:TG}{tb:TS}{D:Ends}(c:Nat->L2.St->Hp->Prop)(k:c 0 b H)(hl:∀i b H,i<=xs.length->c i b H->jD K H a xs)
  (hs:∀i x b H T,xs[i]? =aa x->c i b H->H T=ae->g (.ref T) b (upd H T (.tup [.int ((i+1:Nat):Int),x])) fun d f=>tb {D with nx:=c (i+1),ct:=c (i+1),bk:=D.nx} d f) (hd:∀b H,c xs.length b H->D.nx b H):
  ∃W:Nat->Nat->L2.St->Hp->Prop,(∃m,W 0 m b H)/\∀i m b H,W i m b H->
   ((Itf K a).stop i H/\D.nx b H)\/((Itf K a).go i H/\∃N:L2.St->Hp->Prop,(∀h H',N h H'->∃j,j<m/\W (i+1) j h H')/\∀x H',(Itf K a).Mf i H x H'->g x b H' fun d f=>tb {D with nx:=N,ct:=N,bk:=D.nx} d f):=by
 refine⟨fun i m b H=>m=xs.length-i/\i<=xs.length/\c i b H,⟨xs.length,Z,cg _,k⟩,?_⟩
 rintro i m b H ⟨rfl,l,p⟩
 have q:=hl i b H l p
 by_cases n:i<xs.length
 .refine .inr ⟨⟨xs,xs[i],q,aP n⟩,c (i+1),fun h H' o=>⟨xs.length-(i+1),by lia,Z,by assumption,o⟩,?_⟩
  rintro x H' ⟨T,y,rfl,r,rfl,s⟩
  exact hs i y b H T (s xs q) p r
 .have e:i=xs.length:=by lia
  subst e
  exact .inl ⟨⟨xs,q,aQ _⟩,hd b H p⟩
end
section
open PyProof.Rows L2
section
theorem Jn(a:s.heap.IsTupleIter it t i)(c:s.heap.IsTuple t items)(d:items[i]? =aa x)
  (e:∀h',h'.IsTupleIter it t (i+1)->d6 it s.heap h'->Q x {s with heap:=h'}):bL (model prog w) A (SJ (.ref it)) Q E s:=by
 obtain⟨o,ho,f,hd⟩:=id a
 obtain⟨ol,g,_,k,h⟩:=c
 refine aF (eF a.typeIs wx (eE wx a.typeIs PySem.F.entry_tuple_iterator_next ?_ (PySem.F.args_tuple_iterator_next_1 _)))
 refine aF (m:=field (.ref it) 0) (fM ho hd (x:= .ref t) Z ?_)
 have j:¬((bj.ref t==bj.none)=af):=fQ
 dsimp only[ak j]
 refine aF (fM ho hd Z (aF (eY g h ?_)))
 simp only[dw,d]
 refine aF (k_ ho hd (by simp) (aU ⟨x,Z,aU (e _ ⟨_,dc _ ho (j9 (d0 hd _)),(qd ..).trans f,?_⟩ (d6.update ..))⟩))
 rw[d0 hd]
 rfl
theorem oH(x:h.IsTupleIter it t i)(k:uj b h h')(ne:it≠b):h'.IsTupleIter it t i:=x.at fun o e=>k it o ne e
theorem Es(x:h.IsTuple t items)(k:uj b h h')(ne:t≠b):h'.IsTuple t items:=x.at fun o e=>k t o ne e
theorem MF{z TI TO k g p q:Addr}(D:ZipApart z TI TO k g p q)
  (h:Cs s.heap z TI TO .none) (S:me s.heap TI (.ref k) (.ref g)) (T:me s.heap TO a b) (h1:s.heap.IsListIter k p k1) (U:s.heap.IsTupleIter g q k2) (V:s.heap.IsList p xs) (W:s.heap.IsTuple q ys)
  (X:xs[k1]? =aa x) (Y:ys[k2]? =aa y)
  (hQ:∀h',Cs h' z TI TO (f9 s.heap.objs.size)->me h' TO x y->h'.IsListIter k p (k1+1)->h'.IsTupleIter g q (k2+1)->me h' s.heap.objs.size x y->
   (∀c o,c≠z->c≠TO->c≠k->c≠g->s.heap.get? c=aa o->h'.get? c=aa o)->Q (aa (.ref s.heap.objs.size)) {s with heap:=h'}):
  bL (model prog w) A (pyNext (.ref z)) Q E s:=by
 have F:s.TypeIs (.ref z) "zip":=⟨_,h,Z⟩
 refine aF (kz (eF F l4 (eE l4 F FA ?_ (DV _))))
 refine aF (m:=field (.ref z) 2) (fM h Z (x:= .bool ag) Z (aF (fM h Z rfl (aF (eY S Z (aF (aF (fM h Z rfl (aU ?_)))))))))
 dsimp only[if_true]
 refine aF (u6 (aF (fM h Z rfl (aF (fz h (by simp) fun g1 z1 d=>aF ?_)))))
 dsimp only[SK,U4,Bw,DS]
 refine aF (aF (NA (aF (R5 (h1.extBut d.extBut D.i1z) (V.extBut d.extBut D.l1z) X fun g2 j1 i=>aU ?_))))
 have G:=i.extBut _ _ D.TOi1 (d.extBut _ _ D.TOz T)
 refine aF (eY G Z (aF (U5 G fun H o3 (j:d6 TO g2 H)=>aF (my (aU ?_)))))
 refine aF (aF (NA (aF (Jn (oH (oH (oH U d.extBut D.i2z) i.extBut D.i12.symm) j.extBut D.TOi2.symm) (Es (Es (Es W d.extBut D.l2z) i.extBut D.l2i1) j.extBut D.l2TO) Y fun I j3 (l:d6 g H I)=>aU ?_))))
 have J:=l.extBut _ _ D.TOi2 o3
 refine aF (eY J Z (aF (U5 J fun f (K:me f TO x y) (n:d6 TO I f)=>aF (my (aU (aU (aF (eY K Z (aF (Kl ?_))))))))))
 have sz:f.objs.size=s.heap.objs.size:=by rw[n.1,l.1,j.1,i.1,d.1]
 have L:=n.extBut _ _ D.TOz.symm (l.extBut _ _ D.i2z.symm (j.extBut _ _ D.TOz.symm (i.extBut _ _ D.i1z.symm z1)))
 have M:=bD L
 refine aF ?_
 have z6:Cs (f.push {cls:= .type "tuple",data:= .seq #[x,y]}) z TI TO .ellipsis:=aJ _ L
 refine aF (fz z6 (by simp) fun g7 (z7:Cs g7 z TI TO (f9 f.objs.size)) N=>fz z7 (by simp) fun u (O:Cs u z TI TO (f9 f.objs.size)) P=> ?_)
 have r:∀c o,c≠z->f.get? c=aa o->u.get? c=aa o:=fun c o c1 e=>P.extBut _ _ c1 (N.extBut _ _ c1 (aJ _ e))
 have R:=P.extBut _ _ (gN M) (N.extBut _ _ (gN M) (bc _ Z))
 rw[sz] at O R
 refine aU ⟨_,Z,aU ?_⟩
 rw[sz]
 exact hQ u O (r _ _ D.TOz K) ((((j1.extBut j.extBut D.TOi1.symm).extBut l.extBut D.i12).extBut n.extBut D.TOi1.symm).at fun o e=>r _ o D.i1z e) ((oH j3 n.extBut D.TOi2.symm).at fun o e=>r _ o D.i2z e) R fun c o c1 t v B e=>r c o c1 ((fun c o c1 t v B e=>n.extBut _ _ t (l.extBut _ _ B (j.extBut _ _ t (i.extBut _ _ v (d.extBut _ _ c1 e))))) c o c1 t v B e)
theorem Pp{z TI TO f g h r:Addr}(hh:A.handled=ae)(D:ZipApart z TI TO f g h r)
  (d:Cs s.heap z TI TO .none) (t:me s.heap TI (.ref f) (.ref g)) (I:me s.heap TO a b) (h1:s.heap.IsListIter f h k1) (u:s.heap.IsList h xs) (v:xs[k1]? =ae)
  (y:∀h',(∀c o,c≠z->c≠TO->c≠f->c≠g->s.heap.get? c=aa o->h'.get? c=aa o)->Q ae {s with heap:=h'}):bL (model prog w) A (pyNext (.ref z)) Q E s:=by
 have n:s.TypeIs (.ref z) "zip":=⟨_,d,Z⟩
 refine aF (kz (eF n l4 (eE l4 n FA ?_ (DV _))))
 refine aF (m:=field (.ref z) 2) (fM d Z (x:= .bool ag) Z (aF (fM d Z rfl (aF (eY t Z (aF (aF (fM d Z rfl (aU ?_)))))))))
 dsimp only[if_true]
 refine aF (u6 (aF (fM d Z rfl (aF (fz d (by simp) fun J B i=>aF ?_)))))
 dsimp only[SK,U4,Bw,DS]
 refine aF (aF (NA (aF (SI hh (h1.extBut i.extBut D.i1z) (u.extBut i.extBut D.l1z) v ?_))))
 rintro C e p ⟨F,j,k⟩
 have G:Cs C z TI TO .ellipsis:=p _ _ D.i1z.symm B
 exact fz G (by simp) fun K _ q=>aF (lq ⟨F,q.extBut _ _ (fun x=>by lia) j,k⟩ xK (aU (y _ fun c o c1 _ H _ x=>q.extBut _ _ c1 (p _ _ H (i.extBut _ _ c1 x)))))
end
section
theorem acG{h:Heap}{R:Addr->Heap->Prop}(t:o1.isFreed=false:=by rfl)(u:o2.isFreed=false:=by rfl)
  (k:∀h':Heap,h'.objs.size=h.objs.size+5->h'.get? h.objs.size=aa o1->h'.get? (h.objs.size+1)=aa o2->me h' (h.objs.size+2) (.ref h.objs.size) (.ref (h.objs.size+1))->
   me h' (h.objs.size+3) .none .none->Cs h' (h.objs.size+4) (h.objs.size+2) (h.objs.size+3) .none->(∀c o,h.get? c=aa o->h'.get? c=aa o)->R (h.objs.size+4) h'):
  R (((((h.push o1).push o2).push {cls:= .type "tuple",data:= .seq #[.ref h.objs.size, .ref (h.push o1).objs.size]}).push {cls:= .type "tuple",data:= .seq #[.none, .none]}).objs.size)
   (((((h.push o1).push o2).push {cls:= .type "tuple",data:= .seq #[.ref h.objs.size, .ref (h.push o1).objs.size]}).push {cls:= .type "tuple",data:= .seq #[.none, .none]}).push
    {cls:= .type "zip",data:= .fields #[.none, .bool ag, .bool ag, .ref ((h.push o1).push o2).objs.size, .ref (((h.push o1).push o2).push {cls:= .type "tuple",data:= .seq #[.ref h.objs.size, .ref (h.push o1).objs.size]}).objs.size]}):=by
 have m:(h.push o1).objs.size=h.objs.size+1:=cG ..
 have g:((h.push o1).push o2).objs.size=h.objs.size+2:=by rw[cG,m]
 have n:((h.push o1).push o2).get? (h.objs.size+1)=aa o2:=by rw[<-m];exact bc _ u
 have p:∀c o,h.get? c=aa o->((h.push o1).push o2).get? c=aa o:=fun c o e=>aJ _ (aJ _ e)
 have d:=aJ o2 (bc _ t:(h.push o1).get? h.objs.size=aa o1)
 rw[m]
 generalize (h.push o1).push o2=a at g n p d
 have i:(a.push {cls:= .type "tuple",data:= .seq #[.ref h.objs.size, .ref (h.objs.size+1)]}).objs.size=h.objs.size+3:=by rw[cG,g]
 have q:me (a.push {cls:= .type "tuple",data:= .seq #[.ref h.objs.size, .ref (h.objs.size+1)]}) (h.objs.size+2) (.ref h.objs.size) (.ref (h.objs.size+1)):=by
  have:=bc a (o:={cls:= .type "tuple",data:= .seq #[.ref h.objs.size, .ref (h.objs.size+1)]}) Z
  rw[g] at this;exact this
 have j:∀c o,a.get? c=aa o->(a.push {cls:= .type "tuple",data:= .seq #[.ref h.objs.size, .ref (h.objs.size+1)]}).get? c=aa o:=fun c o e=>aJ _ e
 rw[g]
 generalize a.push {cls:= .type "tuple",data:= .seq #[.ref h.objs.size, .ref (h.objs.size+1)]}=b at i q j
 have l:(b.push {cls:= .type "tuple",data:= .seq #[.none, .none]}).objs.size=h.objs.size+4:=by rw[cG,i]
 have r:me (b.push {cls:= .type "tuple",data:= .seq #[.none, .none]}) (h.objs.size+3) .none .none:=by
  have:=bc b (o:={cls:= .type "tuple",data:= .seq #[.none, .none]}) Z
  rw[i] at this;exact this
 have f:∀c o,b.get? c=aa o->(b.push {cls:= .type "tuple",data:= .seq #[.none, .none]}).get? c=aa o:=fun c o e=>aJ _ e
 rw[i]
 generalize b.push {cls:= .type "tuple",data:= .seq #[.none, .none]}=v at l r f
 have s:=bc v (o:={cls:= .type "zip",data:= .fields #[.none, .bool ag, .bool ag, .ref (h.objs.size+2), .ref (h.objs.size+3)]}) Z
 rw[l] at s
 rw[l]
 exact k _ (by rw[cG,l]) (aJ _ (f _ _ (j _ _ d))) (aJ _ (f _ _ (j _ _ n))) (aJ _ (f _ _ q)) (aJ _ r) s fun c o e=>aJ _ (f _ _ (j _ _ (p c o e)))
theorem Jp(b e:Addr)(xs ys:Array bj):
  Zv (Builtin.«zip.__new__» ⟨[.type "zip", .ref b, .ref e],[]⟩) (fun _ R s=>s.heap.IsList b xs/\s.heap.IsTuple e ys/\∀h',Cs h' (s.heap.objs.size+4) (s.heap.objs.size+2) (s.heap.objs.size+3) .none->
   me h' (s.heap.objs.size+2) (.ref s.heap.objs.size) (.ref (s.heap.objs.size+1))->me h' (s.heap.objs.size+3) .none .none->h'.IsListIter s.heap.objs.size b 0->h'.IsTupleIter (s.heap.objs.size+1) e 0->
   (∀c o,s.heap.get? c=aa o->h'.get? c=aa o)->R (.ok (.ret (.ref (s.heap.objs.size+4)))) {s with heap:=h'}):=
 .of_wp fun prog w A R s h=>by
  obtain⟨i,g,d,tk,os⟩:=s;obtain⟨j,l,h⟩:=h
  have u:=sub_zip
  have m:Heap.IsTuple (YV ⟨i.push {cls:= .type "list_iterator",data:= .fields #[.ref b, .int 0 0]},g,d,tk,os⟩) e ys:=Heap.IsTuple.push l _
  wp_walk using jn j,YU m
  exact⟨_,Z,acG (R:=fun a h'=>R (.ok (.ret (.ref a))) ⟨h',g,d,tk,os⟩) Z rfl fun h' v n p q r t k=>h h' t q r ⟨_,n,Z,Z⟩ ⟨_,p,Z,Z⟩ k⟩
theorem MH(d:s.heap.IsList l1 xs)(e:s.heap.IsTuple l2 ys)
  (h:∀h',Cs h' (s.heap.objs.size+4) (s.heap.objs.size+2) (s.heap.objs.size+3) .none->me h' (s.heap.objs.size+2) (.ref s.heap.objs.size) (.ref (s.heap.objs.size+1))->me h' (s.heap.objs.size+3) .none .none->
   h'.IsListIter s.heap.objs.size l1 0->h'.IsTupleIter (s.heap.objs.size+1) l2 0->(∀c o,s.heap.get? c=aa o->h'.get? c=aa o)->Q (.ref (s.heap.objs.size+4)) {s with heap:=h'}):
  bL (model prog w) A (call (.type "zip") [.ref l1, .ref l2]) Q E s:=by
 refine callType_new PySem.F.called_zip Z (PySem.F.typeCall_zip_2 _ _) (PySem.F.newCall_zip_2 _ _) (fun obj=>PySem.F.args_object_init_3 obj _ _) PySem.F.entry_zip_new (Jp l1 l2 xs ys) ⟨d,e,fun h' b f g i j k=> ?_⟩
 exact⟨⟨_,b,Z⟩,h h' b f g i j k⟩
end
def Pq(K:aM)(a b:Addr):It:=
 ⟨fun i H=>∃xs ys x y,jD K H a xs/\oW K H b ys/\xs[i]? =aa x/\ys[i]? =aa y,
  fun i H v H'=>∃T x y,v= .ref T/\H T=ae/\H'=upd H T (.tup [x,y])/\(∀xs,jD K H a xs->xs[i]? =aa x)/\∀ys,oW K H b ys->ys[i]? =aa y,
  fun i H=>∃xs,jD K H a xs/\xs.length<=i⟩
theorem MI{K:aM}{a b z TI TO m n:Addr}(D:ZipApart z TI TO m n a b):
  Turn P w K (.Tuple elts kk D_) (Pq K a b) [z,TI,TO,m,n] z (fun i h=>Cs h z TI TO .none/\me h TI (.ref m) (.ref n)/\(∃x y,me h TO x y)/\h.IsListIter m a i/\h.IsTupleIter n b i) where
 mem:=by simp
 obj:=fun i h st c G=>by
  obtain⟨g,f,⟨x,y,j⟩,⟨o1,J,_,d1⟩,⟨o2,L,_,d2⟩⟩:=st
  have M:c=z\/c=TI\/c=TO\/c=m\/c=n:=by simp_all
  rcases M with q|q|q|q|q
  .rw[q];exact⟨_,g,fun v q=>nomatch q⟩
  .rw[q];exact⟨_,f,fun v q=>nomatch q⟩
  .rw[q];exact⟨_,j,fun v q=>nomatch q⟩
  .rw[q];exact⟨o1,J,fun v q=>by rw[d1] at q;cases q⟩
  .rw[q];exact⟨o2,L,fun v q=>by rw[d2] at q;cases q⟩
 keep:=fun i h h' st k=>by
  obtain⟨g,f,⟨x,y,j⟩,h1,t⟩:=st
  exact⟨k z (by simp) _ g,k TI (by simp) _ f,⟨x,y,k TO (by simp) _ j⟩,h1.at fun o q=>k m (by simp) o q,t.at fun o q=>k n (by simp) o q⟩
 item:=by
  intro X N hw O G i pz s σ H E I C st hg
  subst N hw O
  obtain⟨g,f,⟨x0,y0,j⟩,h1,t⟩:=st
  obtain⟨xs,ys,x,y,F,B,hx,hy⟩:=hg
  obtain⟨its,R,p,_⟩:=I.list F
  obtain⟨wU,S,p2,_⟩:=I.tuple B
  obtain⟨u,hu,ru⟩:=R.get hx
  obtain⟨u2,T,U⟩:=S.get hy
  have Sm:=bD g
  refine MF D g f j h1 t p.isList p2 (by simpa using hu) (by simpa using T) fun h' z' V Sn W hT hk=>⟨_,Z,wpAny_letOwnedTupleGo_zip z' fun Td Y r=> ?_⟩
  have new:ie X.prog X.w (upd H s.heap.objs.size (.tup [x,y])) Td s.heap.objs.size (.tup [x,y]):=
   ⟨zl,[u,u2], .cons ru (.cons U .nil),⟨_,(r.2 _ (gN Sm)).trans hT,Z,_,Z⟩⟩
  have I1:=
   I.w6 (t':=s.toks) (fun c o e q=>(r.2 c (fun d=>e (by simp[d]))).trans (hk c o (fun d=>e (by simp[d])) (fun d=>e (by simp[d])) (fun d=>e (by simp[d])) (fun d=>e (by simp[d])) q)) C (aQ _) new
  refine⟨.ref s.heap.objs.size,_,I1,Z,⟨_,x,y,Z,I.gT.fresh (aQ _),Z,fun l hl=>by rw[I.vm hl F];exact hx,fun l hl=>by rw[I.Md hl B];exact hy⟩,⟨Y,?_,⟨u,u2,?_⟩,?_,?_⟩,fun c hcm=> ?_⟩
  .exact(r.2 _ D.TIz).trans (hk _ _ D.TIz D.TITO D.TIi1 D.TIi2 f)
  .exact(r.2 _ D.TOz).trans V
  .exact Sn.at fun o q=>(r.2 _ D.i1z).trans q
  .exact W.at fun o q=>(r.2 _ D.i2z).trans q
  .have gm:c<s.heap.objs.size:=by
    have M:c=z\/c=TI\/c=TO\/c=m\/c=n:=by simp_all
    rcases M with q|q|q|q|q
    .simp_all
    .rw[q];exact bD f
    .rw[q];exact bD j
    .rw[q];obtain⟨_,J,_⟩:=h1;exact bD J
    .rw[q];obtain⟨_,L,_⟩:=t;exact bD L
   exact(aL (b9 gm))▸((C c hcm).1)
 done:=by
  intro X N hw O G i pz s σ H E I C st hg
  subst N hw O
  obtain⟨g,f,⟨x0,y0,j⟩,h1,t⟩:=st
  obtain⟨xs,F,Jg⟩:=hg
  obtain⟨its,R,p,_⟩:=I.list F
  have l1:=R.length
  exact Pp (I.ok.hd G) D g f j h1 p.isList (by simp;lia) fun h' hk=>⟨Z,I.Tg (t':=s.toks) (fun c o e q=>
   hk c o (fun d=>e (by simp[d])) (fun d=>e (by simp[d])) (fun d=>e (by simp[d])) (fun d=>e (by simp[d])) q) C⟩
 self:=fun A i s Q E st h=>wpAny_pyIter_zip st.1 h
inductive Pr K(R:It->Hp->Prop)(vs:List V) H1:Prop|mk:∀a b xs ys,(vs=[.ref a, .ref b])->(jD K H1 a xs)->(oW K H1 b ys)->(R (Pq K a b) H1)->Pr K R vs H1
def aaJ(K:aM)(a:TA):TI:=fun b H R=>a b H fun vs c=>Pr K R vs c
theorem TH(hg:Gl X "zip")(m:X.mg "zip"=ae)(n:PA X [e,e2] ta)
  (hs:bV [e,e2] X.env=(ag,eval e X.env)::bV [e2] X.env:=by rfl) (o:(gA pos (bV [e2] X.env)).any (·.1)=false:=by rfl):
  PI X (.Tuple elts kk D_) (.Call (.Name "zip" p) [e,e2] [] pos) (aaJ X.K ta):=by
 intro t s u H R I h
 refine NZ (kE I hg m Mt (cU (fX (n pos t s u H _ I h) fun J d ⟨vs,v,f,w,x⟩=> ?_) hs o))
 obtain⟨a,b,xs,ys,ex,y,i,q⟩:=x
 subst ex
 cases w with
 |cons r rr=>
  cases rr with
  |cons A rr=>
   cases rr
   subst r
   subst A
   obtain⟨its,K,j,_⟩:=f.list y
   obtain⟨L,B,k,_⟩:=f.tuple i
   refine MH j.isList k fun h' l C D h1 E hk=>wpAny_pyIter_zip l ?_
   refine⟨d.heap.objs.size+4,[d.heap.objs.size+4,d.heap.objs.size+2,d.heap.objs.size+3,d.heap.objs.size,d.heap.objs.size+1],_,_,v,Z,f.kept (t':=d.toks) hk,MI (PySem.W.ktu_apart d.heap.objs.size a b j.lt k.lt),⟨l,C,⟨_,_,D⟩,h1,E⟩,fun c F=> ?_,q⟩
   have G:c=d.heap.objs.size+4\/c=d.heap.objs.size+2\/c=d.heap.objs.size+3\/c=d.heap.objs.size\/c=d.heap.objs.size+1:=by simp_all
   have g:d.heap.objs.size<=c:=by
    rcases G with z|z|z|z|z
    .simp_all
    .simp_all
    .simp_all
    .simp_all
    simp_all
   exact f.IH g (f.gT.fresh g)
theorem TJ{K:aM}{g:TG}{tt:TT}{o:TE}{q:Hp->Prop}(d:Nat->Hp->Prop)(t:d 0 (upd H1 D (.lst [])))(w:xs.length=ys.length)
  (hl:∀i H,i<=xs.length->d i H->jD K H a xs/\oW K H b ys)
  (hs:∀i x y T H,xs[i]? =aa x->ys[i]? =aa y->H T=ae->d i H->g (.ref T) (wipe σ vs) (upd H T (.tup [x,y])) fun f k=>wipe f vs=wipe σ vs/\tt f k fun b h=>
   if b=af then o f h fun y j=>∃c,j D=aa (.lst c)/\c.length<br/\d (i+1) (upd j D (.lst (c++[y]))) else d (i+1) h) (hd:∀H,d xs.length H->q H):
  ∃W:Nat->Nat->Hp->Prop,(∃m,W 0 m (upd H1 D (.lst [])))/\∀i m H,W i m H->
   ((Pq K a b).stop i H/\q H)\/((Pq K a b).go i H/\∃l:Hp->Prop,(∀H',l H'->∃r,r<m/\W (i+1) r H')/\∀x H',(Pq K a b).Mf i H x H'->g x (wipe σ vs) H' fun f k=>wipe f vs=wipe σ vs/\tt f k fun b h=>
    if b=af then o f h fun y j=>∃c,j D=aa (.lst c)/\c.length<br/\l (upd j D (.lst (c++[y]))) else l h):=by
 refine⟨fun i m H=>m=xs.length-i/\i<=xs.length/\d i H,⟨xs.length,Z,cg _,t⟩,?_⟩
 rintro i m H ⟨rfl,z,p⟩
 obtain⟨n,s⟩:=hl i H z p
 by_cases A:i<xs.length
 .refine .inr ⟨⟨xs,ys,xs[i],ys[i]'(by lia),n,s,aP A,aP (by lia)⟩,d (i+1),fun H' B=>⟨xs.length-(i+1),by lia,Z,by assumption,B⟩,?_⟩
  rintro x H' ⟨T,u,v,rfl,C,rfl,E,hv⟩
  exact hs i u v T H (E xs n) (hv ys s) C p
 .have e:i=xs.length:=by lia
  subst e
  exact .inl ⟨⟨xs,n,aQ _⟩,hd H p⟩
end
section
open PyProof.Rows L2
section
theorem Pu{vs its:List bj}
  (hk:env.scope.kind= .function) (c:env.kindOf "joins"=aa .free) (d:env.cells.lookup ("joins":Str)=aa cj) (e:s.heap.IsCell cj (aa (.ref lj)))
  (f:env.kindOf "number"=aa .local) (hn:s.heap.Ns env.locals m) (g:m "number"=aa (.int n t)) (hl:s.heap.IsList lj vs.toArray) (h:0<=n) (i:n<2^63) (l:vs[n.toNat]? =aa (.ref tb))
  (o:IsTup s.heap tb its.toArray) (b:0<its.length) (a:its[0]? =aa (.int k tk)) (p:Q (.int k tk) {s with toks:=s.toks+1}):
  bL (model prog w) A (eval (.Subscript (.Subscript (.Name "joins" p1) (.Name "number" p2) p3) (.Constant (.int 0) j p4) p5) env) Q E s:=by
 refine Bs (Bs (Bl (Wz hk c d e (Bl (xF hk f hn g (item_listR hl h i (by simpa using l) (Bm (item_tupleT o (by simp) (by simp) ?_ a p))))))))
 simp_all [Fw,Int.lt_irrefl,if_false,az,c9]
end
section
theorem Inv.table(I:Inv X pz σ H s)(g:H P=aa (.kX ps))(k:∀b u,b≠P->s.heap.get? b=aa u->h'.get? b=aa u)
  (hn:h'.get? P=aa {cls:= .none,data:= .fields (ps++more)}):Inv X pz σ (upd H P (.kX (ps++more))) {s with heap:=h',toks:=t'}:=by
 have h:∀b,H b=ae->b≠P:=fun b n z=>by rw[z,g] at n;cases n
 have f:∀b u,H b=aa u->u≠ .kX ps->b≠P:=fun b u e d z=>by rw[z,g] at e;exact d (aW e).symm
 refine I.un ⟨fun b o e n _ _=>k b o (h b n) e,fun b o e n _ _=>⟨o.slots,k b o (h b n) e⟩,fun b o e n _=>by rw[aL (h b n)];exact n,fun b o e _=> ?_,fun b xs e=>by rw[aL (f b _ e (by intro z;cases z))];exact e,
  fun b o u e=>by rw[aL (f b _ e (by intro z;cases z))];exact e,fun b l e=> ?_⟩ fun b u e=> ?_
 .by_cases a:b=P
  .subst a;exact⟨_,hn⟩
  .exact⟨o,k b o a e⟩
 .by_cases a:b=P
  .subst a
   rw[g] at e;cases e
   exact⟨more,aH⟩
  .exact⟨#[],by rw[aL a,e];simp⟩
 .by_cases a:b=P
  .subst a;rw[aH] at e;cases e;exact hn
  .rw[aL a] at e
   refine(I.gT b u e).BC (fun c v i q=>k c v ?_ q) (fun c q=>by rw[aL (f c _ q (by intro z;cases z))];exact q) fun c xs q=>by rw[aL (f c _ q (by intro z;cases z))];exact q
   rcases i with rfl|i
   .exact a
   .exact f c _ i (by intro z;cases z)
end
def GZ(c:Addr)(a:Str):HO:= .ext fun h=>h.CodeRec (.ref c) a
theorem Pw(x:h.CodeRec (.ref c) qual):ie P w H h c (GZ c qual):=by
 refine⟨x,?_,fun h1 b y k=> ?_⟩
 .obtain⟨a,oc,vs,t,e,ho,_⟩:=x;simp_all
 .obtain⟨a,oc,vs,t,e,ho,r⟩:=y;cases e
  exact⟨c,oc,vs,t,Z,k _ ho,r⟩
section
variable {vs js:List bj}
theorem Px{its:List bj}
  (v:body= .Subscript (.Subscript (.Name "joins" p1) (.Name "number" p2) p3) (.Constant (.int 0) j p4) p5) (f:scope.names=[(("number":Str),jo.local),(("joins":Str),jo.free)]) (l:scope.kind= .function) (g:scope.isCoroutine=ag) (y:scope.isGenerator=ag)
  (z:cl=[(("joins":Str),cj)]) (B:bindArgs (n0 "<lambda>" qual params body scope cl pm IS ct) ⟨[.int n t],[]⟩=pure [(("number":Str),bj.int n t)])
  (F:Fr h₀ L s.heap m) (N:News h₀ L s.heap news) (C:s.heap.get? q=aa {cls:= .type "function",data:= .func (n0 "<lambda>" qual params body scope cl pm IS ct)}) (D:s.heap.CodeRec IS qual) (E:A.depth<Ke)
  (G:s.heap.NoLimit) (H:s.heap.IsCell cj (aa (.ref lj))) (hl:s.heap.IsList lj js.toArray) (I:0<=n) (J:n<2^63) (c:js[n.toNat]? =aa (.ref tb)) (K:IsTup s.heap tb its.toArray) (d:0<its.length) (h:its[0]? =aa (.int k tk)):
  bL (model prog w) A (call (.ref q) [.int n t]) (KskEnd h₀ L m news k s) (fun _ _=>False) s:=by
 refine Bp (PySem.W.kla_callFunE E C Z g y Z D ?_)
 rw[B]
 refine aU ?_
 refine wpAny_newFunctionEnv (fun x c=> ?_) (fun x c=> ?_) (fun M i O=> ?_) l
 .change x∈scope.names at c
  rw[f] at c
  rcases aZ.mp c with rfl|c
  .simp
  simp_all
 .rw[a0.mp c,f]
  rfl
 have a:=fun b o e=>O.extBut b o (b9 (bD e)) (aJ _ e)
 refine⟨G.keeps a,PySem.W.kla_codeExpr ?_⟩
 subst v z
 refine Pu (lj:=lj) l ?_ Z ?_ ?_ i Z ?_ I J c ?_ d h ?_
 .show scope.names.lookup _=_
  rw[f]
  rfl
 .obtain⟨o,e,r⟩:=H
  exact⟨o,a _ _ e,r⟩
 .show scope.names.lookup _=_
  rw[f]
  rfl
 .obtain⟨o,e,r⟩:=hl
  exact⟨o,a _ _ e,r⟩
 .exact IsTup.keeps K a
 .refine⟨M,_,tk,Z,Z,⟨F.ns.keeps a,fun b o e=>a b o (F.keep b o e),F.above⟩,fun p u=>⟨a _ _ (N p u).1,(N p u).2⟩⟩
end
end
section
open PyProof.Rows L2
def Tb(b:Pos)(a:Str)(P:Addr)(H:Hp):Prop:=H P=aa (.kX #[])\/∃c,H P=aa (.kX #[f9 b.line,f9 b.col, .ref c])/\H c=aa (GZ c a)
def Et(b:Pos)(a:Str)(P:Addr)(H H':Hp):Prop:=H'=H\/∃c,H P=aa (.kX #[])/\H c=ae/\H'=upd (upd H P (.kX #[f9 b.line,f9 b.col, .ref c])) c (GZ c a)
structure Mk0 base mg(c P):Prop where
 hd:PySem.W.CodeHd base c P
 bt:base.BuiltinsAt mg P
 ng:hX≠P
section
theorem Pz{h h':Heap}(b:h.BuiltinsAt mg P)(k:∀b o,h.get? b=aa o->h'.get? b=aa o):h'.BuiltinsAt mg P:=by obtain⟨a,o,h1,c,d,e,f,r⟩:=b;exact⟨a,o,h1,c,d,e,k _ _ f,r⟩
theorem XS(M:Mk0 X.base X.mg c P)(I:Inv X pz σ H s)(C:X.env.code= .ref c)(D:Kg scope X.env=pure XT)
  (hd:params.defaults=[]) (hk:params.kw_defaults=[]) (T:Tb mI (X.env.qual++"<lambda>") P H)
  (h:∀(f:Addr) (E i L:bj) (h':Heap) (tk:Nat) (H':Hp),Et mI (X.env.qual++"<lambda>") P H H'->Inv X pz σ H' {s with heap:=h',toks:=tk}->
   h'.get? f=aa {cls:= .type "function",data:= .func (n0 "<lambda>" (X.env.qual++"<lambda>") params body scope XT L E i)}->h'.CodeRec E (X.env.qual++"<lambda>")->s.heap.objs.size<=f->Q (.ref f) {s with heap:=h',toks:=tk}):
  bL (model X.prog X.w) X.A (eval (.Lambda params body scope mI) X.env) Q NE s:=by
 have N:eval (.Lambda params body scope mI) X.env=makeFunction "<lambda>" (X.env.qual++"<lambda>") params (.expr body) scope X.env [] [] [] mI mI.line:=by
  rw[arm_eval_Lambda]
  have j:defaultsOf params X.env=([],[]):=by
   obtain⟨a1,a2,a3,a4,a5,a6,a7⟩:=params
   subst hd hk
   rfl
  rw[j]
  rfl
 rw[N]
 have F:=M.hd.keeps I.bk
 have hg:=I.mod.glob.keeps I.bk
 have G:=Pz M.bt I.bk
 rcases T with k|⟨w,k,O⟩
 .refine PySem.W.kla_makeFunction D I.ok.glob hg C F (I.gT P _ k) trivial rfl M.ng G fun c1 i h' tk R l S J U=> ?_
  have y:=I.gT.fresh l
  have a:=Inv.table (t':=tk) I k (fun b u n e=>R b u n e) U
  have m:upd H P (.kX (#[]++ #[f9 mI.line,f9 mI.col, .ref c1])) c1=none:=by rw[aL (fun z=>by rw[z,k] at y;cases y)];exact y
  have V:Inv X pz σ (upd (upd H P (.kX (#[]++ #[f9 mI.line,f9 mI.col, .ref c1]))) c1 (GZ c1 (X.env.qual++"<lambda>"))) {s with heap:=h',toks:=tk}:=by
   refine⟨a.ok,a.os,a.bare,?_,a.loc,a.cell,?_,fun x d e=> ?_,fun p K=> ?_,?_,a.len⟩
   .refine⟨a.base.keep,a.base.slot,fun b o e n B=> ?_,a.base.there,fun b xs e=> ?_,fun b o u e=> ?_,fun b ps e=> ?_⟩
    .have A:b≠c1:=fun z=>by
      have:=bN (bD e) (bY I.sz l)
      simp_all
     exact(aL A)▸(a.base.free b o e n B)
    .rw[aL (fun z=>by have:=a.base.BE b xs e;rw[z,m] at this;cases this)]
     exact a.base.BE b xs e
    .rw[aL (fun z=>by have:=a.base.zw b o u e;rw[z,m] at this;cases this)]
     exact a.base.zw b o u e
    .obtain⟨W,j⟩:=a.base.BG b ps e
     exact⟨W,by rw[aL (fun z=>by rw[z,m] at j;cases j)];exact j⟩
   .rw[aL (fun z=>by have:=I.lt;rw[z] at this;exact az (bN this l) (c9 _))]
    exact a.free
   .have:d<s.heap.objs.size:=by obtain⟨v,o,ho,_⟩:=I.cell x d e;exact bD ho
    rw[aL (fun z=>by rw[z] at this;exact az (bN this l) (c9 _))]
    exact a.tW x d e
   .obtain⟨j,n1,r⟩:=a.pin p K
    have:p.1<s.heap.objs.size:=bD (I.pin p K).1
    refine⟨j,?_,r⟩
    rwa [aL (fun z=>by rw[z] at this;exact az (bN this l) (c9 _))]
   .intro b u e
    by_cases A:b=c1
    .subst A
     rw[aH] at e
     cases e
     exact Pw J
    .rw[aL A] at e
     exact(a.gT b u e).BC (fun _ _ _ q=>q) (fun d q=>by rw[aL (fun z=>by rw[z,m] at q;cases q)];exact q) fun d xs q=>by rw[aL (fun z=>by rw[z,m] at q;cases q)];exact q
  have t:∀b o,h'.get? b=aa o->(h'.push (PySem.W.kla_obj "<lambda>" (X.env.qual++"<lambda>") params body scope XT ((X.mg "__name__").getD .none) c1 i)).get? b=aa o:=fun b o e=>aJ _ e
  refine h h'.objs.size (.ref c1) i _ _ tk _ (.inr ⟨c1,k,y,Z⟩) ?_ (bc _ Z) (J.keeps t) (bY l (oB S))
  exact V.kept (t':=tk) t
 .refine PySem.W.kla_makeFunctionHit (cv:= .ref w) D I.ok.glob hg C F (I.gT P _ k) ?_ ?_ G fun i h' tk Y hsz=> ?_
  .exact trivial
  .simp[codeAmong,f9]
  .have t:∀b o,s.heap.get? b=aa o->(h'.push {cls:= .type "function",data:= .func (n0 "<lambda>" (X.env.qual++"<lambda>") params body scope XT ((X.mg "__name__").getD .none) (.ref w) i)}).get? b=aa o:=fun b o e=>aJ _ (Y b o e)
   exact h h'.objs.size (.ref w) i _ _ tk H (.inl rfl) (I.kept (t':=tk) t) (bc _ Z) (((I.gT w _ O).1).keeps t) hsz
theorem G0(k:∀b o,g.get? b=aa o->h.get? b=aa o)(F:Fr g L h' m)(N:News g L h' (sN g h L)):∀b o,b≠L->h.get? b=aa o->h'.get? b=aa o:=fun b o a e=>by
 cases q:g.get? b with
 |some u=>
  have:=k b u q
  rw[e] at this
  cases this
  exact F.keep b _ q
 |none=>exact(N (b,o) (xO a q e)).1
theorem XU{h:Heap}(a:h.Ns L m)(b:h.Ns L m'):m=m':=by obtain⟨o,e,f,ho,hd,h1,g⟩:=a;obtain⟨i,j,c,k,l,n,d⟩:=b;grind
theorem Inv.frn(I:Inv X pz σ H s)(h:s.heap.Ns X.env.locals m)(F:Fr X.base X.env.locals h' m)(N:News X.base X.env.locals h' (sN X.base s.heap X.env.locals)):Inv X pz σ H {s with heap:=h',toks:=t'}:=by
 have k:=G0 I.bk F N;refine I.step (g':=s.gens) (d':=s.drawn) (ch:=[]) (fun _ z=>nomatch z) (fun b o a _ _ e _=>k b o a e) (fun b o a _ _ e _=>⟨o.slots,k b o a e⟩) (fun _ _ _ _ n=>n) (fun b o _ e=> ?_) (fun _ _ e=>e) (fun _ _ _ e=>e) (fun b ps e=>⟨#[],by rw[e];simp⟩) (fun p i=>by rw[<-XU h i];exact F.ns) (fun b u e=> ?_) I.bare
 .by_cases a:b=X.env.locals
  .subst a;obtain⟨j,_,_,l,_⟩:=F.ns;exact⟨j,l⟩
  .exact⟨o,k b o a e⟩
 .have g:∀c w,H c=aa w->c≠X.env.locals:=fun c w e z=>by rw[z,I.free] at e;cases e
  refine(I.gT b u e).BC (fun c v d q=>k c v ?_ q) (fun _ q=>q) fun _ _ q=>q;rcases d with rfl|d
  .exact g _ _ e
  .exact g _ _ d
end
inductive K1 mI qual P(σ:L2.St) H(Q:VK):Prop|mk:∀j l (as:List Addr) ns (kf:Nat->Int),(σ=[aa (.ref j),aa (.ref l)])->(H l=aa (.lst (ns.map fun(n:Nat)=>V.int n)))->(H j=aa (.lst (as.map V.ref)))->(ns≠[])->((∀n∈ns,∃a rest,as[n]? =aa a/\H a=aa (.tup (.int (kf n)::rest))))->(Tb mI qual P H)->(∀H' (i n:Nat),Et mI qual P H H'->ns[i]? =aa n->(∀i' n',ns[i']? =aa n'->kf n<=kf n'/\(i'<i->kf n<kf n'))->Q (.int n) H')->K1 mI qual P σ H Q
theorem Et.get(t:Et mI qual P H H')(h:H a=aa o)(hn:∀ps,o≠ .kX ps):H' a=aa o:=by
 rcases t with rfl|⟨c,h1,b,rfl⟩
 .exact h
 .rwa [aL (aS h b),aL (dE h h1 (hn _))]
theorem Et.tb(t:Et mI qual P H H')(h:Tb mI qual P H):Tb mI qual P H':=by
 rcases t with rfl|⟨c,h1,a,rfl⟩
 .exact h
 .exact .inr ⟨c,by rw[aL (aS h1 a)];exact aH,aH⟩
section
theorem MJ(M:Mk0 X.base X.mg c P)(K0:X.env.code= .ref c)(T:X.calm=af)(hr:jI (k+1) X.A)
  (U:X.N[0]? =aa ("joins":Str)) (w:X.env.scope.names.lookup ("joins":Str)=aa .cell) (K2:PE X (.Name "left" p1) (oV 1)) (hg:Gl X "min") (hm:X.mg "min"=ae)
  (nH:body= .Subscript (.Subscript (.Name "joins" q1) (.Name "number" q2) q3) (.Constant (.int 0) jj q4) q5) (W:scope.names=[(("number":Str),jo.local),(("joins":Str),jo.free)]) (CQ:scope.kind= .function) (Y:scope.isCoroutine=ag) (XQ:scope.isGenerator=ag)
  (hd:params.defaults=[]) (hkd:params.kw_defaults=[])
  (Py:∀(B:Str) (cl:List (Str×Addr)) (pm IS ct:bj) (u:bj),bindArgs (n0 "<lambda>" B params body scope cl pm IS ct) ⟨[u],[]⟩=pure [(("number":Str),u)]):
  PE X (.Call (.Name "min" p) [.Name "left" p1] [⟨aa "key", .Lambda params body scope mI,kp⟩] pos) (K1 mI (X.env.qual++"<lambda>") P):=by
 intro pz s σ H Q I h
 obtain⟨j,l,as,ns,C,rfl,hl,hj,ji,aaL,hT,fin⟩:=h
 refine dM (kE I hg hm (by rfl) (callWith_kw (fX ((aR K2 gW) pos pz s _ H (fun vs H'=>vs=[.ref l]/\H'=H) I ⟨Z,Z⟩) ?_)))
 rintro us s1 ⟨vs,H1,I1,D,E,e2⟩
 subst E e2
 rw[Vals.S9 D]
 obtain⟨cj,g⟩:=I1.ok.has ("joins") (.inl w)
 have xS:Kg scope X.env=pure [(("joins":Str),cj)]:=by
  rw[zY (fun y R hf=> ?_),W]
  .show pure [(("joins":Str),(X.env.cells.lookup ("joins":Str)).getD 0)]=_
   rw[g]
   rfl
  .rw[W] at R
   rcases aZ.mp R with rfl|R
   .cases hf
   .rw[a0.mp R]
    exact⟨cj,g⟩
 refine kws_cons (XS M I1 K0 xS hd hkd hT fun f IS Vx pm h' tk H' r d hf TK hfs=>kws_nil ?_)
 show bL _ _ (call (.builtin "min") [.ref l] [(cq "key", .ref f)]) _ _ _
 obtain⟨m,A,aaM⟩:=d.loc
 have t5:=r.get hl (by intro ps z;cases z)
 have F:=r.get hj (by intro ps z;cases z)
 obtain⟨z1,its,n1,rv1,aaN,ho1⟩:=d.zW t5
 obtain⟨z2,jts,n2,rv2,adl,S6⟩:=d.zW F
 have nL:∀b u,H' b=aa u->b≠X.env.locals:=fun b u e z=>by rw[z,d.free] at e;cases e
 have fL:f≠X.env.locals:=fun z=>by
  have h1:=I1.lt
  rw[<-z] at h1
  exact az (bN h1 hfs) (c9 _)
 have tX:h'.IsCell cj (aa (.ref j)):=by
  obtain⟨u,ru,lk⟩:=aaM 0 ("joins") (.ref j) U Z (.inr (.inl w))
  cases ru
  rcases lk with⟨h1,_⟩|⟨_,c',h1,h2⟩
  .have:X.env.kindOf ("joins")=aa .cell:=w
   rw[this] at h1
   cases h1
  .rw[g] at h1
   cases h1
   exact h2
 have Jr:its.length=ns.length:=by rw[<-aaN,aE]
 have at_:∀(i:Nat) (v:bj),its[i]? =aa v->∃(n:Nat) (t:Tok),ns[i]? =aa n/\v=bj.int (n:Int) t:=by
  intro i v hv
  have hi:i<ns.length:=by rw[<-Jr];exact(aV.mp hv).1
  obtain⟨u,hu,t,ru⟩:=rv1.get (by rw[bp,aP hi];rfl)
  rw[hv] at hu
  cases hu
  exact⟨ns[i],t,aP hi,ru⟩
 refine kmk_min (h₀:=X.base) (L:=X.env.locals) (m:=m) (news:=sN X.base h' X.env.locals) (vs:=its) (fun i=>C (ns.getD i 0)) (d.ok.hd T) ⟨A,d.bk,bY d.ok.U9 d.ok.above⟩ N_ (fun h _ N=> ?_) ?_ (fun i v hv h Zc own G S=> ?_) (fun i v Td acH hv hb G S=> ?_)
 .have TM:X.base.get? l=none:=by
   cases q:X.base.get? l with
   |none=>rfl
   |some o=>have:=(d.bs l o q).2;rw[t5] at this;cases this
  exact⟨_,(N _ (xO (nL _ _ t5) TM ho1)).1,Z,_,Z⟩
 .rw[Jr]
  exact R4 fun z=>ji (bX.mp z)
 .obtain⟨n,t,hn,rfl⟩:=at_ i v hv
  have J:=G0 d.bk G (fun p hp=>S p (gQ _ hp))
  obtain⟨a,rest,ha,TN⟩:=aaL n (bC hn)
  have K:=r.get TN (by intro ps z;cases z)
  obtain⟨tts,O,p3,_⟩:=d.tuple (.of K)
  obtain⟨u3,hu3,tk3,ru3⟩:=O.get (i:=0) (x:=V.int (C n)) Z
  have ea:(as.map V.ref)[n]? =aa (.ref a):=by simp_all
  obtain⟨u4,hu4,ru4⟩:=rv2.get ea
  cases ru4
  subst ru3
  have hsz:n<2^63:=by
   have h1:n<as.length:=(aV.mp ha).1
   rw[aE] at z2
   have:=wO
   lia
  have eg:C (ns.getD i 0)=C n:=by simp_all
  show bL _ _ (call (.ref f) [.int (n:Int) t]) (KskEnd _ _ _ _ (C (ns.getD i 0)) _) _ _
  rw[eg]
  refine Px (cj:=cj) (lj:=j) (js:=jts) (tb:=a) (its:=tts) (tk:=tk3) nH W CQ Y XQ Z (Py _ _ _ _ _ _) G S (J f _ fL hf) ?_ hr.in1.depth (d.ok.mod.nolimit.keeps G.keep) ?_ ?_ (by lia) (by exact_mod_cast hsz) (by simpa using hu4) ?_ ?_ hu3
  .obtain⟨c1,oc,vs1,t1,E,xP,D⟩:=TK
   refine⟨c1,oc,vs1,t1,E,J c1 oc (fun z=> ?_) xP,D⟩
   obtain⟨o5,es5,ep5,ho5,hd5,_⟩:=A
   lia
  .obtain⟨oc,xP,D⟩:=tX
   exact⟨oc,J cj oc (d.U_ _ cj g) xP,D⟩
  .exact⟨_,J j _ (nL _ _ F) S6,Z,_,Z⟩
  .obtain⟨o6,ho6,r6⟩:=p3
   exact⟨o6,J a o6 (nL _ _ K) ho6,r6⟩
  .rw[<-O.length]
   simp_all
 .obtain⟨n,t,hn,rfl⟩:=at_ i v hv
  refine⟨.int (n:Int),H',Inv.frn (t':=acH) d A G S,⟨t,Z⟩,fin H' i n r hn fun i' n' WO=> ?_⟩
  have:=hb i' (by rw[Jr];exact(aV.mp WO).1)
  have E:ns.getD i 0=n:=by simp_all
  have e2:ns.getD i' 0=n':=by rw[bh,WO];rfl
  simpa only[E,e2] using this
end
end
section
open PyProof.Rows L2
def Js(P:b7)(w:cW)(K:aM)(a:Addr)(b:List (Key×V)):Prop:=(a==iq)=ag/\∀h,K.In h->∃vs,KV b vs/\h.DictOf (gp P w) a vs
inductive K3 P w K(ty:TE) σ(Q:VK)(x:V) H1:Prop|mk:∀a cw,(x= .ref a)->(Js P w K a cw)->(ty σ H1 fun y H2=>∃k,y=kV k/\Q ((jc cw k).getD .rH) H2)->K3 P w K ty σ Q x H1
def XX(P:b7)(w:cW)(K:aM)(b c:TE):TE:=fun a H Q=>b a H fun x d=>K3 P w K c a Q x d
inductive K4 P w K(Q:VK)(x:V) y H2:Prop|mk:∀a cw k v,(x= .ref a)->(Js P w K a cw)->(y=kV k)->(jc cw k=aa v)->(Q v H2)->K4 P w K Q x y H2
def XY(P:b7)(w:cW)(K:aM)(b c:TE):TE:=fun a H Q=>b a H fun x d=>c a d fun y e=>K4 P w K Q x y e
section
theorem PH(J:X.A.units+1<ly)(ho:PE X o td)(r:PE X e ty)(m:M1 X o "get" apos e m6):PE X (.Call (.Attribute o "get" apos) [e] [] m6) (XX X.prog X.w X.K td ty):=by
 intro g s i H Q I h;refine ZA m.base m.qk m.line DU jK FQ (fX (ho g s i H _ I h) ?_);rintro u j ⟨x,t,l,v,a,w,ex,d,z⟩;subst ex;obtain rfl:u=bj.ref a:=v;obtain⟨A,_,c⟩:=d.2 j.heap l.BI;refine⟨c.typeIs,fun b q=> ?_,?_⟩
 .cases q
  obtain⟨B,_,_,h1,C,_⟩:=c;exact⟨B,h1,C.2.1⟩
 rw[m.trees];refine h_ Z (mP (fP (fX (r g j i t _ l z) fun iv D ⟨y,E,n,ry,k,F,G⟩=>g_ ?_)));subst F;obtain⟨vs,f,p⟩:=d.2 D.heap n.BI;exact RY jK p.typeIs qL (PySem.F.args_dict_get_2 _ _) (meets_dict_get (gp X.prog X.w) a (z9 ry) d.1) ⟨_,p.mapOf,⟨(jc w k).getD .rH,E,n.tok _,(f.val k).getD Z,G⟩⟩
theorem PJ(B:X.A.units+1<ly)(ho:PE X o td)(j:PE X i ty)(hs:Xo i):PE X (.Subscript o i pos) (XY X.prog X.w X.K td ty):=by intro c s e H Q I h;refine KL Bx.lookup hs (fX (ho c s e H _ I h) fun u l ⟨x,m,n,p,q⟩=>fX (j c l e m _ n q) ?_);rintro iv r ⟨y,t,f,ry,a,C,k,v,ex,d,w,hv,z⟩;subst ex w;obtain rfl:u=bj.ref a:=p;obtain⟨vs,b,g⟩:=d.2 r.heap f.BI;refine⟨g.typeIs,?_⟩;obtain⟨D,hw,A⟩:=qW.some_of (by rw[<-hv];exact b.val k);exact wpAny_getItem_of (z9 ry) g.mapOf hw ⟨v,t,f.tok _,A,z⟩
end
theorem PN{K:aM}{g:TG}{tb:TS}{D:Ends}(c:Nat->L2.St->Hp->Prop)(k:c 0 b H)(hl:∀i b H,i<=xs.length->c i b H->jD K H a xs)
  (hs:∀i x b H T,xs[i]? =aa x->c i b H->H T=ae->g (.ref T) b (upd H T (.tup [.int ((i:Nat):Int),x])) fun d f=>tb {D with nx:=c (i+1),ct:=c (i+1),bk:=D.nx} d f) (hd:∀b H,c xs.length b H->D.nx b H):
  ∃W:Nat->Nat->L2.St->Hp->Prop,(∃m,W 0 m b H)/\∀i m b H,W i m b H->
   ((Vs K a).stop i H/\D.nx b H)\/((Vs K a).go i H/\∃N:L2.St->Hp->Prop,(∀h H',N h H'->∃j,j<m/\W (i+1) j h H')/\∀x H',(Vs K a).Mf i H x H'->g x b H' fun d f=>tb {D with nx:=N,ct:=N,bk:=D.nx} d f):=by
 refine⟨fun i m b H=>m=xs.length-i/\i<=xs.length/\c i b H,⟨xs.length,Z,cg _,k⟩,?_⟩
 rintro i m b H ⟨rfl,l,p⟩
 have q:=hl i b H l p
 by_cases n:i<xs.length
 .refine .inr ⟨⟨xs,xs[i],q,aP n⟩,c (i+1),fun h H' o=>⟨xs.length-(i+1),by lia,Z,by assumption,o⟩,?_⟩
  rintro x H' ⟨T,y,rfl,r,rfl,s⟩
  exact hs i y b H T (s xs q) p r
 .have e:i=xs.length:=by lia
  subst e
  exact .inl ⟨⟨xs,q,aQ _⟩,hd b H p⟩
theorem TQ{g:TG}{tb:TS}{D:Ends}(b:Nat->L2.St->Hp->Prop)(k:b 0 a H)
  (hs:∀i c a H,x.cps[i]? =aa c->b i a H->g (.str ⟨#[c]⟩) a H fun d f=>tb {D with nx:=b (i+1),ct:=b (i+1),bk:=D.nx} d f) (hd:∀a H,b x.cps.size a H->D.nx a H):
  ∃W:Nat->Nat->L2.St->Hp->Prop,(∃m,W 0 m a H)/\∀i m a H,W i m a H->
   ((Vq x).stop i H/\D.nx a H)\/((Vq x).go i H/\∃N:L2.St->Hp->Prop,(∀h H',N h H'->∃j,j<m/\W (i+1) j h H')/\∀y H',(Vq x).Mf i H y H'->g y a H' fun d f=>tb {D with nx:=N,ct:=N,bk:=D.nx} d f):=by
 refine⟨fun i m a H=>m=x.cps.size-i/\i<=x.cps.size/\b i a H,⟨x.cps.size,Z,cg _,k⟩,?_⟩
 rintro i m a H ⟨rfl,q,p⟩
 by_cases l:i<x.cps.size
 .refine .inr ⟨l,b (i+1),fun h H' n=>⟨x.cps.size-(i+1),by lia,Z,by assumption,n⟩,?_⟩
  rintro y H' ⟨rfl,c,o,rfl⟩
  exact hs i c a _ o p
 .have e:i=x.cps.size:=by lia
  subst e
  exact .inl ⟨aQ _,hd a H p⟩
theorem XZ{g:TG}{tt:TT}{n:TE}{o:Hp->Prop}(d:Nat->Hp->Prop)(r:d 0 (upd H1 D (.lst [])))
  (hs:∀i c H,x.cps[i]? =aa c->d i H->g (.str ⟨#[c]⟩) (wipe σ vs) H fun f k=>wipe f vs=wipe σ vs/\tt f k fun b h=>
   if b=af then n f h fun y j=>∃a,j D=aa (.lst a)/\a.length<br/\d (i+1) (upd j D (.lst (a++[y]))) else d (i+1) h) (hd:∀H,d x.cps.size H->o H):
  ∃W:Nat->Nat->Hp->Prop,(∃m,W 0 m (upd H1 D (.lst [])))/\∀i m H,W i m H->
   ((Vq x).stop i H/\o H)\/((Vq x).go i H/\∃l:Hp->Prop,(∀H',l H'->∃q,q<m/\W (i+1) q H')/\∀y H',(Vq x).Mf i H y H'->g y (wipe σ vs) H' fun f k=>wipe f vs=wipe σ vs/\tt f k fun b h=>
    if b=af then n f h fun y j=>∃a,j D=aa (.lst a)/\a.length<br/\l (upd j D (.lst (a++[y]))) else l h):=by
 refine⟨fun i m H=>m=x.cps.size-i/\i<=x.cps.size/\d i H,⟨x.cps.size,Z,cg _,r⟩,?_⟩
 rintro i m H ⟨rfl,v,p⟩
 by_cases s:i<x.cps.size
 .refine .inr ⟨s,d (i+1),fun H' t=>⟨x.cps.size-(i+1),by lia,Z,by assumption,t⟩,?_⟩
  rintro y H' ⟨rfl,c,u,rfl⟩
  exact hs i c _ u p
 .have e:i=x.cps.size:=by lia
  subst e
  exact .inl ⟨aQ _,hd H p⟩
end
section
open PyProof.Rows L2
abbrev CB:Addr:=629
abbrev CR:Addr:=320
abbrev CP:Addr:=407
abbrev CM:Addr:=466
abbrev Pt:Addr:=642
abbrev nK:Addr:=112
abbrev aNO:Addr:=158
abbrev aNR:Addr:=368
abbrev aDO:Addr:=520
abbrev aC:Addr:=911
noncomputable def oZ:List Addr:=[758,765,772,779,786,793,800,807,814,821,828,835,840,847,854,861,868,875,882,889,896,903,910]
noncomputable def TU:List (Key×V):=[(.inr "tool", .ref 477),(.inr "to", .ref 484),(.inr "go", .ref 491),(.inr "here", .ref 498),(.inr "at", .ref 505),(.inr "by", .ref 512),(.inr "run", .ref 519)]
noncomputable def nrL:List (Key×V):=[(.inr "tool", .ref 370),(.inr "to", .ref 373),(.inr "go", .ref 376),(.inr "at", .ref 379),(.inr "by", .ref 382),(.inr "here", .ref 383),(.inr "run", .ref 387),(.inr "rep", .ref 389),(.inr "end", .ref 390)]
noncomputable def Jt(f:Addr):Str:=if f=477 then "tool" else if f=484 then "to" else if f=491 then "go" else if f=498 then "here" else if f=505 then "at" else if f=512 then "by" else if f=519 then "run" else ""
noncomputable def bnL:List Str:=["len","abs","max","min","sum","sorted","set","list","range","reversed","enumerate","zip","ord","all","int"]
noncomputable def ciL:List (Str×Int):=("WRONG_FIT",-1)::("TOO_MANY_ROWS",-2)::("GREATEST_SIDE_fitting",1000000000)::("GREATEST_GAP",1000000000)::("MOST_UPRIGHT_ROWS",1000)::("OUT_OF_RANGE",-1)::("POINT_TAKEN",-2)::("TOO_MANY_HOLES",-3)::("TOO_MANY_IN_PANEL",-4)::("GREATEST_DIAMETER",10000000)::("MOST_HOLES",48)::("MOST_IN_PANEL",512)::("WRONG_PANEL",-1)::("PANEL_TOO_LARGE",-2)::("MOST_COLUMNS",16)::("MOST_ROWS",16)::("GREATEST_PANEL_SIDE",1000000000)::("LEAST_WORD_BYTE",33)::("GREATEST_WORD_BYTE",126)::("BYTE_COUNT",256)::("MOST_DIGITS",10)::("MOST_LOOPS",8)::("WRONG_LINE",-100)::("TOO_MUCH",-6)::("MOST_LINES_DONE",8192)::("MOST_DRILLED",2048)::("FIRST_WIDTH",1000)::("FIRST_HEIGHT",1000)::("FIRST_CHANGE_COST",0)::("GREATEST_SIDE_state",999999999)::("GREATEST_CHANGE_COST",1000000000)::("WRONG_BOARD",-1)::("MOST_IN_RUN",1000)::("NO_ORDER",-1)::("WRONG_BUDGET",-1)::("TOO_MANY_FOR_BEST",-3)::("PANEL_TURNS_COPIES",-2)::("GREATEST_BUDGET",100)::("MOST_FOR_BEST",7)::[]
noncomputable def csL:List (Str×Str):=[("KNOWN_SIGNS","\n #-0123456789abcdefghijklmnopqrstuvwxyz"),("OTHER_SIGN","?"),("WRONG_SIGN","!"),("COMMENT","#"),("PROGRAM_WITHOUT_HOLES","tool 1")]
noncomputable def reL:List (Str×Addr):=("HOME",nK)::("NO_CHANGE",aNO)::("NUMBER_RANGES",aNR)::("DOINGS",aDO)::("CALLS",aC)::("Reader",CR)::("Board",CB)::("Program",CP)::("Machine",CM)::("call_board",758)::("call_hole",765)::("call_drop",772)::("call_holes",779)::("call_tools",786)::("call_order",793)::("call_set_order",800)::("call_length",807)::("call_nearest",814)::("call_grouped",821)::("call_improve",828)::("call_best",835)::("call_tree",840)::("call_walk",847)::("call_panel",854)::("call_panelholes",861)::("call_find",868)::("call_fit",875)::("call_program",882)::("call_panelprogram",889)::("call_run",896)::("call_check",903)::("call_load",910)::("do_tool",477)::("do_to",484)::("do_go",491)::("do_here",498)::("do_at",505)::("do_by",512)::("do_run",519)::[]
noncomputable def gL:List Nat:=[6,7,8,17,18,19,20,21,22,23,24,25,26,27,28,31,32,33,34,35,36,37,40,41,42,43,44,45,46,48,49,50,51,52,59,60,61,62,63,64,76,77,78,79,80,81,82,87,88,89,90,91,92,99,100,101,102,103,104,105,107,108,109,110,111,112,114,115,116,117,118,119,128,131,132,133,137,138,139,140,141,142,143,144,145,146,147,155,156,157,158,159,160,161,162,163,164,165,166,167,168,169,170,171,172,173,174,175,176,177,178,179,181]
def G1:Nat->Stmt×Addr×Str|0=>(inClass (top 66) 0,CR,"Reader.__init__")|1=>(inClass (top 66) 1,CR,"Reader.has_more")|2=>(inClass (top 66) 2,CR,"Reader.take")|3=>(inClass (top 66) 3,CR,"Reader.take_row")|4=>(inClass (top 127) 0,CB,"Board.__init__")|5=>(inClass (top 127) 1,CB,"Board.renew")|6=>(inClass (top 127) 2,CB,"Board.set_panel")|7=>(inClass (top 86) 0,CP,"Program.__init__")|_=>(inClass (top 98) 0,CM,"Machine.__init__")
noncomputable def ttL:List (Addr×List V):=(nK,[.int 0, .int 0, .int 0])::(aNO,[.int 0, .int 0, .int 0])::(aC,oZ.map V.ref)::(370,[.ref 369])::(373,[.ref 371, .ref 372])::(376,[.ref 374, .ref 375])::(379,[.ref 377, .ref 378])::(382,[.ref 380, .ref 381])::(383,[])::(387,[.ref 384, .ref 385, .ref 386])::(389,[.ref 388])::(390,[])::(369,[.int 1, .int 10000000])::(371,[.int (-2000000000), .int 2000000000])::(372,[.int (-2000000000), .int 2000000000])::(374,[.int (-2000000000), .int 2000000000])::(375,[.int (-2000000000), .int 2000000000])::(377,[.int (-2000000000), .int 2000000000])::(378,[.int (-2000000000), .int 2000000000])::(380,[.int (-2000000000), .int 2000000000])::(381,[.int (-2000000000), .int 2000000000])::(384,[.int 1, .int 1000])::(385,[.int (-2000000000), .int 2000000000])::(386,[.int (-2000000000), .int 2000000000])::(388,[.int 0, .int 1000])::[]
structure Txt P w K base(mg:Str->Option bj):Prop where
 bn:∀x∈bnL,mg x=ae
 ic:∀p∈ciL,∃t,mg p.1=aa (.int p.2 t)
 ics:∀p∈csL,∃t,mg p.1=aa (.str p.2 t)
 rfs:∀p∈reL,mg p.1=aa (.ref p.2)
 na:∀p∈Vi,Kx K p.1/\qg K p.1 p.2
 tt:∀p∈ttL,∀H,oW K H p.1 p.2
 glb:∀i∈gL,∃f c,mg (Tw (top i))=aa (.ref f)/\Fn K (Tw (top i)) (Tw (top i)) (top i) (Sl (top i)) f c
 mth:∀n<9,Kx K (G1 n).2.1/\∃f c,Meth K (G1 n).2.1 (Tw (G1 n).1) f/\Fn K (Tw (G1 n).1) (G1 n).2.2 (G1 n).1 (Sl (G1 n).1) f c
 mkc:∀C∈[CR,CB,CP,CM],yS K C=af/\jh K (.ref C)=af
 kd:Js P w K aDO TU
 kn:Js P w K aNR nrL
 mk0:Mk0 base mg 646 Pt
 gc:∃f,mg "nearest_left"=aa (.ref f)/\Fn K "nearest_left" "nearest_left" (top 130) ["joins","left"] f (.ref 646)
theorem Al{c d:Type}[BEq c][LawfulBEq c]:∀{l:List (c×d)} {x:c} {v:d},l.lookup x=aa v->(x,v)∈l
 |(a,b)::r,x,v,h=>by
  dsimp only[eT] at h;split at h
  .rename_i q;rw[eq_of_beq q];cases h
   exact aT
  .exact aO _ (Al h)
section
variable {P:b7} {w:cW} {K:aM} {base:Heap} {mg:Str->Option bj} (T:Txt P w K base mg)
include T
theorem Txt.nn{x:Str}(h:bnL.elem x=true:=by rfl):mg x=none:=T.bn _ (mN.mp h)
theorem Txt.ci{x:Str}(h:ciL.lookup x=aa v:=by rfl):∃t,mg x=aa (.int v t):=T.ic _ (Al h)
theorem Txt.cs{x:Str}(h:csL.lookup x=aa v:=by rfl):∃t,mg x=aa (.str v t):=T.ics _ (Al h)
theorem Txt.t2{xs:List V}(h:ttL.lookup a=aa xs:=by rfl):∀H,oW K H a xs:=T.tt _ (Al h)
theorem Txt.rr{x:Str}(h:reL.lookup x=aa a:=by rfl):mg x=aa (.ref a):=T.rfs _ (Al h)
abbrev Ok(_:Txt P w K base mg)(k i:Nat)(a:Sp):Prop:=OkG P w K mg base k (Tw (top i)) (Sl (top i)) a
abbrev Om(_:Txt P w K base mg)(k n:Nat)(a:Sp):Prop:=OkM P w K mg base k (G1 n).2.1 (Tw (G1 n).1) (Sl (G1 n).1) a
theorem Txt.okN{a:Sp}(N:List Str)(b:∀r,Bd P w K mg base k N (Tw (top i)) (top i) a r)(d:gL.elem i=true:=by rfl)(S:mZ N (Sl (top i)) (fZ (top i)):=by exact .m)(len:∀vs H Q,a H Q vs->vs.length=(Sl (top i)).length:=by rintro _ _ _ ⟨⟩;subst_vars;rfl):Ok T (k+1) i a:=
 let ⟨f,c,h1,h2⟩:=T.glb i (mN.mp d)
 ⟨f,h1,h2.ok S len fun A o s=>b _⟩
theorem Txt.ok{a:Sp}(b:∀r,Bd P w K mg base k (Zf (top i)) (Tw (top i)) (top i) a r)(c:gL.elem i=true:=by rfl)(S:mZ (Zf (top i)) (Sl (top i)) (fZ (top i)):=by exact .m)(len:∀vs H Q,a H Q vs->vs.length=(Sl (top i)).length:=by rintro _ _ _ ⟨⟩;subst_vars;rfl):Ok T (k+1) i a:=T.okN _ b c S len
theorem Txt.om{a:Sp}(b:∀r,Bd P w K mg base k (Zf (G1 n).1) (G1 n).2.2 (G1 n).1 a r)(d:n<9:=by decide)(S:mZ (Zf (G1 n).1) (Sl (G1 n).1) (fZ (G1 n).1):=by exact .m)(len:∀vs H Q,a H Q vs->vs.length=(Sl (G1 n).1).length:=by rintro _ _ _ ⟨⟩;subst_vars;rfl):Om T (k+1) n a:=
 let ⟨cl,f,c,h1,h2⟩:=T.mth n d
 ⟨f,cl,h1,h2.ok S len fun A o s=>b _⟩
theorem Txt.oc{a:Sp}(b:∀f A o s,Bd P w K mg base k (Zf (top 130)) "nearest_left" (top 130) a ⟨f, .ref 646,A,o,s⟩)(S:mZ (Zf (top 130)) ["joins","left"] (fZ (top 130)):=by exact .m)(len:∀vs H Q,a H Q vs->vs.length=2:=by rintro _ _ _ ⟨⟩;subst_vars;rfl):Ok T (k+1) 130 a:=
 let ⟨f,h1,h2⟩:=T.gc
 ⟨f,h1,h2.ok S len (b f)⟩
theorem Txt.kk{a:Sp}(M:OkM P w K mg base k C m ps a)(h:reL.lookup x=aa C:=by rfl)(b:[CR,CB,CP,CM].elem C=true:=by rfl)(c:m="__init__":=by rfl):OkK P w K mg base k x C ps a:=by subst c;obtain⟨f,_,h1,d⟩:=M;obtain⟨mk,kp⟩:=T.mkc _ (mN.mp b);exact⟨f,T.rr h,⟨mk,h1.at_,h1.fn,kp⟩,d⟩
end
end
end D
namespace M
def gn(T:Nat->Nat->Nat):List Nat->Nat|a::b::r=>T a b+gn T (b::r)|_=>0
theorem G2(T:Nat->Nat->Nat):∀(l:List Nat) (x:Nat) (r:List Nat),gn T (l++x::r)=gn T (l++[x])+gn T (x::r)
 |[],x,r=>by simp[gn]
 |[a],x,r=>by rfl
 |a::b::l,x,r=>by show T a b+gn T (b::l++x::r)=T a b+gn T (b::l++[x])+gn T (x::r);rw[(G2 T (b::l) x r)];lia
theorem nM(T:Nat->Nat->Nat)(l:List Nat)(x y:Nat)(r:List Nat):gn T (l++x::y::r)=gn T (l++[x])+T x y+gn T (y::r):=by rw[G2];show gn T (l++[x])+(T x y+gn T (y::r))=_;lia
theorem G3(T:Nat->Nat->Nat)(c:∀a b,T a b=T b a):∀l:List Nat,gn T l.reverse=gn T l|[]=>rfl|[a]=>rfl|a::b::l=>by rw[dW,dW,bJ];show gn T (l.reverse++b::a::[])=T a b+gn T (b::l);rw[nM,<-(G3 T c (b::l)),dW,c b a];simp[gn];lia
theorem MK(T:Nat->Nat->Nat)(g:∀a b,T a b=T b a)(A:List Nat)(p:Nat)(M:List Nat)(x y q:Nat)(B:List Nat)(h:∃l,M=x::l)(c:∃l,M=l++[y]):
  gn T (A++p::(M.reverse++q::B))+T p x+T y q=gn T (A++p::(M++q::B))+T p y+T x q:=by
 obtain⟨l,hl⟩:=h
 obtain⟨e,f⟩:=c
 have i:gn T (A++p::(M++q::B))=gn T (A++[p])+T p x+gn T M+T y q+gn T (q::B):=by
  have h1:gn T (A++p::(M++q::B))=gn T (A++[p])+T p x+gn T (M++q::B):=by
   exact hl▸(nM T A p x (l++q::B))
  rw[h1]
  have d:gn T (M++q::B)=gn T M+T y q+gn T (q::B):=by
   rw[f,bJ]
   exact nM T e y q B
  rw[d]
  lia
 have j:gn T (A++p::(M.reverse++q::B))=gn T (A++[p])+T p y+gn T M+T x q+gn T (q::B):=by
  have h1:gn T (A++p::(M.reverse++q::B))=gn T (A++[p])+T p y+gn T (M.reverse++q::B):=by
   rw[f,NB]
   exact nM T A p y (e.reverse++q::B)
  rw[h1]
  have d:gn T (M.reverse++q::B)=gn T M.reverse+T x q+gn T (q::B):=by
   rw[hl,dW,bJ]
   exact nM T l.reverse x q B
  rw[d,G3 T g]
  lia
 rw[i,j]
 lia
theorem PQ(T:Nat->Nat->Nat)(A:List Nat)(p x q:Nat)(B:List Nat):gn T (A++p::x::q::B)+T p q=gn T (A++p::q::B)+T p x+T x q:=by rw[nM T A p x (q::B),nM T A p q B];show gn T (A++[p])+T p x+(T x q+gn T (q::B))+T p q=_;lia
def zc(T:Nat->Nat->Nat)(h:Nat)(o:List Nat):Nat:=gn T (h::(o++[h]))
def scan{b:Type}(a:b->Int):Int->List b->Option b|_,[]=>ae|t,x::r=>if t<a x then(match scan a (a x) r with|some y=>aa y|none=>aa x) else scan a t r
theorem sU{b:Type}(a:b->Int):∀(l:List b) (t:Int) (y:b),scan a t l=aa y->t<a y
 |[],t,y,h=>by cases h
 |x::r,t,y,h=>by
  unfold scan at h;split at h
  .rename_i c
   cases e:scan a (a x) r with
   |none=>simp_all
   |some z=>
    rw[e] at h;cases h
    exact Int.lt_trans c (sU a r _ _ e)
  .exact sU a r t y h
def best{a:Type}(c:a->Int)(b:Int×Option a)(l:List a):Int×Option a:=l.foldl (fun b x=>if b.1<c x then(c x,aa x) else b) b
theorem pL{c:Type}(a:c->Int):∀(l:List c) (b:Int×Option c),best a b l=match scan a b.1 l with|some x=>(a x,aa x)|none=>b
 |[],b=>rfl
 |x::r,b=>by
  show best a (if b.1<a x then(a x,aa x) else b) r=_;dsimp only[scan];by_cases h:b.1<a x
  .rw[ai h,ai h,pL a r];cases scan a (a x) r<;>rfl
  .rw[ak h,ak h,pL a r]
theorem ml{a:Type}(f:List Nat->Nat)(g:a->List Nat)(F:Int):∀(l:List a) (t:Nat),bW f t (l.map g)=(scan (fun x=>F-(f (g x):Int)) (F-(t:Int)) l).map g
 |[],t=>rfl
 |x::r,t=>by
  show(if f (g x)<t then(match bW f (f (g x)) (r.map g) with|some p=>aa p|none=>aa (g x)) else bW f t (r.map g))=_;dsimp only[scan];by_cases h:f (g x)<t
  .rw[ai h,ai (by lia),ml f g F r];cases scan (fun x=>F-(f (g x))) (F-(f (g x))) r<;>rfl
  .rw[ak h,ak (by lia),ml f g F r]
theorem qt{d:Type}(b a:d->Int):∀(l:List d) (t:Int),(∀x∈l,b x=a x)->scan b t l=scan a t l|[],t,h=>rfl|x::r,t,h=>by dsimp only[scan];rw[(h x (aT ..)),qt b a r (a x) fun y c=>h y (aO _ c),qt b a r t fun y c=>h y (aO _ c)]
def cS(h:Nat)(o:List Nat):List Nat:=h::(o++[h])
theorem sV(h:Nat)(o:List Nat):(cS h o).length=o.length+2:=by simp[cS]
theorem getD_at{l:List Nat}(h:i<l.length):l.getD i d=l[i]:=by simp_all
theorem TV(l:List Nat)(i:Nat)(h:i+1<l.length):∃A B,l=A++l.getD i 0::l.getD (i+1) 0::B/\A=l.take i/\B=l.drop (i+2):=by refine⟨l.take i,l.drop (i+2),?_,Z,Z⟩;rw[getD_at (show i<l.length by lia),getD_at h];simp_all
def Dc(T:Nat->Nat->Nat)(s:List Nat)(i j:Nat):Int:=
 ((T (s.getD i 0) (s.getD (i+1) 0))+(T (s.getD (j+1) 0) (s.getD (j+2) 0)))-((T (s.getD i 0) (s.getD (j+1) 0))+(T (s.getD (i+1) 0) (s.getD (j+2) 0)))
theorem G4(T:Nat->Nat->Nat)(u:∀a b,T a b=T b a)(h:Nat)(o:List Nat)(i j:Nat)(v:i<j)(w:j<o.length):(zc T h o:Int)-(zc T h (Vbpcak.reversed o i j):Int)=Dc T (cS h o) i j:=by
 have f:(o.drop i).take (j+1-i)=o[i]::(o.drop (i+1)).take (j-i):=by rw[c_ (show i<o.length by lia),show j+1-i=(j-i)+1 by lia,nY]
 have g:(o.drop i).take (j+1-i)=(o.drop i).take (j-i)++[o[j]]:=by rw[show j+1-i=(j-i)+1 by lia,pW,wF,show i+(j-i)=j by lia,aP w];rfl
 have x:o=o.take i++((o.drop i).take (j+1-i)++o.drop (j+1)):=by have k:=d5 i o;have d:=d5 (j+1-i) (o.drop i);rw[kA,show i+(j+1-i)=j+1 by lia] at d;rw[d,k]
 obtain⟨A,p,l⟩:∃A p,h::o.take i=A++[p]:=⟨(h::o.take i).dropLast,(h::o.take i).getLast (by simp),(nE (by simp)).symm⟩;obtain⟨q,B,t⟩:∃q B,o.drop (j+1)++[h]=q::B:=by cases e:o.drop (j+1) with|nil=>exact⟨h,[],Z⟩|cons a r=>exact⟨a,r++[h],Z⟩
 have m:cS h o=A++p::((o.drop i).take (j+1-i)++q::B):=by
  unfold cS;rw[<-t];have:h::(o++[h])=(h::o.take i)++((o.drop i).take (j+1-i)++(o.drop (j+1)++[h])):=by
   conv=>lhs;rw[x]
   simp
  rw[this,l];simp
 have n:h::(Vbpcak.reversed o i j++[h])=A++p::(((o.drop i).take (j+1-i)).reverse++q::B):=by
  unfold Vbpcak.reversed;rw[<-t];have:h::(o.take i++((o.drop i).take (j+1-i)).reverse++o.drop (j+1)++[h])=(h::o.take i)++(((o.drop i).take (j+1-i)).reverse++(o.drop (j+1)++[h])):=by simp
  rw[this,l];simp
 have key:=MK T u A p ((o.drop i).take (j+1-i)) o[i] o[j] q B ⟨_,f⟩ ⟨_,g⟩;have c:A.length=i:=by have:=congrArg List.length l;simp at this;lia
 have y:(cS h o).getD i 0=p:=by rw[m,bh,cM (by lia),c,i7];rfl
 have z:(cS h o).getD (i+1) 0=o[i]:=by unfold cS;rw[bh,hE,cH (by lia),aP (by lia)];rfl
 have C:(cS h o).getD (j+1) 0=o[j]:=by unfold cS;rw[bh,hE,cH (by lia),aP (by lia)];rfl
 have s:((o.drop i).take (j+1-i)).length=j+1-i:=by rw[bA,cz];lia
 have D:(cS h o).getD (j+2) 0=q:=by rw[m,bh,cM (by lia),c,show j+2-i=(j+1-i)+1 by lia,hE,cM (by lia),s,i7];rfl
 unfold Dc;rw[y,z,C,D];have k:zc T h o=gn T (A++p::((o.drop i).take (j+1-i)++q::B)):=by rw[<-m];rfl
 have d:zc T h (Vbpcak.reversed o i j)=gn T (A++p::(((o.drop i).take (j+1-i)).reverse++q::B)):=by rw[<-n];rfl
 rw[k,d];lia
def det(T:Nat->Nat->Nat)(a x b:Nat):Int:=(T a x)+(T x b)-(T a b)
def ins(l:List Nat)(x j:Nat):List Nat:=l.take j++x::l.drop j
theorem G5(T:Nat->Nat->Nat)(l:List Nat)(x j:Nat)(h:j+1<l.length):(gn T (ins l x (j+1)):Int)=gn T l+det T (l.getD j 0) x (l.getD (j+1) 0):=by
 obtain⟨A,B,e,a,b⟩:=TV l j h;have c:ins l x (j+1)=A++l.getD j 0::x::l.getD (j+1) 0::B:=by
  unfold ins;have d:l.take (j+1)=A++[l.getD j 0]:=by rw[a,pW,getD_at (show j<l.length by lia),aP (show j<l.length by lia)];rfl
  have t2:l.drop (j+1)=l.getD (j+1) 0::B:=by rw[b,getD_at h];exact c_ h
  rw[d,t2];simp
 have key:=PQ T A (l.getD j 0) x (l.getD (j+1) 0) B;rw[c];rw[(congrArg (gn T) e)];unfold det;lia
theorem xa(h:Nat)(o:List Nat)(x j:Nat)(a:j<=o.length):cS h (ins o x j)=ins (cS h o) x (j+1):=by unfold cS ins;rw[nY,n8,mX a,mY a];simp
theorem ML(o:List Nat)(i:Nat)(a:i<o.length):ins (o.eraseIdx i) o[i] i=o:=by
 unfold ins;rw[yX];have hl:(o.take i).length=i:=by rw[bA];lia
 simp_all
theorem xb(o:List Nat)(i j:Nat)(a:i<o.length):fJ o i j=ins (o.eraseIdx i) o[i] j:=by unfold fJ;rw[aP a];rfl
def BY(T:Nat->Nat->Nat)(s:List Nat)(i j:Nat):Int:=
 det T (s.getD i 0) (s.getD (i+1) 0) (s.getD (i+2) 0)-det T ((s.eraseIdx (i+1)).getD j 0) (s.getD (i+1) 0) ((s.eraseIdx (i+1)).getD (j+1) 0)
theorem oI(h:Nat)(o:List Nat)(i:Nat)(a:i<o.length):cS h (o.eraseIdx i)=(cS h o).eraseIdx (i+1):=by unfold cS;rw[Ik,List.eraseIdx_append_of_lt_length a]
theorem PR(T:Nat->Nat->Nat)(h:Nat)(o:List Nat)(i j:Nat)(a:i<o.length)(g:j<o.length):(zc T h o:Int)-(zc T h (fJ o i j):Int)=BY T (cS h o) i j:=by
 have k:=cY a;have b:(cS h o).getD (i+1) 0=o[i]:=by unfold cS;rw[bh,hE,cH (by lia),aP (by lia)];rfl
 have c:(zc T h (fJ o i j))=gn T (cS h (o.eraseIdx i))+det T ((cS h (o.eraseIdx i)).getD j 0) o[i] ((cS h (o.eraseIdx i)).getD (j+1) 0):=by rw[xb o i j a];show(gn T (cS h (ins (o.eraseIdx i) o[i] j)):Int)=_;rw[xa h _ _ j (by lia),G5 T _ _ j (by rw[sV];lia)]
 have d:(zc T h o)=gn T (cS h (o.eraseIdx i))+det T ((cS h (o.eraseIdx i)).getD i 0) o[i] ((cS h (o.eraseIdx i)).getD (i+1) 0):=by
  have:zc T h o=gn T (cS h (ins (o.eraseIdx i) o[i] i)):=by rw[ML o i a];rfl
  rw[this,xa h _ _ i (by lia),G5 T _ _ i (by rw[sV];lia)]
 have e:(cS h (o.eraseIdx i)).getD i 0=(cS h o).getD i 0:=by rw[oI h o i a,bh,bh,List.getElem?_eraseIdx_of_lt (by simp)]
 have f:(cS h (o.eraseIdx i)).getD (i+1) 0=(cS h o).getD (i+2) 0:=by simp_all [oI,bh,List.getElem?_eraseIdx_of_ge]
 rw[c,d];unfold BY;rw[b,<-oI h o i a,e,f];lia
def turns(n:Nat):List (Nat×Nat):=(List.range n).flatMap fun i=>((List.range n).filter fun j=>ah (i<j)).map fun j=>(i,j)
def moves(n:Nat):List (Nat×Nat):=(List.range n).flatMap fun i=>((List.range n).filter fun j=>ah (i≠j)).map fun j=>(i,j)
theorem ny(h:p∈turns n):p.1<p.2/\p.2<n:=by obtain⟨i,a,h⟩:=ju.mp h;obtain⟨j,b,rfl⟩:=bK.mp h;simp_all
theorem sW(h:p∈moves n):p.1<n/\p.2<n:=by obtain⟨i,a,h⟩:=ju.mp h;obtain⟨j,b,rfl⟩:=bK.mp h;obtain⟨h1,c⟩:=b_.mp b;exact⟨bU.mp a,bU.mp h1⟩
theorem Am(o:List Nat):mz o=(turns o.length).map (fun p=>Vbpcak.reversed o p.1 p.2)++(moves o.length).map fun p=>fJ o p.1 p.2:=by dsimp only[mz,turns,moves];rw[SM,SM];simp only[dI];rfl
def apply(o:List Nat):Bool×Nat×Nat->List Nat|(true,i,j)=>Vbpcak.reversed o i j|(false,i,j)=>fJ o i j
def pick(T:Nat->Nat->Nat)(h:Nat)(o:List Nat):Option (List Nat):=
 match scan (fun p:Nat×Nat=>Dc T (cS h o) p.1 p.2) 0 (turns o.length) with
 |some p=>(match scan (fun p:Nat×Nat=>BY T (cS h o) p.1 p.2) (Dc T (cS h o) p.1 p.2) (moves o.length) with
  |some q=>aa (fJ o q.1 q.2)
  |none=>aa (Vbpcak.reversed o p.1 p.2))
 |none=>(match scan (fun p:Nat×Nat=>BY T (cS h o) p.1 p.2) 0 (moves o.length) with
  |some q=>aa (fJ o q.1 q.2)
  |none=>ae)
theorem qu(f:List Nat->Nat):∀(l m:List (List Nat)) (t:Nat),bW f t (l++m)=match bW f t l with
  |some x=>(match bW f (f x) m with|some y=>aa y|none=>aa x)
  |none=>bW f t m
 |[],m,t=>rfl
 |a::l,m,t=>by
  show(if f a<t then(match bW f (f a) (l++m) with|some y=>aa y|none=>aa a) else bW f t (l++m))=_
  show _=match(if f a<t then(match bW f (f a) l with|some y=>aa y|none=>aa a) else bW f t l) with
   |some x=>(match bW f (f x) m with|some y=>aa y|none=>aa x)
   |none=>bW f t m
  by_cases b:f a<t
  .rw[ai b,ai b,qu f l m (f a)]
   cases e:bW f (f a) l with
   |none=>dsimp only
   |some z=>
    dsimp only
    cases c:bW f (f z) m<;>rfl
  .rw[ak b,ak b]
   exact qu f l m t
theorem An(T:Nat->Nat->Nat)(d:∀a b,T a b=T b a)(h:Nat)(o:List Nat):bW (zc T h) (zc T h o) ((turns o.length).map fun p=>Vbpcak.reversed o p.1 p.2)
  =(scan (fun p:Nat×Nat=>Dc T (cS h o) p.1 p.2) 0 (turns o.length)).map fun p=>Vbpcak.reversed o p.1 p.2:=by
 rw[ml (zc T h) (fun p:Nat×Nat=>Vbpcak.reversed o p.1 p.2) (zc T h o),Int.sub_self,qt _ (fun p:Nat×Nat=>Dc T (cS h o) p.1 p.2) _ _ fun p c=>G4 T d h o p.1 p.2 (ny c).1 (ny c).2]
theorem rT(T:Nat->Nat->Nat)(h:Nat)(o:List Nat)(t:Nat):bW (zc T h) t ((moves o.length).map fun p=>fJ o p.1 p.2)
  =(scan (fun p:Nat×Nat=>BY T (cS h o) p.1 p.2) ((zc T h o:Int)-(t:Int)) (moves o.length)).map fun p=>fJ o p.1 p.2:=by
 rw[ml (zc T h) (fun p:Nat×Nat=>fJ o p.1 p.2) (zc T h o),qt _ (fun p:Nat×Nat=>BY T (cS h o) p.1 p.2) _ _ fun p a=>PR T h o p.1 p.2 (sW a).1 (sW a).2]
theorem TX(T:Nat->Nat->Nat)(d:∀a b,T a b=T b a)(h:Nat)(o:List Nat):bW (zc T h) (zc T h o) (mz o)=pick T h o:=by
 rw[Am,qu,An T d h o];unfold pick
 cases e:scan (fun p:Nat×Nat=>Dc T (cS h o) p.1 p.2) 0 (turns o.length) with
 |none=>show bW (zc T h) (zc T h o) _=_;rw[rT,Int.sub_self];cases scan (fun p:Nat×Nat=>BY T (cS h o) p.1 p.2) 0 (moves o.length)<;>rfl
 |some p=>
  have f:p∈turns o.length:=by
   have key:∀c l t (y:Nat×Nat),scan c t l=aa y->y∈l:=by
    intro c l
    induction l with
    |nil=>intro t y h;cases h
    |cons x r g=>
     intro t y h;unfold scan at h;split at h
     .cases e:scan c (c x) r with|none=>simp_all|some z=>rw[e] at h;cases h;exact aO _ (g _ _ e)
     .exact aO _ (g _ _ h)
   exact key _ _ _ _ e
  show(match bW (zc T h) (zc T h (Vbpcak.reversed o p.1 p.2)) _ with|some y=>aa y|none=>aa (Vbpcak.reversed o p.1 p.2))=_;rw[rT,(G4 T d h o p.1 p.2 (ny f).1 (ny f).2)];dsimp only;cases scan (fun p:Nat×Nat=>BY T (cS h o) p.1 p.2) (Dc T (cS h o) p.1 p.2) (moves o.length)<;>rfl
theorem PU(T:Nat->Nat->Nat)(h:Nat)(o:List Nat):pick T h o=
  (let b:=best (fun p:Nat×Nat=>Dc T (cS h o) p.1 p.2) (0,ae) (turns o.length)
   let m:=best (fun p:Nat×Nat=>BY T (cS h o) p.1 p.2) (0,ae) (moves o.length)
   if b.1<m.1 then m.2.map (fun q=>fJ o q.1 q.2) else b.2.map fun q=>Vbpcak.reversed o q.1 q.2):=by
 rw[pL,pL]
 dsimp only[pick]
 have f:∀a (l:List (Nat×Nat)) (t t'),t<=t'->(match scan a t l with|some x=>if t'<a x then scan a t' l=aa x else scan a t' l=ae|none=>scan a t' l=ae):=by
  intro a l
  induction l with
  |nil=>intro t t' _;rfl
  |cons x r i=>
   intro t t' g
   dsimp only[scan]
   by_cases h1:t<a x
   .rw[ai h1]
    by_cases c:t'<a x
    .rw[ai c]
     cases e:scan a (a x) r with
     |none=>dsimp only;rw[ai c]
     |some z=>
      dsimp only
      have:=sU a r _ _ e
      rw[ai (by omega)]
    .rw[ak c]
     have:=i (a x) t' (by omega)
     cases e:scan a (a x) r with
     |none=>
      rw[e] at this
      dsimp only at this⊢
      rwa [ak c]
     |some z=>
      rw[e] at this
      exact this
   .rw[ak h1,ak (by omega)]
    exact i t t' g
 cases e:scan (fun p:Nat×Nat=>Dc T (cS h o) p.1 p.2) 0 (turns o.length) with
 |none=>
  cases d:scan (fun p:Nat×Nat=>BY T (cS h o) p.1 p.2) 0 (moves o.length) with
  |none=>rfl
  |some q=>
   have:=sU _ _ _ _ d
   rw[ai this]
   rfl
 |some p=>
  have n:=sU _ _ _ _ e
  have:=f (fun p:Nat×Nat=>BY T (cS h o) p.1 p.2) (moves o.length) 0 (Dc T (cS h o) p.1 p.2) (by omega)
  cases d:scan (fun p:Nat×Nat=>BY T (cS h o) p.1 p.2) 0 (moves o.length) with
  |none=>
   rw[d] at this
   dsimp only at this⊢
   rw[this,ak (by omega)]
   rfl
  |some q=>
   rw[d] at this
   dsimp only at this⊢
   split at this
   .rename_i j
    rw[this,ai j]
    rfl
   .rename_i k
    rw[this,ak k]
    rfl
def least(f:List Nat->Nat):List (List Nat)->Option (List Nat)
 |[]=>ae
 |o::r=>match least f r with
  |some p=>if f p<f o then aa p else aa o
  |none=>aa o
theorem rV(f:List Nat->Nat)(o:List Nat)(r:List (List Nat)):least f (o::r)=match least f r with|some p=>if f p<f o then aa p else aa o|none=>aa o:=rfl
theorem nN(f:List Nat->Nat):∀(l:List (List Nat)) (t:Nat),bW f t l=match least f l with|some p=>if f p<t then aa p else ae|none=>ae
 |[],t=>rfl
 |o::r,t=>by
  show(if f o<t then(match bW f (f o) r with|some p=>aa p|none=>aa o) else bW f t r)=_;rw[nN f r (f o),nN f r t,rV]
  cases e:least f r with
  |none=>dsimp only
  |some p=>
   by_cases h1:f p<f o
   .by_cases a:f o<t
    .simp[h1,a,show f p<t by lia]
    .simp[h1,a]
   .by_cases a:f o<t
    .simp[h1,a]
    .simp[h1,a,show ¬f p<t by lia]
theorem xc(f:List Nat->Nat):∀(l:List (List Nat)) (p:List Nat),least f l=aa p->p∈l/\∀x∈l,f p<=f x
 |[],p,h=>by cases h
 |o::r,p,h=>by
  unfold least at h
  cases e:least f r with
  |none=>
   rw[e] at h;cases h
   refine⟨aT ..,fun x b=> ?_⟩;rcases aZ.mp b with rfl|b
   .exact aQ _
   .cases r with
    |nil=>simp at b
    |cons a d=>
     unfold least at e;split at e
     .split at e<;>cases e
     .cases e
  |some q=>
   rw[e] at h;obtain⟨h1,c⟩:=xc f r q e;dsimp only at h;split at h
   .rename_i g;cases h
    refine⟨aO _ h1,fun x b=> ?_⟩;rcases aZ.mp b with rfl|b
    .lia
    .exact c x b
   .rename_i i;cases h
    refine⟨aT ..,fun x b=> ?_⟩;rcases aZ.mp b with rfl|b
    .exact aQ _
    .have:=c x b;lia
theorem Dd(f:List Nat->Nat):∀(l m:List (List Nat)),least f (l++m)=match least f l with
  |some x=>(match least f m with|some y=>if f y<f x then aa y else aa x|none=>aa x)
  |none=>least f m
 |[],m=>rfl
 |a::l,m=>by
  show(match least f (l++m) with|some p=>if f p<f a then aa p else aa a|none=>aa a)=_
  rw[Dd f l m,rV]
  cases c:least f l with
  |none=>
   rfl
  |some x=>
   cases d:least f m with
   |none=>
    by_cases h:f x<f a<;>simp[h]
   |some y=>
    by_cases h1:f y<f x
    .by_cases b:f x<f a
     .simp[h1,b,show f y<f a by lia]
     .simp[h1,b]
    .by_cases b:f x<f a
     .simp[h1,b]
     .simp[h1,b,show ¬f y<f a by lia]
theorem Ao(f a:List Nat->Nat)(i c:Nat)(h:∀o,f (i::o)=c+a o):∀l:List (List Nat),least f (l.map (i::·))=(least a l).map (i::·)
 |[]=>rfl
 |o::r=>by
  show(match least f (r.map (i::·)) with|some p=>if f p<f (i::o) then aa p else aa (i::o)|none=>aa (i::o))=_;rw[Ao f a i c h r,rV]
  cases e:least a r with
  |none=>rfl
  |some p=>
   show(if f (i::p)<f (i::o) then aa (i::p) else aa (i::o))=(if a p<a o then aa p else aa o).map (i::·);rw[h,h];by_cases q:a p<a o
   .simp_all
   .rw[ak q,ak (by lia)];rfl
def So(T:Nat->Nat->Nat)(h a:Nat)(o:List Nat):Nat:=gn T (a::(o++[h]))
theorem G6(T:Nat->Nat->Nat)(h a i:Nat)(o:List Nat):So T h a (i::o)=T a i+So T h i o:=rfl
def opt(T:Nat->Nat->Nat)(h:Nat):Nat->Nat->List Nat->Nat|0,a,_=>T a h|n+1,a,l=>((l.map fun i=>T a i+opt T h n i (l.filter fun j=>ah (j≠i))).min?).getD (T a h)
def lJ(T:Nat->Nat->Nat)(h:Nat):Nat->Nat->List Nat->List Nat
 |0,_,_=>[]
 |n+1,a,l=>match l.find? (fun i=>ah (T a i+opt T h n i (l.filter fun j=>ah (j≠i))=opt T h (n+1) a l)) with
  |some i=>i::lJ T h n i (l.filter fun j=>ah (j≠i))
  |none=>[]
theorem ij:∀(l:List Nat) (i:Nat),l.Nodup->i∈l->(l.filter fun j=>ah (j≠i)).length+1=l.length
 |[],i,_,h=>by simp at h
 |a::r,i,hn,h=>by
  obtain⟨h1,b⟩:=c8.mp hn;by_cases e:a=i
  .subst e;have:r.filter (fun j=>ah (j≠a))=r:=n9.mpr fun x c=>au fun q=>h1 (q▸c);rw[dq (by simp),this,aK]
  .have d:i∈r:=by
    rcases aZ.mp h with q|q
    .exact az q.symm e
    .exact q
   have f:=ij r i b d;rw[du (by simpa using e),aK,aK];lia
theorem Ap(f:List Nat->Nat)(g:Nat->List (List Nat))(v:Nat->Nat)(b:Nat->List Nat):∀(l:List Nat),(∀i∈l,least f (g i)=aa (b i)/\f (b i)=v i)->l≠[]->
  ∃i∈l,least f (l.flatMap g)=aa (b i)/\(∀j∈l,v i<=v j)/\l.find? (fun j=>ah (v j=v i))=aa i
 |[],_,h=>az Z h
 |[a],hg,_=>by
  obtain⟨h1,k⟩:=hg a (aT ..)
  refine⟨a,aT ..,?_,fun j d=> ?_,by simp⟩
  .simp_all
  .exact(a0.mp d)▸(aQ _)
 |a::c::r,hg,_=>by
  obtain⟨h1,k⟩:=hg a (aT ..)
  obtain⟨i,m,e,n,p⟩:=Ap f g v b (c::r) (fun j d=>hg j (aO _ d)) (by simp)
  obtain⟨s,o⟩:=hg i (aO _ m)
  rw[bR,Dd,h1,e]
  dsimp only
  rw[o,k]
  by_cases q:v i<v a
  .rw[ai q]
   refine⟨i,aO _ m,Z,fun j d=> ?_,?_⟩
   .rcases aZ.mp d with rfl|d
    .lia
    .exact n j d
   .rwa [List.find?_cons_of_neg (by simp;lia)]
  .rw[ak q]
   refine⟨a,aT ..,Z,fun j d=> ?_,by simp⟩
   rcases aZ.mp d with rfl|d
   .exact aQ _
   .have:=n j d
    lia
theorem PV{l:List Nat}(h:m∈l)(a:∀x∈l,m<=x):l.min?.getD d=m:=by have:l.min? =aa m:=Kn.mpr ⟨h,fun b c=>a b c⟩;rw[this];rfl
theorem vE(T:Nat->Nat->Nat)(h:Nat):∀(n a:Nat) (l:List Nat),l.Nodup->l.length=n->least (So T h a) (iY n l)=aa (lJ T h n a l)/\So T h a (lJ T h n a l)=opt T h n a l
 |0,a,l,_,hl=>⟨Z,Z⟩
 |n+1,a,l,hn,hl=>by
  have c:l≠[]:=by intro e;subst e;simp at hl
  have step:∀i∈l,least (So T h a) ((iY n (l.filter fun j=>ah (j≠i))).map (i::·))=aa (i::lJ T h n i (l.filter fun j=>ah (j≠i)))/\
    So T h a (i::lJ T h n i (l.filter fun j=>ah (j≠i)))=T a i+opt T h n i (l.filter fun j=>ah (j≠i)):=fun i b=>by
   obtain⟨h1,d⟩:=vE T h n i (l.filter fun j=>ah (j≠i)) (hn.filter _) (by have:=ij l i hn b;lia)
   refine⟨?_,?_⟩
   .rw[Ao (So T h a) (So T h i) i (T a i) (fun o=>G6 T h a i o),h1]
    rfl
   .rw[G6,d]
  obtain⟨i,b,e,f,g⟩:=Ap (So T h a) (fun i=>(iY n (l.filter fun j=>ah (j≠i))).map (i::·)) (fun i=>T a i+opt T h n i (l.filter fun j=>ah (j≠i))) (fun i=>i::lJ T h n i (l.filter fun j=>ah (j≠i))) l step c;have ho:opt T h (n+1) a l=T a i+opt T h n i (l.filter fun j=>ah (j≠i)):=by refine PV (bK.mpr ⟨i,b,Z⟩) fun x m=> ?_;obtain⟨j,p,rfl⟩:=bK.mp m;exact f j p
  have hg:lJ T h (n+1) a l=i::lJ T h n i (l.filter fun j=>ah (j≠i)):=by
   show(match l.find? (fun k=>ah (T a k+opt T h n k (l.filter fun j=>ah (j≠k))=opt T h (n+1) a l)) with
    |some i=>i::lJ T h n i (l.filter fun j=>ah (j≠i))
    |none=>[])=_
   rw[ho,g]
  rw[hg];refine⟨?_,(step i b).2.trans ho.symm⟩;assumption
theorem gX(x:Nat):∀(l:List Nat) (y:Nat),y∈eN x l↔y=x\/y∈l
 |[],y=>by simp[eN]
 |a::r,y=>by
  dsimp only[eN];split
  .simp
  .split
   .simp_all
   .rw[aZ,gX x r y,aZ];constructor
    .rintro(h|h|h)
     .exact .inr (.inl h)
     .exact .inl h
     .exact .inr (.inr h)
    .rintro(h|h|h)
     .exact .inr (.inl h)
     .exact .inl h
     .exact .inr (.inr h)
theorem oJ(x:Nat):∀(l:List Nat),l.Pairwise (· <·)->(eN x l).Pairwise (· <·)
 |[],_=>by simp[eN]
 |a::r,h=>by
  obtain⟨h1,d⟩:=fR.mp h;dsimp only[eN];split
  .rename_i e;refine fR.mpr ⟨fun b c=> ?_,h⟩;rcases aZ.mp c with rfl|c
   .exact e
   .have:=h1 b c;lia
  .split
   .exact h
   .refine fR.mpr ⟨fun b c=> ?_,oJ x r d⟩;rcases(gX x r b).mp c with rfl|c
    .lia
    simp_all
theorem rW{d:Type}(f:d->Nat):∀(hs:List d) (l:List Nat),l.Pairwise (· <·)->(hs.foldl (fun l h=>eN (f h) l) l).Pairwise (· <·)/\∀y,y∈hs.foldl (fun l h=>eN (f h) l) l↔y∈l\/∃h∈hs,f h=y
 |[],l,hl=>⟨hl,fun y=>by simp⟩
 |a::r,l,hl=>by
  obtain⟨h1,g⟩:=rW f r (eN (f a) l) (oJ _ l hl);refine⟨h1,fun y=>(g y).trans ?_⟩;rw[gX];constructor
  .rintro((h|h)|⟨b,c,e⟩)
   .exact .inr ⟨a,aT ..,h.symm⟩
   .exact .inl h
   .exact .inr ⟨b,aO _ c,e⟩
  .rintro(h|⟨b,c,e⟩)
   .exact .inl (.inr h)
   .rcases aZ.mp c with rfl|c
    .exact .inl (.inl e.symm)
    .exact .inr ⟨b,c,e⟩
theorem Aq(hs:List yY):(cC hs).Pairwise (· <·):=(rW (fun h:yY=>h.d) hs [] List.Pairwise.nil).1
theorem pM(hs:List yY)(y:Nat):y∈cC hs↔∃h∈hs,h.d=y:=by have:=(rW (fun h:yY=>h.d) hs [] List.Pairwise.nil).2 y;simpa [cC] using this
theorem Eu:∀(l m:List Nat),l.Pairwise (· <·)->m.Pairwise (· <·)->(∀y,y∈l↔y∈m)->l=m
 |[],[],_,_,_=>rfl
 |[],b::m,_,_,h=>az ((h b).mpr (aT ..)) (by simp)
 |a::l,[],_,_,h=>az ((h a).mp (aT ..)) (by simp)
 |a::l,b::m,hl,i,h=>by
  obtain⟨f,j⟩:=fR.mp hl;obtain⟨g,k⟩:=fR.mp i;have e:a=b:=by
   rcases aZ.mp ((h a).mp (aT ..)) with q|q
   .exact q
   .rcases aZ.mp ((h b).mpr (aT ..)) with d|d
    .exact d.symm
    .have:=g a q;have:=f b d;lia
  subst e;rw[Eu l m j k fun y=> ?_];constructor
  .intro c;rcases aZ.mp ((h y).mp (aO _ c)) with q|q
   .have:=f y c;lia
   .exact q
  .intro c;rcases aZ.mp ((h y).mpr (aO _ c)) with q|q
   .have:=g y c;lia
   .exact q
theorem Ar(f:Nat->Nat):∀(r:List Nat) (c:Nat),r.foldl (fun c n=>if f n<f c then n else c) c=match cn f r with|some j=>if f j<f c then j else c|none=>c
 |[],c=>rfl
 |x::r,c=>by
  show r.foldl (fun c n=>if f n<f c then n else c) (if f x<f c then x else c)=match(match cn f r with|some j=>if f j<f x then aa j else aa x|none=>aa x) with|some j=>if f j<f c then j else c|none=>c
  rw[Ar f r]
  cases e:cn f r with
  |none=>rfl
  |some j=>
   by_cases h1:f x<f c
   .by_cases a:f j<f x
    .simp[h1,a,show f j<f c by lia]
    .simp[h1,a]
   .by_cases a:f j<f x
    .simp[h1,a]
    .simp[h1,a,show ¬f j<f c by lia]
theorem fB(f:Nat->Nat):∀(l:List Nat) (m:Nat),cn f l=aa m->m∈l
 |[],m,h=>by cases h
 |x::r,m,h=>by
  unfold cn at h
  cases e:cn f r with
  |none=>simp_all
  |some j=>
   rw[e] at h;dsimp only at h;split at h
   .cases h;exact aO _ (fB f r _ e)
   .cases h;exact aT ..
theorem iK(f:Nat->Nat)(x:Nat)(r:List Nat):∃m,cn f (x::r)=aa m:=by dsimp only[cn];cases cn f r with|none=>exact⟨_,Z⟩|some j=>dsimp only;split<;>exact⟨_,Z⟩
theorem MM(f:Nat->Nat)(x:Nat)(r:List Nat):cn f (x::r)=aa ((x::r).foldl (fun c n=>if f n<f c then n else c) x):=by
 rw[Ar];obtain⟨m,a⟩:=iK f x r;rw[a];dsimp only;by_cases h:f m<f x
 .rw[ai h]
 .rw[ak h];unfold cn at a
  cases e:cn f r with
  |none=>rw[e] at a;exact a.symm
  |some j=>
   rw[e] at a;dsimp only at a;split at a
   .cases a;lia
   .exact a.symm
theorem mm(f g:Nat->Nat):∀(l:List Nat),(∀i∈l,f i=g i)->cn f l=cn g l|[],_=>rfl|x::r,h=>by show(match cn f r with|some j=>if f j<f x then aa j else aa x|none=>aa x)=(match cn g r with|some j=>if g j<g x then aa j else aa x|none=>aa x);rw[(mm f g r fun i a=>h i (aO _ a))];cases e:cn g r with|none=>rfl|some j=>dsimp only;rw[h j (aO _ (fB g r j e)),h x (aT ..)]
theorem erase_filter:∀(l:List Nat) (i:Nat),l.Nodup->l.erase i=l.filter fun j=>ah (j≠i)
 |[],i,_=>rfl
 |a::r,i,h=>by
  obtain⟨h1,b⟩:=c8.mp h;by_cases e:a=i
  .subst e;rw[kB,dq (by simp)];exact(n9.mpr fun x c=>au (show x≠a from fun q=>h1 (q▸c))).symm
  .rw[iW (by simpa using e),du (by simpa using e),erase_filter r i b]
def Sb(n left:Nat):List Nat:=(List.range n).filter fun k=>left.testBit k
theorem nO:k∈Sb n left↔k<n/\left.testBit k=true:=by unfold Sb;rw[b_,bU]
theorem PX(n left:Nat):(Sb n left).Nodup:=dS.filter _
theorem G7:∀left<128,∀k<7,left.testBit k=af->left-2^k=left^^^2^k:=by decide+kernel
theorem TY(left k:Nat)(hl:left<128)(hk:k<7)(h:left.testBit k=af):left-2^k=left^^^2^k:=G7 left hl k hk h
theorem Ew(n left k:Nat)(hl:left<128)(hk:k<7)(h:left.testBit k=af):Sb n (left-2^k)=(Sb n left).filter fun j=>ah (j≠k):=by
 unfold Sb;rw[TY left k hl hk h,List.filter_filter];apply pX;intro i b;rw[Nat.testBit_xor,Nat.testBit_two_pow];by_cases q:k=i
 .subst q;simp[h]
 .have a:i≠k:=fun z=>q z.symm;simp[q,a]
theorem Ju(left k:Nat)(h:left.testBit k=af):2^k<=left:=Nat.ge_two_pow_of_testBit h
theorem K5(n:Nat):Sb n 0=[]:=by unfold Sb;simp
theorem Ex(n:Nat):Sb n (2^n-1)=List.range n:=by apply n9.mpr;intro k hk;rw[Nat.testBit_two_pow_sub_one];exact au (bU.mp hk)
theorem Vy(hl:left<2^n)(h:left≠0):Sb n left≠[]:=by
 intro e;apply h;apply Nat.eq_of_testBit_eq;intro i;rw[Nat.zero_testBit]
 cases q:left.testBit i with
 |false=>rfl
 |true=>
  by_cases a:i<n
  .have:i∈Sb n left:=nO.mpr ⟨a,q⟩;rw[e] at this;simp at this
  .have h1:=Ju left i q;have b:2^n<=2^i:=u7 (by decide) (by lia);lia
def R(T:Nat->Nat->Nat)(n left a:Nat):Nat:=opt T n (Sb n left).length a (Sb n left)
theorem X1(T:Nat->Nat->Nat)(n a:Nat):R T n 0 a=T a n:=by unfold R;rw[K5];rfl
theorem qv(hn:n<=7)(hl:left<128)(h:k∈Sb n left):(Sb n (left-2^k)).length+1=(Sb n left).length:=by rw[Ew n left k hl (by have:=(nO.mp h).1;lia) (nO.mp h).2];exact ij _ _ (PX n left) h
theorem PY(T:Nat->Nat->Nat)(hn:n<=7)(hl:left<128)(a:Nat)(c:Sb n left≠[]):R T n left a=(((Sb n left).map fun i=>T a i+R T n (left-2^i) i).min?).getD (T a n):=by obtain⟨m,d⟩:∃m,(Sb n left).length=m+1:=⟨(Sb n left).length-1,by have:=kW.mpr c;lia⟩;unfold R;rw[d];show((Sb n left).map fun i=>T a i+opt T n m i ((Sb n left).filter fun j=>ah (j≠i))).min?.getD (T a n)=_;congr 2;apply fD;intro i b;have e:=qv hn hl b;rw[show(Sb n (left-2^i)).length=m by lia,Ew n left i hl (by have:=(nO.mp b).1;lia) (nO.mp b).2]
theorem G8:∀left<128,∀k<7,ah (left&&&2^k≠0)=left.testBit k:=by decide+kernel
theorem G9:∀(l:List Nat),l≠[]->∃m,l.min? =aa m/\m∈l/\∀x∈l,m<=x:=fun l h=>by
 cases e:l.min? with
 |none=>exact az (List.min?_eq_none_iff.mp e) h
 |some m=>
  obtain⟨h1,a⟩:=Kn.mp e
  exact⟨m,Z,h1,fun x b=>a x b⟩
theorem As:∀(l:List Nat),(∀i∈l,p i=q i)->l.find? p=l.find? q|[],_=>rfl|a::r,h=>by have c:=h a (aT ..);have d:=As r fun i b=>h i (aO _ b);cases e:q a with|true=>simp_all|false=>simp_all
theorem G_(T:Nat->Nat->Nat)(hn:n<=7)(hl:left<128)(a:Nat)(g:Sb n left≠[]):
  ∃i,(Sb n left).find? (fun i=>ah (T a i+R T n (left-2^i) i=R T n left a))=aa i/\lJ T n (Sb n left).length a (Sb n left)=i::lJ T n (Sb n (left-2^i)).length i (Sb n (left-2^i)):=by
 obtain⟨m,h⟩:∃m,(Sb n left).length=m+1:=⟨(Sb n left).length-1,by have:=kW.mpr g;lia⟩
 have hR:=PY T hn hl a g
 obtain⟨v,e,hv,t⟩:=G9 ((Sb n left).map fun i=>T a i+R T n (left-2^i) i) (by simp_all)
 rw[e,jk] at hR
 obtain⟨j,l,o⟩:=bK.mp hv
 have b:∃i,(Sb n left).find? (fun i=>ah (T a i+R T n (left-2^i) i=R T n left a))=aa i:=by
  cases q:(Sb n left).find? (fun i=>ah (T a i+R T n (left-2^i) i=R T n left a)) with
  |some i=>exact⟨i,Z⟩
  |none=>
   have:=wG.mp q j l
   exact az (au (o.trans hR.symm)) this
 obtain⟨i,c⟩:=b
 refine⟨i,c,?_⟩
 have d:=kQ c
 have f:(Sb n left).find? (fun i=>ah (T a i+opt T n m i ((Sb n left).filter fun j=>ah (j≠i))=opt T n (m+1) a (Sb n left)))=aa i:=by
  rw[<-c]
  apply As
  intro k hk
  have p:=qv hn hl hk
  have r:R T n (left-2^k) k=opt T n m k ((Sb n left).filter fun j=>ah (j≠k)):=by
   unfold R
   rw[show(Sb n (left-2^k)).length=m by lia,Ew n left k hl (by have:=(nO.mp hk).1;lia) (nO.mp hk).2]
  have s:R T n left a=opt T n (m+1) a (Sb n left):=by unfold R;rw[h]
  rw[r,s]
 have p:=qv hn hl d
 rw[h]
 show(match(Sb n left).find? (fun i=>ah (T a i+opt T n m i ((Sb n left).filter fun j=>ah (j≠i))=opt T n (m+1) a (Sb n left))) with
  |some i=>i::lJ T n m i ((Sb n left).filter fun j=>ah (j≠i))
  |none=>[])=_
 rw[f,show(Sb n (left-2^i)).length=m by lia,Ew n left i hl (by have:=(nO.mp d).1;lia) (nO.mp d).2]
end M
namespace D
open PySem PySem.Spec PyProof.Rows L2
variable {P0:b7} {w0:cW} {K:aM} {b0:Heap} {m0:Str->Option bj} (Y:Txt P0 w0 K b0 m0)
section
open Vbpcak (Hole)
theorem fj{K:aM}(e:cI H H')(h:oW K H a xs):oW K H' a xs:=by
 rcases h with(h|⟨o,h⟩)|h
 .exact .inl (.inl (e _ _ h))
 .exact .inl (.inr ⟨o,e _ _ h⟩)
 .exact .inr h
theorem aN(h:H p=ae):cI H (upd H p o):=fun b u e=>by
 rwa [aL (aS e h)]
theorem cD(s:cI H H1)(h:H p=ae):cI H (upd H1 p o):=fun b u e=>by
 exact(aL (aS e h))▸(s b u e)
theorem jX{d c:Type}{F:d->c->Prop}:∀{l:List d} {m:List c} {i:Nat} {b:c},Paired F l m->m[i]? =aa b->∃a,l[i]? =aa a/\F a b
 |_,_,_,_, .nil,h=>by simp at h
 |_,_,0,_, .cons f _,h=>by simp at h;subst h;exact⟨_,Z,f⟩
 |_,_,i+1,_, .cons _ r,h=>by obtain⟨a,h1,e⟩:=jX r (by exact h);exact⟨a,by exact h1,e⟩
theorem dj{c d:Type}{F:c->d->Prop}:∀{l:List c} {m:List d} {i:Nat} {a:c},Paired F l m->l[i]? =aa a->∃b,m[i]? =aa b/\F a b
 |_,_,_,_, .nil,h=>by simp at h
 |_,_,0,_, .cons f _,h=>by simp at h;subst h;exact⟨_,Z,f⟩
 |_,_,i+1,_, .cons _ r,h=>by obtain⟨a,h1,e⟩:=dj r (by exact h);exact⟨a,by exact h1,e⟩
def hv(h:Hole):List V:=[.int h.x, .int h.y, .int h.d]
def HT(K:aM)(H:Hp)(a:Addr)(h:Hole):Prop:=oW K H a (hv h)
structure HL K(H:Hp) l(as:List Addr) hs:Prop where
 lst:H l=aa (.lst (as.map V.ref))
 at_:Paired (HT K H) as hs
theorem HL.same{K:aM}(e:cI H H')(h:HL K H l as hs):HL K H' l as hs:=⟨e _ _ h.lst,h.at_.mono fun _ _ q=>fj e q⟩
theorem HL.len{K:aM}(h:HL K H l as hs):as.length=hs.length:=h.at_.length
theorem HL.get{K:aM}(h:HL K H l as hs)(b:i<hs.length):∃a,(as.map V.ref)[i]? =aa (.ref a)/\HT K H a (bb hs i):=by
 obtain⟨a,h1,c⟩:=jX h.at_ (aP b);refine⟨a,by rw[bp,h1];rfl,?_⟩;have e:bb hs i=hs[i]:=by unfold bb;rw[bh,aP b];rfl
 rwa [e]
def nv(o:List Nat):List V:=o.map fun(n:Nat)=>V.int n
def H0:Hole:=⟨0,0,0⟩
def tL(c:Nat)(a b:Hole):Nat:=Vbpcak.way a.pt b.pt+if a=H0\/b=H0\/a.d=b.d then 0 else c
section
inductive PZ K H(Q:VK):List V->Prop|mk:∀a b h g,(HT K H a h)->(HT K H b g)->(Q (.int (Vbpcak.way h.pt g.pt)) H)->PZ K H Q [.ref a, .ref b]
theorem Ey:Ok Y 1 31 (PZ K):=by
 refine Y.ok ?_;rintro _ H _ Q nd c ⟨a,b,h,g,d,f,k⟩;refine⟨_,(cy (ja (Mj Z) Z Y.nn (by rfl) (aR (ja F4 Z Y.nn (by rfl) (cO (cu fK (bM di (pv 0) aY) (bM di (pv 1) aY)))) (cO (ja F4 Z Y.nn (by rfl) (cO (cu fK (bM di (pv 0) aY) (bM di (pv 1) aY)))))))),?_⟩;repeat (first|refine⟨_,Z,?_⟩|refine⟨_,_,Z,Z,?_⟩|refine⟨_,_,Z,?_⟩|refine⟨_,_,_,_,Z,Z,(by assumption),Z,?_⟩)
 have e:∀x y z w,(if(if y-w<0 then -(y-w) else y-w)>(if x-z<0 then -(x-z) else x-z) then(if y-w<0 then -(y-w) else y-w) else(if x-z<0 then -(x-z) else x-z))=((Vbpcak.way (x,y) (z,w):Nat)):=by intro x y z w;unfold Vbpcak.way;dsimp only;split<;>split<;>split<;>omega
 rwa [e]
def hd(h:Hole):u0:= .tuple [.int h.x, .int h.y, .int h.d]
theorem T4(q:HT K H a h):Dp K H (.ref a) (hd h):= .tup q (.cons (.int _) (.cons (.int _) (.cons (.int _) .nil)))
theorem Vz(h g:Hole):la (hd h) (hd g)=ah (h=g):=by obtain⟨x,y,d⟩:=h;obtain⟨a,b,d'⟩:=g;unfold hd;simp only[la,u9,Hole.mk.injEq];by_cases h1:x=a<;>by_cases c:y=b<;>by_cases e:d=d'<;>simp[h1,c,e]<;>omega
theorem vG(h:Hole):kH (hd h)=true:=by unfold hd kH;rfl
structure acJ K(mg:Str->Option bj) a:Prop where
 is:∀H,HT K H a H0
include Y in
theorem Txt.hh:acJ K m0 nK:=⟨Y.t2⟩
inductive P4 K H(Q:VK):List V->Prop|mk:∀a b h g (c:Nat),(HT K H a h)->(HT K H b g)->(Q (.int (tL c h g)) H)->P4 K H Q [.ref a, .ref b, .int c]
theorem vH:Ok Y 2 32 (P4 K):=by
 refine Y.ok ?_;rintro _ H _ Q nd e ⟨a,b,h,g,c,f,i,k⟩;have d:=e.units;refine⟨_,(aI (da (PW.pt (xQ (cK (IW d) (pv 0) (pK Y.rr)) (xQ (cK (IW d) (pv 1) (pK Y.rr)) (uo (cK jt (bM di (pv 0) aY) (bM di (pv 1) aY)))))) (cy (cP (Ey Y) e.mono (aR (pv 0) (cO (pv 1))))) ck) (cy (cu dJ (cP (Ey Y) e.mono (aR (pv 0) (cO (pv 1)))) (pv 2)))),?_⟩;refine⟨hd h,hd H0,T4 f,T4 (Y.hh.is H),vG _,vG _,_,Z,?_⟩;rw[Vz];have fin:h=H0\/g=H0\/h.d=g.d->zQ (PZ K) (tY (oV 0) (tY (oV 1) uv)) [aa (.ref a),aa (.ref b),aa (.int (c:Int))] H Q:=fun q=>⟨a,b,h,g,f,i,(fun q=>by rw[(fun q=>by unfold tL;rw[ai q];rfl:h=H0\/g=H0\/h.d=g.d->tL c h g=Vbpcak.way h.pt g.pt) q] at k;exact k) q⟩;refine e_ (fun q=>lI (fin (.inl (aq q)))) (fun q=>⟨hd g,hd H0,T4 i,T4 (Y.hh.is H),vG _,vG _,_,Z,?_⟩);rw[Vz];refine e_ (fun j=>lI (fin (.inr (.inl (aq j))))) (fun j=> ?_);repeat (first|refine⟨_,Z,?_⟩|refine⟨_,_,Z,Z,?_⟩|refine⟨_,_,Z,?_⟩|refine⟨_,_,_,_,Z,Z,(by assumption),Z,?_⟩)
 refine⟨Z,_,Z,?_⟩;refine e_ (fun l=> ?_) (fun l=> ?_)
 .have m:h.d=(g.d:Int):=by simpa using (aq l)
  exact fin (.inr (.inr (by omega)))
 .refine⟨a,b,h,g,f,i,_,_,Z,Z,?_⟩;rw[(fun q=>by unfold tL;rw[ak q];omega:¬(h=H0\/g=H0\/h.d=g.d)->((Vbpcak.way h.pt g.pt:Nat):Int)+(c:Int)=((tL c h g:Nat):Int)) (fun z=> ?_)]
  .exact k
  .rcases z with z|z|z
   .exact q (au z)
   .exact j (au z)
   .exact l (au (by rw[z]))
def qY(c:Nat)(n:Nat)(a:Hole)(l:List Hole):Nat×Hole:=l.foldl (fun s h=>(s.1+tL c s.2 h,h)) (n,a)
theorem VA(q:1<=h.d):h≠H0:=fun e=>by rw[e] at q;exact az q (by decide)
theorem De(d:1<=a.d)(f:1<=b.d):tL c a b=rj c a b:=by
 unfold tL rj;by_cases e:a.d=b.d
 .rw[ai (.inr (.inr e)),ai e]
 .rw[ak (fun z=>by rcases z with z|z|z;exact VA d z;exact VA f z;exact e z),ak e]
theorem Ha(c:Nat)(b:Hole):tL c H0 b=Vbpcak.way jB b.pt:=by unfold tL;rw[ai (.inl rfl)];rfl
theorem X2(c:Nat)(a:Hole):tL c a H0=Vbpcak.way a.pt jB:=by unfold tL;rw[ai (.inr (.inl rfl))];rfl
theorem Df(c:Nat):∀(r:List Hole) (n:Nat) (a:Hole),1<=a.d->(∀h∈r,1<=h.d)->qY c n a r=(n+yr c (a::r),r.getLastD a)|[],n,a,_,_=>rfl|b::r,n,a,f,d=>by have e:=d b (aT ..);show qY c (n+tL c a b) b r=_;rw[(Df c r (n+tL c a b) b e fun h q=>d h (aO _ q)),De f e,wH];cases r<;>rfl
theorem xY(c:Nat)(l:List Hole)(hl:∀h∈l,1<=h.d):(qY c 0 H0 l).1+tL c (qY c 0 H0 l).2 H0=Vbpcak.length c l:=by cases l with|nil=>rfl|cons a r=>have e:qY c 0 H0 (a::r)=qY c (0+tL c H0 a) a r:=rfl;rw[e,Df c r _ a (hl a (aT ..)) fun h q=>hl h (aO _ q),X2,Ha];show 0+Vbpcak.way jB a.pt+yr c (a::r)+Vbpcak.way (r.getLastD a).pt jB=Vbpcak.way jB a.pt+yr c (a::r)+Vbpcak.way (r.getLastD a).pt jB;omega
theorem take_snoc{a:Type}{l:List a}{x:a}(h:l[i]? =aa x):l.take (i+1)=l.take i++[x]:=by rw[pW,h];rfl
theorem o7{i:Nat}(h:(nv o)[i]? =aa v):∃n,o[i]? =aa n/\v= .int (n:Int):=by
 unfold nv at h;rw[bp] at h
 cases e:o[i]? with
 |none=>rw[e] at h;cases h
 |some n=>rw[e] at h;exact⟨n,Z,(aW h).symm⟩
theorem iO(h:n<hs.length):bb hs n∈hs:=by unfold bb;rw[bh,aP h];exact mG h
def Ord(o:List Nat)(hs:List Hole):Prop:=∀n∈o,n<hs.length
def jQ(hs:List Hole):Prop:=∀h∈hs,1<=h.d
theorem rX{i n:Nat}(h:o[i]? =aa n):(bE hs o)[i]? =aa (bb hs n):=by unfold bE;rw[bp,h];rfl
inductive VB K H(Q:VK):List V->Prop|mk:∀lh lo as hs o (c:Nat),(HL K H lh as hs)->(H lo=aa (.lst (nv o)))->(Ord o hs)->(jQ hs)->(Q (.int (ia c hs o)) H)->VB K H Q [.ref lh, .ref lo, .int c]
theorem yC:Ok Y 3 33 (VB K):=by
 refine Y.ok ?_;rintro _ H _ Q nd j ⟨lh,lo,as,hs,o,c,hl,ho,l,p,k⟩;refine⟨_,(aI (bB 3 aY) (aI (bB 4 (pK Y.rr)) (aI (fT (eM (pv 1)) (cJ 5) (aI (ur 3 (cP (vH Y) j.mono (aR (pv 4) (aR (bM bP (pv 0) (pv 5)) (cO (pv 2))))) wL) (b6 (bB 4 (bM bP (pv 0) (pv 5)))))) (cy (cu dJ (pv 3) (cP (vH Y) j.mono (aR (pv 4) (aR (pK Y.rr) (cO (pv 2)))))))))),?_⟩;refine⟨lo,Z,⟨_, .of ho⟩,iJ (K:=K) (fun i f H'=>E2 fun b v=>A3 (H'=H) (HT K H b (qY c 0 H0 ((bE hs o).take i)).2) (f=[aa (.ref lh),aa (.ref lo),aa (.int c),aa (.int ((qY c 0 H0 ((bE hs o).take i)).1)),aa (.ref b),v])) ⟨nK,ae,Z,Y.hh.is H,Z⟩ (fun i f H' _ ⟨_,_,e,_,_⟩=>by rw[e];exact .of ho) ?_ ?_⟩
 .rintro i x f H' r ⟨b,v,rfl,g,rfl⟩;obtain⟨n,hn,rfl⟩:=o7 r;obtain⟨a,m,d⟩:=hl.get (l n (bC hn));have e:qY c 0 H0 ((bE hs o).take (i+1))=((qY c 0 H0 ((bE hs o).take i)).1+tL c (qY c 0 H0 ((bE hs o).take i)).2 (bb hs n),bb hs n):=by rw[take_snoc (rX hn)];unfold qY;rw[iX];rfl
  refine⟨_,Z,lh,_,_,_,Z,Z, .of hl.lst,cB m,b,a,_,_,c,g,d,_,_,Z,Z,lh,_,_,_,Z,Z, .of hl.lst,cB m,?_⟩;refine⟨a,aa (.int n),Z,?_,?_⟩
  .rw[e];exact d
  .rw[e];rfl
 .rintro f H' ⟨b,v,rfl,g,rfl⟩;have s:(nv o).length=(bE hs o).length:=by unfold nv bE;rw[aE,aE]
  rw[s,cR] at g⊢;refine⟨b,nK,_,H0,c,g,Y.hh.is _,_,_,Z,Z,?_⟩;have e:=xY c (bE hs o) (fun h q=>by obtain⟨n,hn,rfl⟩:=bK.mp q;exact p _ (iO (l n hn)))
  rwa [show(((qY c 0 H0 (bE hs o)).1)+((tL c (qY c 0 H0 (bE hs o)).2 H0:Nat)))=((ia c hs o:Nat):Int) by unfold ia;rw[<-e];omega]
theorem vI:∀(l:List Hole) (a b:Hole),iz (l++[a,b])=iz (l++[a])+if a.d=b.d then 0 else 1
 |[],a,b=>by show(if a.d=b.d then 0 else 1)+0=0+_;omega
 |[c],a,b=>by show(if c.d=a.d then 0 else 1)+((if a.d=b.d then 0 else 1)+0)=(if c.d=a.d then 0 else 1)+0+_;omega
 |c::d::l,a,b=>by show(if c.d=d.d then 0 else 1)+iz (d::l++[a,b])=(if c.d=d.d then 0 else 1)+iz (d::l++[a])+_;rw[(vI (d::l) a b)];omega
inductive VD K H(Q:VK):List V->Prop|mk:∀lh lo as hs o,(HL K H lh as hs)->(H lo=aa (.lst (nv o)))->(Ord o hs)->(o.length<=100)->(Q (.int (iz (bE hs o))) H)->VD K H Q [.ref lh, .ref lo]
theorem K6{i n:Nat}(h:o[i]? =aa n):(nv o)[i]? =aa (.int (n:Int)):=by unfold nv;rw[bp,h];rfl
theorem cZ(o:List Nat):(nv o).length=o.length:=by unfold nv;rw[aE]
theorem xd:Ok Y 1 35 (VD K):=by
 refine Y.ok ?_;rintro _ H _ Q nd w ⟨lh,lo,as,hs,o,hl,ho,e,f,k⟩;refine⟨_,(aI (bB 2 aY) (aI (fT (nt Z Y.nn (aR aY (cO (dZ Y.nn (pv 1))))) (cJ 3) (b6 (da (cK CI (bM di (bM bP (pv 0) (bM bP (pv 1) (cu fK (pv 3) aY))) aY) (bM di (bM bP (pv 0) (bM bP (pv 1) (pv 3))) aY)) (b6 (ur 2 aY wL)) ck))) (cy (pv 2)))),?_⟩;refine⟨lo,_,Z, .inl (.of ho),?_⟩;refine⟨1,_,Z,⟨by decide,by decide,by rw[cZ];omega,by rw[cZ];omega⟩,?_⟩;have m:(((nv o).length:Int)-1).toNat=o.length-1:=by rw[cZ];omega
 rw[m];refine iE (fun i b H'=>E1 fun v:Option V=>A2 (H'=H) (b=[aa (.ref lh),aa (.ref lo),aa (.int (iz ((bE hs o).take (i+1)):Nat)),v])) ⟨ae,Z,?_⟩ ?_ ?_
 .rw[(fun l=>by cases l<;>rfl:∀l:List Hole,iz (l.take 1)=0)];rfl
 .rintro i b H' x ⟨v,rfl,rfl⟩;have h1:i<o.length:=by omega
  have g:i+1<o.length:=by omega
  have h:=aP h1;have j:=aP g;obtain⟨n,p,r⟩:=hl.get (e _ (mG h1));obtain⟨s,c,t⟩:=hl.get (e _ (mG g));have a:iz ((bE hs o).take (i+2))=iz ((bE hs o).take (i+1))+if(bb hs o[i]).d=(bb hs o[i+1]).d then 0 else 1:=by rw[take_snoc (rX j),take_snoc (rX h),bJ];exact vI _ _ _
  refine⟨_,_,Z,Z,lo,_,_,_,Z,Z, .of ho,at_of (by omega) (K6 h),lh,_,_,_,Z,Z, .of hl.lst,cB p,n,_,_,_,Z,Z,r,Z,lo,_,_,_,Z,Z, .of ho,at_of (by omega) (K6 j),lh,_,_,_,Z,Z, .of hl.lst,cB c,s,_,_,_,Z,Z,t,Z,Z,_,Z,?_⟩;by_cases q:(bb hs o[i]).d=(bb hs o[i+1]).d
  .rw[q,au Z];refine kN ?_;rw[ai q] at a;exact⟨_,Z,by rw[a];rfl⟩
  .rw[aw (fun z=>q (by have:=V.int.inj z;omega))];refine lI (⟨_,Z,_,_,Z,Z,?_⟩);rw[ak q] at a;exact⟨_,Z,by rw[a];rfl⟩
 .rintro b H' ⟨v,rfl,rfl⟩;have u:(bE hs o).take (o.length-1+1)=bE hs o:=by apply b8;unfold bE;rw[aE];omega
  rwa [u]
def Au(H:Hp)(o:List Nat)(Q:VK):Prop:=∀p H',H p=ae->cI H H'->H' p=aa (.lst (nv o))->Q (.ref p) H'
inductive P5 K H(Q:VK):List V->Prop|mk:∀a lp as h hs (c:Nat),(HT K H a h)->(HL K H lp as hs)->(hs.length<=100)->(Au H (hs.map (tL c h)) Q)->P5 K H Q [.ref a, .ref lp, .int c]
theorem hU{as:List Addr}{i:Nat}(h:(as.map V.ref)[i]? =aa v):∃a,as[i]? =aa a/\v= .ref a:=by
 rw[bp] at h
 cases e:as[i]? with
 |none=>rw[e] at h;cases h
 |some n=>rw[e] at h;exact⟨n,Z,(aW h).symm⟩
theorem gu(o:List Nat)(n:Nat):nv (o++[n])=nv o++[.int (n:Int)]:=by unfold nv;rw[a_];rfl
theorem BZ:Ok Y 3 36 (P5 K):=by
 refine Y.okN ["start","points","change_cost","goal"] ?_;rintro _ H _ Q nd l ⟨a,lp,as,h,hs,c,m,hl,d,k⟩;refine⟨_,(cy (Eo [("goal",3)] (eM (pv 1)) (cJ 3) iu (cP (vH Y) l.mono (aR (pv 0) (aR (pv 3) (cO (pv 2))))))),lp,Z,⟨_, .of hl.lst⟩,fun D j=> ?_⟩;refine i9 (fun i H'=>cI H H'/\H' D=aa (.lst (nv ((hs.take i).map (tL c h))))) ⟨aN j,aH⟩ (fun i H' _ q=> .of (q.1 _ _ hl.lst)) ?_ ?_
 .rintro i x H' n ⟨e,f⟩;obtain⟨b,o,rfl⟩:=hU n;obtain⟨g,hg,p⟩:=dj hl.at_ o;refine⟨Z,a,b,h,g,c,fj e m,fj e p,?_⟩;refine⟨_,f,?_,cD e j,?_⟩
  .rw[cZ,aE,bA];exact bo (eU _ _) (bo d (by decide))
  .rw[aH,take_snoc hg,a_,b5,jG,gu]
 .rintro H' ⟨e,f⟩;rw[(b8 (by rw[aE,hl.len];exact aQ _))] at f;exact k D H' j e f
end
end
section
open Vbpcak (Hole)
def Ez(hs:List Hole)(k:Nat):Hole:=(hs++[H0]).getD k H0
def kX(c:Nat)(hs:List Hole)(a b:Nat):Nat:=tL c (Ez hs a) (Ez hs b)
structure Row(H:Hp) b n f:Prop where
 at_:H b=aa (.lst (nv ((List.range n).map f)))
structure TB(H:Hp) t(bs:List Addr) n(T:Nat->Nat->Nat):Prop where
 lst:H t=aa (.lst (bs.map V.ref))
 len:bs.length=n
 row:∀a b,bs[a]? =aa b->Row H b n (T a)
theorem TB.same(h:TB H t bs n T)(e:cI H H'):TB H' t bs n T:=⟨e _ _ h.lst,h.len,fun a b q=>⟨e _ _ (h.row a b q).at_⟩⟩
theorem TB.get(h:TB H t bs n T)(c:a<n):∃b,(bs.map V.ref)[a]? =aa (.ref b)/\Row H b n (T a):=by have e:=aP (show a<bs.length by rw[h.len];exact c);exact⟨_,by rw[bp,e];rfl,h.row a _ e⟩
theorem Row.get{H:Hp}{b:Addr}(hk:k<n):(nv ((List.range n).map f))[k]? =aa (.int (f k:Nat)):=by apply K6;rw[bp,d7 hk];rfl
theorem T6{a:Type}(hs:List Hole)(f:Hole->a):(hs++[H0]).map f=(List.range (hs.length+1)).map fun k=>f (Ez hs k):=by
 apply fF;intro i;rw[bp,bp];by_cases h:i<hs.length+1
 .rw[d7 h];have h':i<(hs++[H0]).length:=by simpa using h
  have e:Ez hs i=(hs++[H0])[i]:=by unfold Ez;rw[bh,aP h'];rfl
  rw[aP h'];show _=aa (f (Ez hs i));rw[e];rfl
 .rw[dH (by simp;lia),dH (by simp;lia)];rfl
section
inductive VE K H(Q:VK):List V->Prop|mk:∀lh as hs (c:Nat),(HL K H lh as hs)->(hs.length<=50)->(∀t H' bs,H t=ae->cI H H'->TB H' t bs (hs.length+1) (kX c hs)->Q (.ref t) H')->VE K H Q [.ref lh, .int c]
theorem ua:Ok Y 4 37 (VE K):=by
 refine Y.okN ["holes","change_cost","points","start"] ?_;rintro _ H _ Q nd z ⟨lh,as,hs,c,hl,d,k⟩;have A:=hl.len;refine⟨_,(aI (bB 2 (cu l7 (pv 0) (cT (cO (pK Y.rr))))) (cy (Eo [("start",3)] (eM (pv 2)) (cJ 3) iu (cP (BZ Y) z.mono (aR (pv 3) (aR (pv 2) (cO (pv 1)))))))),?_⟩;refine⟨zl,fun m h1=> ?_⟩;refine⟨lh,m,_,_,Z,Z,by rw[aL (aS hl.lst h1)];exact hl.lst,aH,?_,fun lp B=> ?_⟩
 .rw[aE];have:br=2^24:=rfl;simp only[aK,bQ];lia
 have Zd:cI H (upd (upd H m (.lst [.ref nK])) lp (.lst (as.map V.ref++[.ref nK]))):=(aN h1).trans (aN B);have e:HL K (upd (upd H m (.lst [.ref nK])) lp (.lst (as.map V.ref++[.ref nK]))) lp (as++[nK]) (hs++[H0]):=by refine⟨by rw[aH,a_];rfl,?_⟩;exact yU (hl.at_.mono fun _ _ q=>fj Zd q) (Y.hh.is _)
 generalize C:upd (upd H m (.lst [.ref nK])) lp (.lst (as.map V.ref++[.ref nK]))=D at Zd e;refine⟨lp,Z,⟨_, .of e.lst⟩,fun t r=> ?_⟩;refine i9 (K:=K) (fun i H'=>cI D H'/\∃bs:List Addr,H' t=aa (.lst (bs.map V.ref))/\bs.length=i/\∀(j:Nat) (b:Addr),bs[j]? =aa b->b≠t/\Row H' b (hs.length+1) (kX c hs j)) ⟨aN r,[],aH,Z,fun j b q=>by simp at q⟩ (fun i H' _ q=> .of (q.1 _ _ e.lst)) ?_ ?_
 .rintro i x H' E ⟨f,bs,n,o,s⟩;obtain⟨b,F,rfl⟩:=hU E;obtain⟨g,hg,G⟩:=dj e.at_ F;refine⟨Z,?_⟩;refine⟨b,lp,_,g,_,c,fj f G,e.same f,by simp;lia,?_⟩;intro p P u v I;have h:=aS n u;have hsz:bs.length<=hs.length:=by have:=(aV.mp hg).1;simp at this;lia
  refine⟨_,v _ _ n,?_,cD (f.trans v) r,bs++[p],?_,?_,?_⟩
  .rw[aE];exact bo (bY hsz d) (by decide)
  .rw[aH,a_];rfl
  .rw[aG,o];rfl
  .intro j J l;have L:Ez hs i=g:=by unfold Ez;rw[bh,hg];rfl
   by_cases w:j<bs.length
   .rw[cH w] at l;obtain⟨y,M⟩:=s j J l;exact⟨y,⟨by rw[aL y];exact v _ _ M.at_⟩⟩
   .have N:j=bs.length:=by have:=(aV.mp l).1;simp at this;lia
    subst N;rw[cM (aQ _),i7] at l;have O:=aW l;subst O;refine⟨h.symm,⟨?_⟩⟩;rw[aL h.symm,I,T6,o];unfold kX;rw[L]
 .rintro H' ⟨f,bs,n,o,s⟩;refine k t H' bs (Zd.free r) (Zd.trans f) ⟨n,?_,fun a b q=>(s a b q).2⟩;rw[o,aE,aG,A];rfl
end
end
section
open Vbpcak (Hole)
def P7(n i:Nat):List (Nat×Nat):=(List.range (n-(i+1))).map fun b=>(i,i+1+b)
theorem Dh(i:Nat):∀n:Nat,(List.range n).filter (fun j=>ah (i<j))=(List.range (n-(i+1))).map fun b=>i+1+b
 |0=>by simp
 |n+1=>by
  rw[de,fi,Dh i n];by_cases h:i<n
  .rw[show n+1-(i+1)=(n-(i+1))+1 by lia,de,a_];simp[h];lia
  .simp[h];rw[show n-(i+1)=0 by lia,show n-i=0 by lia]
theorem Jv(n:Nat):M.turns n=(List.range n).flatMap (P7 n):=by unfold M.turns P7;congr 1;funext i;rw[Dh,dI];rfl
theorem P8{a:Type}(c:a->Int)(b:Int×Option a)(l m:List a):M.best c b (l++m)=M.best c (M.best c b l) m:=by unfold M.best;rw[iX]
theorem Di{c:Type}(a:c->Int)(b:Int×Option c)(l:List c)(x:c):M.best a b (l++[x])=if(M.best a b l).1<a x then(a x,aa x) else M.best a b l:=by rw[P8];rfl
def bv:Int×Option (Nat×Nat)->List V|(z,some (i,j))=>[.int z, .int (i+1), .int (j+1)]|(z,none)=>[.int z, .int 0, .int 0]
theorem P9(b:Int×Option (Nat×Nat)):Ga (bv b) 0=aa (.int b.1):=by obtain⟨z,_|⟨i,j⟩⟩:=b<;>rfl
theorem vJ(h:k<s.length):(nv s)[k]? =aa (.int ((s.getD k 0:Nat):Int)):=by apply K6;rw[aP h,bh,aP h];rfl
theorem EB{s:List Nat}(hs:∀x∈s,x<n)(h:k<s.length):s.getD k 0<n:=by rw[bh,aP h];exact hs _ (mG h)
structure acK K(mg:Str->Option bj) a:Prop where
 is:∀H,oW K H a [.int 0, .int 0, .int 0]
include Y in
theorem Txt.hN:acK K m0 aNO:=⟨Y.t2⟩
section
inductive P_ K H(Q:VK):List V->Prop|mk:∀t ls bs n m T s,(TB H t bs n T)->(H ls=aa (.lst (nv s)))->(s.length=m+2)->(m<=50)->((∀x∈s,x<n))->(∀p H',cI H H'->oW K H' p (bv (M.best (fun q:Nat×Nat=>M.Dc T s q.1 q.2) (0,ae) (M.turns m)))->Q (.ref p) H')->P_ K H Q [.ref t, .ref ls]
theorem EC:Ok Y 1 40 (P_ K):=by
 refine Y.ok ?_;rintro _ H _ Q nd hr ⟨t,ls,bs,n,m,tb,s,P,hs,R,hm,y,k⟩;have S:(nv s).length=m+2:=by rw[cZ,R]
 refine⟨_,(aI (bB 2 (pK Y.rr)) (aI (bB 3 (cu fK (dZ Y.nn (pv 1)) aY)) (aI (fT (nt Z Y.nn (aR aY (cO (cu dJ (pv 3) aY)))) (cJ 4) (aI (bB 5 (bM bP (pv 0) (bM bP (pv 1) (cu fK (pv 4) aY)))) (aI (bB 6 (bM bP (pv 0) (bM bP (pv 1) (pv 4)))) (b6 (fT (nt Z Y.nn (aR (cu dJ (pv 4) aY) (cO (cu dJ (pv 3) aY)))) (cJ 7) (aI (bB 8 (cu dJ (bM bP (pv 5) (bM bP (pv 1) (pv 4))) (bM bP (bM bP (pv 0) (bM bP (pv 1) (pv 7))) (bM bP (pv 1) (cu dJ (pv 7) aY))))) (aI (bB 9 (cu dJ (bM bP (pv 5) (bM bP (pv 1) (pv 7))) (bM bP (pv 6) (bM bP (pv 1) (cu dJ (pv 7) aY))))) (b6 (da (cK mB (cu fK (pv 8) (pv 9)) (bM di (pv 2) aY)) (b6 (bB 2 (nG (aR (cu fK (pv 8) (pv 9)) (aR (pv 4) (cO (pv 7))))))) ck))))))))) (cy (pv 2))))),?_⟩;refine⟨ls,_,Z, .inl (.of hs),_,_,Z,Z,?_⟩;rw[S];refine⟨_,_,Z,Z,1,_,Z,⟨by decide,by decide,by lia,by lia⟩,?_⟩;have T:(((m+2:Nat):Int)-2+1-1).toNat=m:=by lia
 rw[T];refine iE (lo:=1) (n:=m) (fun a r H'=>E7 fun(q:Addr) (C D E h i l:Option V)=>A3 (cI H H') (oW K H' q (bv (M.best (fun q:Nat×Nat=>M.Dc tb s q.1 q.2) (0,ae) ((List.range a).flatMap (P7 m))))) (r=[aa (.ref t),aa (.ref ls),aa (.ref q),aa (.int (((m+2:Nat):Int)-2)),C,D,E,h,i,l])) ⟨aNO,ae,ae,ae,ae,ae,ae,cI.refl H,Y.hN.is H,Z⟩ ?_ ?_
 .rintro a r H' ha ⟨q,C,D,E,h,i,l,d,g,rfl⟩;have e:=P.same d;have o:=d _ _ hs;have U:=EB y (show a<s.length by lia);have J:=EB y (show a+1<s.length by lia);obtain⟨b0,W,u⟩:=e.get U;obtain⟨A,X,v⟩:=e.get J;refine⟨_,_,Z,Z,ls,_,_,_,Z,Z, .of o,at_of (j:=a) (by lia) (vJ (by lia)),t,_,_,_,Z,Z, .of e.lst,cB W,?_⟩;refine⟨ls,_,_,_,Z,Z, .of o,at_of (j:=a+1) (by lia) (vJ (by lia)),t,_,_,_,Z,Z, .of e.lst,cB X,?_⟩;refine⟨_,_,Z,Z,_,_,Z,Z,_,_,Z,⟨by lia,by lia,by lia,by lia⟩,?_⟩;have F:(((m+2:Nat):Int)-2+1-(1+(a:Int)+1)).toNat=m-(a+1):=by lia
  rw[F];refine iE (lo:=1+(a:Int)+1) (n:=m-(a+1)) (fun b r f=>E4 fun(q:Addr) (h i l:Option V)=>A6 (cI H f) (oW K f q (bv (M.best (fun q:Nat×Nat=>M.Dc tb s q.1 q.2) (0,ae) ((List.range a).flatMap (P7 m)++(List.range b).map fun b=>(a,a+1+b))))) (TB f t bs n tb) (Row f b0 n (tb (s.getD a 0))) (Row f A n (tb (s.getD (a+1) 0))) (r=[aa (.ref t),aa (.ref ls),aa (.ref q),aa (.int (((m+2:Nat):Int)-2)),aa (.int (1+(a:Int))),aa (.ref b0),aa (.ref A),h,i,l])) ⟨q,h,i,l,d,by rw[List.range_zero,jG,bZ];exact g,e,u,v,Z⟩ ?_ ?_
  .rintro b r f hb ⟨q,h,i,l,d,g,e,u,v,rfl⟩;have o:=d _ _ hs;have L:=EB y (show a+1+b+1<s.length by lia);have N:=EB y (show a+1+b+2<s.length by lia);obtain⟨O,GI,r2⟩:=e.get L;refine⟨ls,_,_,_,Z,Z, .of o,at_of (j:=a+1) (by lia) (vJ (by lia)),b0,_,_,_,Z,Z, .of u.at_,cB (Row.get (H:=f) (b:=b0) J),?_⟩;refine⟨ls,_,_,_,Z,Z, .of o,at_of (j:=a+1+b+1) (by lia) (vJ (by lia)),t,_,_,_,Z,Z, .of e.lst,cB GI,?_⟩;refine⟨_,_,Z,Z,ls,_,_,_,Z,Z, .of o,at_of (j:=a+1+b+2) (by lia) (vJ (by lia)),O,_,_,_,Z,Z, .of r2.at_,cB (Row.get (H:=f) (b:=O) N),_,_,Z,Z,?_⟩;refine⟨ls,_,_,_,Z,Z, .of o,at_of (j:=a+1+b+1) (by lia) (vJ (by lia)),b0,_,_,_,Z,Z, .of u.at_,cB (Row.get (H:=f) (b:=b0) L),?_⟩;refine⟨_,_,Z,Z,ls,_,_,_,Z,Z, .of o,at_of (j:=a+1+b+2) (by lia) (vJ (by lia)),A,_,_,_,Z,Z, .of v.at_,cB (Row.get (H:=f) (b:=A) N),_,_,Z,Z,?_⟩;refine⟨_,_,Z,Z,q,_,_,_,Z,Z,g,P9 _,_,_,Z,Z,_,Z,?_⟩;have G:(List.range (b+1)).map (fun b=>(a,a+1+b))=(List.range b).map (fun b=>(a,a+1+b))++[(a,a+1+b)]:=by rw[de,a_];rfl
   have w:=Di (fun q:Nat×Nat=>M.Dc tb s q.1 q.2) (0,ae) ((List.range a).flatMap (P7 m)++(List.range b).map fun b=>(a,a+1+b)) (a,a+1+b);rw[bJ,<-G] at w;have I:M.Dc tb s a (a+1+b)=((tb (s.getD a 0) (s.getD (a+1) 0):Int)+(tb (s.getD (a+1+b+1) 0) (s.getD (a+1+b+2) 0):Int))-((tb (s.getD a 0) (s.getD (a+1+b+1) 0):Int)+(tb (s.getD (a+1) 0) (s.getD (a+1+b+2) 0):Int)):=rfl;refine e_ (fun c=> ?_) (fun c=> ?_)
   .have x:=aq c;rw[<-I] at x;rw[ai x] at w;refine⟨_,_,Z,Z,zl,fun p B=> ?_⟩;refine⟨p,_,_,_,d.trans (aN B),?_,e.same (aN B),⟨(aN B) _ _ u.at_⟩,⟨(aN B) _ _ v.at_⟩,Z⟩;rw[w];refine .of ?_;rw[aH];show aa (HO.tup [V.int (_-_),V.int (1+(a:Int)),V.int (1+(a:Int)+1+(b:Int))])=aa (HO.tup [.int (M.Dc tb s a (a+1+b)), .int ((a:Int)+1), .int (((a+1+b:Nat):Int)+1)]);rw[I,show 1+(a:Int)+1+(b:Int)=((a+1+b:Nat):Int)+1 by lia,show 1+(a:Int)=(a:Int)+1 by lia]
   .have x:¬_:=fun z=>c (au z);rw[<-I] at x;rw[ak x] at w;refine⟨q,_,_,_,d,?_,e,u,v,Z⟩;rw[w];exact g
  .rintro r f ⟨q,h,i,l,d,g,e,u,v,rfl⟩;refine⟨q,_,_,_,_,_,_,d,?_,Z⟩;rw[de,cV,bR,dv,bZ];exact g
 .rintro r H' ⟨q,C,D,E,h,i,l,d,g,rfl⟩;rw[<-Jv] at g;exact k q H' d g
end
end
section
open Vbpcak (Hole)
theorem ED(xs:List V){i:Nat}(e:z=(i:Int)):tJ xs ae (aa z)=xs.take i:=by
 subst e;unfold tJ;rw[HT.vq,HT.qj,lZ,Nat.sub_zero];by_cases h:i<=xs.length
 .rw[n_ h]
 .rw[U6 (by lia),b8 (aQ _),b8 (by lia)]
theorem vK(xs:List V){i:Nat}(e:z=(i:Int)):tJ xs (aa z) ae=xs.drop i:=by
 subst e;unfold tJ;rw[HT.vq,HT.qj];by_cases h:i<=xs.length
 .rw[n_ h];exact b8 (by rw[cz];exact aQ _)
 .rw[U6 (by lia),i7,WC,List.drop_of_length_le (by lia)]
theorem K7(xs:List V){i j:Nat}(e:y=(i:Int))(a:z=(j:Int))(h:i<=j)(b:j<=xs.length):tJ xs (aa y) (aa z)=(xs.drop i).take (j-i):=by subst e a;unfold tJ;rw[HT.qj,HT.qj,n_ b,n_ (show i<=xs.length by lia)]
theorem sY(o:List Nat)(i:Nat):(nv o).take i=nv (o.take i):=by unfold nv;rw[YX]
theorem sZ(o:List Nat)(i:Nat):(nv o).drop i=nv (o.drop i):=by unfold nv;rw[YY]
theorem o8(o p:List Nat):nv o++nv p=nv (o++p):=by unfold nv;rw[a_]
theorem Jw(o:List Nat):(nv o).reverse=nv o.reverse:=by unfold nv;rw[List.map_reverse]
theorem mq(h:n<=1000):n<=br:=bY h (by decide)
section
inductive VF H(Q:VK):List V->Prop|mk:∀t bs (n a x b:Nat) T,(TB H t bs n T)->(a<n)->(x<n)->(b<n)->(Q (.int (M.det T a x b)) H)->VF H Q [.ref t, .int a, .int x, .int b]
theorem Dj:Ok Y 1 41 VF:=by refine Y.ok ?_;rintro _ H _ Q nd o ⟨t,bs,n,a,x,b,tb,c,l,f,g,k⟩;obtain⟨d,h,i⟩:=c.get l;obtain⟨j,e,m⟩:=c.get f;exact⟨_,(cy (cu fK (cu dJ (bM bP (bM bP (pv 0) (pv 1)) (pv 2)) (bM bP (bM bP (pv 0) (pv 2)) (pv 3))) (bM bP (bM bP (pv 0) (pv 1)) (pv 3)))),t,_,_,_,Z,Z, .of c.lst,cB h,d,_,_,_,Z,Z, .of i.at_,cB (Row.get (H:=H) (b:=d) f),t,_,_,_,Z,Z, .of c.lst,cB e,j,_,_,_,Z,Z, .of m.at_,cB (Row.get (H:=H) (b:=j) g),_,_,Z,Z,t,_,_,_,Z,Z, .of c.lst,cB h,d,_,_,_,Z,Z, .of i.at_,cB (Row.get (H:=H) (b:=d) g),_,_,Z,Z,k⟩
def X5(n i:Nat):List (Nat×Nat):=((List.range n).filter fun j=>ah (i≠j)).map fun j=>(i,j)
def EE(i b:Nat):List (Nat×Nat):=((List.range b).filter fun j=>ah (i≠j)).map fun j=>(i,j)
theorem Dk(i b:Nat):EE i (b+1)=if i=b then EE i b else EE i b++[(i,b)]:=by
 unfold EE;rw[de,fi,a_];by_cases e:i=b
 .rw[ai e,dq (by simp[e])];simp
 .rw[ak e,du (by simpa using e)];rfl
theorem Dl(s:List Nat)(i:Nat)(h:i<s.length):s.take i++s.drop (i+1)=s.eraseIdx i:=(yX s i).symm
inductive Qb K H(Q:VK):List V->Prop|mk:∀t ls bs n m T s,(TB H t bs n T)->(H ls=aa (.lst (nv s)))->(s.length=m+2)->(m<=50)->((∀x∈s,x<n))->(∀p H',cI H H'->oW K H' p (bv (M.best (fun q:Nat×Nat=>M.BY T s q.1 q.2) (0,ae) (M.moves m)))->Q (.ref p) H')->Qb K H Q [.ref t, .ref ls]
theorem EF:Ok Y 2 42 (Qb K):=by
 refine Y.ok ?_;rintro _ H _ Q nd O ⟨t,ls,bs,n,m,tb,s,W,hs,X,hm,D,k⟩;have XE:(nv s).length=m+2:=by rw[cZ,X]
 refine⟨_,(aI (bB 2 (pK Y.rr)) (aI (bB 3 (cu fK (dZ Y.nn (pv 1)) aY)) (aI (fT (nt Z Y.nn (aR aY (cO (cu dJ (pv 3) aY)))) (cJ 4) (aI (bB 5 (cP (Dj Y) O.mono (aR (pv 0) (aR (bM bP (pv 1) (cu fK (pv 4) aY)) (aR (bM bP (pv 1) (pv 4)) (cO (bM bP (pv 1) (cu dJ (pv 4) aY)))))))) (aI (bB 6 (cu l7 (ig jP (pv 1) kU (ir (pv 4))) (ig jP (pv 1) (ir (cu dJ (pv 4) aY)) kU))) (b6 (fT (nt Z Y.nn (aR aY (cO (cu dJ (pv 3) aY)))) (cJ 7) (aI (da (cK jt (pv 7) (pv 4)) (b6 F0) ck) (aI (bB 8 (cu fK (pv 5) (cP (Dj Y) O.mono (aR (pv 0) (aR (bM bP (pv 6) (cu fK (pv 7) aY)) (aR (bM bP (pv 1) (pv 4)) (cO (bM bP (pv 6) (pv 7))))))))) (b6 (da (cK mB (pv 8) (bM di (pv 2) aY)) (b6 (bB 2 (nG (aR (pv 8) (aR (pv 4) (cO (pv 7))))))) ck))))))))) (cy (pv 2))))),?_⟩;refine⟨ls,_,Z, .inl (.of hs),_,_,Z,Z,?_⟩;rw[XE];refine⟨_,_,Z,Z,1,_,Z,⟨by decide,by decide,by lia,by lia⟩,?_⟩;have P:(((m+2:Nat):Int)-2+1-1).toNat=m:=by lia
 rw[P];refine iE (lo:=1) (n:=m) (fun a l H'=>E6 fun(q:Addr) (F G I f g:Option V)=>A3 (cI H H') (oW K H' q (bv (M.best (fun q:Nat×Nat=>M.BY tb s q.1 q.2) (0,ae) ((List.range a).flatMap (X5 m))))) (l=[aa (.ref t),aa (.ref ls),aa (.ref q),aa (.int (((m+2:Nat):Int)-2)),F,G,I,f,g])) ⟨aNO,ae,ae,ae,ae,ae,cI.refl H,Y.hN.is H,Z⟩ ?_ ?_
 .rintro a l H' ha ⟨q,F,G,I,f,g,v,d,rfl⟩;have R:=W.same v;have r:=v _ _ hs;have S:=EB D (show a+1<s.length by lia);refine⟨_,_,Z,Z,ls,_,_,_,Z,Z, .of r,at_of (j:=a) (by lia) (vJ (by lia)),?_⟩;refine⟨ls,_,_,_,Z,Z, .of r,at_of (j:=a+1) (by lia) (vJ (by lia)),?_⟩;refine⟨_,_,Z,Z,ls,_,_,_,Z,Z, .of r,at_of (j:=a+2) (by lia) (vJ (by lia)),?_⟩;refine⟨t,bs,n,_,_,_,tb,R,EB D (show a<s.length by lia),S,EB D (show a+2<s.length by lia),?_⟩;refine⟨_,Z,ls,_,Z, .of r,fun J h1=> ?_⟩;rw[ED _ (i:=a+1) (by lia),sY];refine⟨_,_,Z,Z,_,Z,ls,_,Z, .of (aN h1 _ _ r),fun L T=> ?_⟩;rw[vK _ (i:=a+2) (by lia),sZ];refine⟨J,L,_,_,Z,Z,by rw[aL (aS aH T)];exact aH,aH,?_,fun u h3=> ?_⟩
  .rw[cZ,cZ,bA,cz];exact mq (by lia)
  rw[o8,Dl s (a+1) (by lia)];have w:=((aN (o:= .lst (nv (s.take (a+1)))) h1).trans (aN (o:= .lst (nv (s.drop (a+2)))) T)).trans (aN (o:= .lst (nv (s.eraseIdx (a+1)))) h3);have y:upd (upd (upd H' J (.lst (nv (s.take (a+1))))) L (.lst (nv (s.drop (a+2))))) u (.lst (nv (s.eraseIdx (a+1)))) u=aa (.lst (nv (s.eraseIdx (a+1)))):=aH;generalize upd (upd (upd H' J (.lst (nv (s.take (a+1))))) L (.lst (nv (s.drop (a+2))))) u (.lst (nv (s.eraseIdx (a+1))))=H3 at w y;have Th:(s.eraseIdx (a+1)).length=m+1:=by rw[cY (by lia)];lia
  have A:∀x∈s.eraseIdx (a+1),x<n:=fun x hx=>D x (qe hx);refine⟨_,_,Z,Z,1,_,Z,⟨by decide,by decide,by lia,by lia⟩,?_⟩;rw[P]
  refine iE (lo:=1) (n:=m) (fun b l E=>E3 fun(q:Addr) (f g:Option V)=>A3 (cI H3 E) (oW K E q (bv (M.best (fun q:Nat×Nat=>M.BY tb s q.1 q.2) (0,ae) ((List.range a).flatMap (X5 m)++EE a b)))) (l=[aa (.ref t),aa (.ref ls),aa (.ref q),aa (.int (((m+2:Nat):Int)-2)),aa (.int (1+(a:Int))),aa (.int (M.det tb (s.getD a 0) (s.getD (a+1) 0) (s.getD (a+2) 0))),aa (.ref u),f,g]))
   ⟨q,f,g,cI.refl _,by
    have e0:EE a 0=[]:=rfl
    rw[e0,bZ];exact fj w d,Z⟩ ?_ ?_
  .rintro b l E hb ⟨q,f,g,h,d,rfl⟩;have U:=h _ _ y;have k1:=EB A (show b+1<(s.eraseIdx (a+1)).length by lia);refine⟨Z,_,Z,?_⟩;refine e_ (fun c=> ?_) (fun c=> ?_)
   .have e:a=b:=by have:=V.int.inj (aq c);lia
    refine⟨q,_,_,h,?_,Z⟩;rw[Dk,ai e];exact d
   .have e:¬a=b:=fun z=>c (au (by rw[z]));refine⟨_,_,Z,Z,u,_,_,_,Z,Z, .of U,at_of (j:=b) (by lia) (vJ (by lia)),?_⟩;refine⟨ls,_,_,_,Z,Z, .of ((w.trans h) _ _ r),at_of (j:=a+1) (by lia) (vJ (by lia)),?_⟩;refine⟨u,_,_,_,Z,Z, .of U,at_of (j:=b+1) (by lia) (vJ (by lia)),?_⟩;refine⟨t,bs,n,_,_,_,tb,R.same (w.trans h),EB A (show b<(s.eraseIdx (a+1)).length by lia),S,k1,_,_,Z,Z,?_⟩;refine⟨q,_,_,_,Z,Z,d,P9 _,_,_,Z,Z,_,Z,?_⟩;have B:=Di (fun q:Nat×Nat=>M.BY tb s q.1 q.2) (0,ae) ((List.range a).flatMap (X5 m)++EE a b) (a,b);have ep:EE a (b+1)=EE a b++[(a,b)]:=by rw[Dk,ak e]
    rw[bJ,<-ep] at B;have N:M.BY tb s a b=M.det tb (s.getD a 0) (s.getD (a+1) 0) (s.getD (a+2) 0)-M.det tb ((s.eraseIdx (a+1)).getD b 0) (s.getD (a+1) 0) ((s.eraseIdx (a+1)).getD (b+1) 0):=rfl;refine e_ (fun c=> ?_) (fun c=> ?_)
    .have C:=aq c;rw[<-N] at C;rw[ai C] at B;refine⟨zl,fun p hp=> ?_⟩;refine⟨p,_,_,h.trans (aN hp),?_,Z⟩;rw[B];refine .of ?_;rw[aH];show aa (HO.tup [V.int (_-_),V.int (1+(a:Int)),V.int (1+(b:Int))])=aa (HO.tup [.int (M.BY tb s a b), .int ((a:Int)+1), .int ((b:Int)+1)]);rw[N,show 1+(b:Int)=(b:Int)+1 by lia,show 1+(a:Int)=(a:Int)+1 by lia]
    .have C:¬_:=fun z=>c (au z);rw[<-N] at C;rw[ak C] at B;refine⟨q,_,_,h,?_,Z⟩;rw[B];exact d
  .rintro l E ⟨q,f,g,h,d,rfl⟩;refine⟨q,_,_,_,_,_,v.trans (w.trans h),?_,Z⟩;rw[de,cV,bR,dv,bZ];exact d
 .rintro l H' ⟨q,F,G,I,f,g,v,d,rfl⟩;exact k q H' v d
end
end
section
open Vbpcak (Hole)
def Qc(s:List Nat)(i j:Nat):List Nat:=s.take i++((s.drop i).take (j+1-i)).reverse++s.drop (j+1)
def Qe(s:List Nat)(i j:Nat):List Nat:=(s.eraseIdx i).take j++[s.getD i 0]++(s.eraseIdx i).drop j
theorem Hb(h:Nat)(o:List Nat)(i j:Nat)(a:i<j)(b:j<o.length):Qc (M.cS h o) (i+1) (j+1)=M.cS h (Vbpcak.reversed o i j):=by unfold Qc M.cS Vbpcak.reversed;rw[nY,n8,n8,mX (by lia),mY (by lia),mY (by assumption),mX (by rw[cz];lia),show j+1+1-(i+1)=j+1-i by simp];simp
theorem Hc(h:Nat)(o:List Nat)(i j:Nat)(a:i<o.length)(c:j<o.length):Qe (M.cS h o) (i+1) (j+1)=M.cS h (fJ o i j):=by
 rw[M.xb o i j a,M.xa h _ _ j (by rw[cY a];lia),M.oI h o i a];have b:(M.cS h o).getD (i+1) 0=o[i]:=by unfold M.cS;rw[bh,hE,cH (by assumption),aP (by assumption)];rfl
 unfold Qe M.ins;rw[b,bJ];rfl
section
inductive Hd H(Q:VK):List V->Prop|mk:∀ls s (i j:Nat),(H ls=aa (.lst (nv s)))->(i<=j)->(j<s.length)->(s.length<=100)->(Au H (Qc s i j) Q)->Hd H Q [.ref ls, .int i, .int j]
theorem MO:Ok Y 1 43 Hd:=by
 refine Y.ok ?_;rintro _ H _ Q nd t ⟨ls,s,i,j,hs,g,u,hl,k⟩;refine⟨_,(cy (cu l7 (cu l7 (ig jP (pv 0) kU (ir (pv 1))) (ux Z rfl Y.nn Z Y.nn (cO (ig jP (pv 0) (ir (pv 1)) (ir (cu dJ (pv 2) aY)))))) (ig jP (pv 0) (ir (cu dJ (pv 2) aY)) kU))),_,Z,ls,_,Z, .of hs,fun h h1=> ?_⟩;rw[ED _ Z,sY];refine⟨_,Z,_,_,Z,Z,_,Z,ls,_,Z, .of (aN h1 _ _ hs),fun l a=> ?_⟩;rw[K7 _ (j:=j+1) Z (by lia) (by lia) (by rw[cZ];assumption),sZ,sY];refine⟨l,_,Z, .of aH,fun m b=> ?_⟩;rw[Jw];refine⟨h,m,_,_,Z,Z,(aN (o:= .lst (nv ((s.drop i).take (j+1-i)).reverse)) b) _ _ ((aN (o:= .lst (nv ((s.drop i).take (j+1-i)))) a) _ _ aH),aH,?_,fun n p=> ?_⟩
 .simp only[cZ,bA,dN,cz];exact mq (by lia)
 rw[o8];have c:=(((aN h1).trans (aN (o:= .lst (nv ((s.drop i).take (j+1-i)))) a)).trans (aN (o:= .lst (nv ((s.drop i).take (j+1-i)).reverse)) b)).trans (aN (o:= .lst (nv (s.take i++((s.drop i).take (j+1-i)).reverse))) p);refine⟨_,_,Z,Z,_,Z,ls,_,Z, .of (c _ _ hs),fun q d=> ?_⟩;rw[vK _ (i:=j+1) (by lia),sZ];refine⟨n,q,_,_,Z,Z,(aN d) _ _ aH,aH,?_,fun r e=> ?_⟩
 .simp only[cZ,aG,bA,dN,cz];exact mq (by lia)
 rw[o8];have f:=(c.trans (aN (o:= .lst (nv (s.drop (j+1)))) d));exact k r _ (f.free e) (f.trans (aN e)) aH
inductive K8 H(Q:VK):List V->Prop|mk:∀ls s (i j:Nat),(H ls=aa (.lst (nv s)))->(i<s.length)->(j<s.length)->(s.length<=100)->(Au H (Qe s i j) Q)->K8 H Q [.ref ls, .int i, .int j]
theorem Qg:Ok Y 1 44 K8:=by
 refine Y.ok ?_;rintro _ H _ Q nd y ⟨ls,s,i,j,hs,c,z,hl,k⟩;refine⟨_,(aI (bB 3 (cu l7 (ig jP (pv 0) kU (ir (pv 1))) (ig jP (pv 0) (ir (cu dJ (pv 1) aY)) kU))) (cy (cu l7 (cu l7 (ig jP (pv 3) kU (ir (pv 2))) (cT (cO (bM bP (pv 0) (pv 1))))) (ig jP (pv 3) (ir (pv 2)) kU)))),?_⟩;refine⟨_,Z,ls,_,Z, .of hs,fun d h1=> ?_⟩;rw[ED _ Z,sY];refine⟨_,_,Z,Z,_,Z,ls,_,Z, .of (aN h1 _ _ hs),fun e m=> ?_⟩;rw[vK _ (i:=i+1) (by lia),sZ];refine⟨d,e,_,_,Z,Z,(aN m) _ _ aH,aH,?_,fun a r=> ?_⟩
 .simp only[cZ,bA,cz];exact mq (by lia)
 rw[o8,Dl s i c];have f:=((aN h1).trans (aN m)).trans (aN (o:= .lst (nv (s.eraseIdx i))) r);have g:upd (upd (upd H d (.lst (nv (s.take i)))) e (.lst (nv (s.drop (i+1))))) a (.lst (nv (s.eraseIdx i))) a=aa (.lst (nv (s.eraseIdx i))):=aH;generalize upd (upd (upd H d (.lst (nv (s.take i)))) e (.lst (nv (s.drop (i+1))))) a (.lst (nv (s.eraseIdx i)))=A at f g;have B:(s.eraseIdx i).length+1=s.length:=by rw[cY c];lia
 refine⟨_,Z,a,_,Z, .of g,fun t h=> ?_⟩;rw[ED _ Z,sY];refine⟨ls,_,_,_,Z,Z, .of ((f.trans (aN h)) _ _ hs),at_of Z (vJ c),zl,fun u l=> ?_⟩;refine⟨t,u,_,_,Z,Z,(aN l) _ _ aH,aH,?_,fun v n=> ?_⟩
 .simp only[cZ,bA,aK,bQ];exact mq (by lia)
 rw[((gu _ _).symm)];refine⟨_,Z,a,_,Z, .of ((((aN h).trans (aN l)).trans (aN (o:= .lst (nv ((s.eraseIdx i).take j++[s.getD i 0]))) n)) _ _ g),fun w p=> ?_⟩;rw[vK _ Z,sZ];refine⟨v,w,_,_,Z,Z,(aN p) _ _ aH,aH,?_,fun x q=> ?_⟩
 .simp only[cZ,aG,bA,aK,bQ,cz];exact mq (by lia)
 rw[o8];have b:=(((f.trans (aN h)).trans (aN l)).trans (aN (o:= .lst (nv ((s.eraseIdx i).take j++[s.getD i 0]))) n)).trans (aN (o:= .lst (nv ((s.eraseIdx i).drop j))) p);exact k x _ (b.free q) (b.trans (aN q)) aH
inductive He(K:aM) H(Q:VK):List V->Prop
 |mk:∀t ls bs n h T o,(TB H t bs n T)->(H ls=aa (.lst (nv (M.cS h o))))->(o.length<=50)->((∀x∈M.cS h o,x<n))->((match M.pick T h o with
  |some o'=>∀(p:Addr) (H':Hp),cI H H'->H' p=aa (.lst (nv (M.cS h o')))->Q (.ref p) H'
  |none=>∀H':Hp,cI H H'->Q (.ref ls) H'))->He K H Q [.ref t, .ref ls]
theorem Av(a:Nat×Nat->Int)(l:List (Nat×Nat)):(M.best a (0,ae) l=(0,ae))\/∃p∈l,M.best a (0,ae) l=(a p,aa p)/\0<a p:=by
 rw[M.pL]
 cases e:M.scan a 0 l with
 |none=>exact .inl rfl
 |some p=>
  have key:∀l t y,M.scan a t l=aa y->y∈l:=by
   intro l
   induction l with
   |nil=>intro t y h;cases h
   |cons x r b=>
    intro t y h;unfold M.scan at h;split at h
    .cases e:M.scan a (a x) r with
     |none=>rw[e] at h;cases h;exact aT ..
     |some z=>rw[e] at h;cases h;exact aO _ (b _ _ e)
    .exact aO _ (b _ _ h)
  exact .inr ⟨p,key l 0 p e,Z,M.sU a l 0 p e⟩
theorem Aw:Ok Y 3 45 (He K):=by
 refine Y.ok ?_;rintro _ H _ Q nd a ⟨t,ls,bs,n,h,tb,o,I,hs,J,L,k⟩;have N:=M.sV h o;rw[M.PU] at k;refine⟨_,(aI (bB 2 (cP (EC Y) a.mono (aR (pv 0) (cO (pv 1))))) (aI (bB 3 (cP (EF Y) a.mono (aR (pv 0) (cO (pv 1))))) (aI (da (cK mB (bM di (pv 3) aY) (bM di (pv 2) aY)) (cy (cP (Qg Y) a.mono (aR (pv 1) (aR (bM di (pv 3) aY) (cO (bM di (pv 3) aY)))))) ck) (aI (da (cK mB (bM di (pv 2) aY) aY) (cy (cP (MO Y) a.mono (aR (pv 1) (aR (bM di (pv 2) aY) (cO (bM di (pv 2) aY)))))) ck) (cy (pv 1)))))),?_⟩;refine⟨t,ls,bs,n,o.length,tb,M.cS h o,I,hs,N,J,L,fun l X s R=> ?_⟩;refine⟨t,ls,bs,n,o.length,tb,M.cS h o,I.same s,s _ _ hs,N,J,L,fun u S O i=> ?_⟩;have j:=s.trans O;have g:=fj O R;refine⟨u,_,_,_,Z,Z,i,P9 _,l,_,_,_,Z,Z,g,P9 _,_,_,Z,Z,_,Z,?_⟩;generalize T:M.best (fun q:Nat×Nat=>M.Dc tb (M.cS h o) q.1 q.2) (0,ae) (M.turns o.length)=B at k g;generalize U:M.best (fun q:Nat×Nat=>M.BY tb (M.cS h o) q.1 q.2) (0,ae) (M.moves o.length)=C at k i;have m:=Av (fun q:Nat×Nat=>M.Dc tb (M.cS h o) q.1 q.2) (M.turns o.length);have P:=Av (fun q:Nat×Nat=>M.BY tb (M.cS h o) q.1 q.2) (M.moves o.length);rw[T] at m;rw[U] at P;refine e_ (fun c=> ?_) (fun c=> ?_)
 .have f:=aq c;rw[ai f] at k;have v:∃p∈M.moves o.length,C=(M.BY tb (M.cS h o) p.1 p.2,aa p):=by
   rcases P with e|⟨p,b,e,_⟩
   .rcases m with w|⟨p,_,w,x⟩
    .rw[e,w] at f;exact az f (by decide)
    .rw[e,w] at f;dsimp only at f x;lia
   .exact⟨p,b,e⟩
  obtain⟨p,b,V⟩:=v;obtain⟨y,A⟩:=M.sW b;rw[V] at i k;refine⟨u,_,_,_,Z,Z,i,Z,u,_,_,_,Z,Z,i,Z,ls,M.cS h o,p.1+1,p.2+1,j _ _ hs,by lia,by lia,by lia,fun r D _ E a=> ?_⟩;rw[Hc h o p.1 p.2 y A] at a;exact k r D (j.trans E) a
 .have f:=fun z=>c (au z);rw[ak f] at k;refine⟨l,_,_,_,Z,Z,g,P9 _,_,_,Z,Z,_,Z,?_⟩;refine e_ (fun d=> ?_) (fun d=> ?_)
  .have d':=aq d;have F:∃p∈M.turns o.length,B=(M.Dc tb (M.cS h o) p.1 p.2,aa p):=by
    rcases m with e|⟨p,b,e,_⟩
    .rw[e] at d';exact az d' (by decide)
    .exact⟨p,b,e⟩
   obtain⟨p,b,W⟩:=F;obtain⟨y,A⟩:=M.ny b;rw[W] at g k;refine⟨l,_,_,_,Z,Z,g,Z,l,_,_,_,Z,Z,g,Z,ls,M.cS h o,p.1+1,p.2+1,j _ _ hs,by lia,by lia,by lia,fun r D _ E a=> ?_⟩;rw[Hb h o p.1 p.2 y A] at a;exact k r D (j.trans E) a
  .have d':=fun z=>d (au z);have G:B=(0,ae):=by
    rcases m with e|⟨p,b,e,x⟩
    .exact e
    .rw[e] at d';exact az x d'
   rw[G] at k;exact k S j
end
end
section
open Vbpcak (Hole)
theorem T7{K:aM}{g:TG}{tt:TT}{n:TE}{o:Hp->Prop}(d:Nat->Hp->Prop)(t:d 0 (upd H1 D (.lst [])))(hl:∀i H,i<=xs.length->d i H->jD K H a xs)
  (hs:∀i x H T,xs[i]? =aa x->d i H->H T=ae->g (.ref T) (wipe σ vs) (upd H T (.tup [.int (i:Nat),x])) fun f k=>wipe f vs=wipe σ vs/\tt f k fun b h=>
   if b=af then n f h fun y j=>∃c,j D=aa (.lst c)/\c.length<br/\d (i+1) (upd j D (.lst (c++[y]))) else d (i+1) h)
  (hd:∀H,d xs.length H->o H):∃W:Nat->Nat->Hp->Prop,(∃m,W 0 m (upd H1 D (.lst [])))/\∀i m H,W i m H->
   ((Vs K a).stop i H/\o H)\/((Vs K a).go i H/\∃l:Hp->Prop,(∀H',l H'->∃r,r<m/\W (i+1) r H')/\∀x H',(Vs K a).Mf i H x H'->g x (wipe σ vs) H' fun f k=>wipe f vs=wipe σ vs/\tt f k fun b h=>
    if b=af then n f h fun y j=>∃c,j D=aa (.lst c)/\c.length<br/\l (upd j D (.lst (c++[y]))) else l h):=by
 refine⟨fun i m H=>m=xs.length-i/\i<=xs.length/\d i H,⟨xs.length,Z,cg _,t⟩,?_⟩
 rintro i m H ⟨rfl,u,p⟩
 have q:=hl i H u p
 by_cases s:i<xs.length
 .refine .inr ⟨⟨xs,xs[i],q,by simp[s]⟩,d (i+1),fun H' v=>⟨xs.length-(i+1),by lia,Z,s,v⟩,fun x H' y=> ?_⟩
  obtain⟨T,z,rfl,w,rfl,A⟩:=y
  exact hs i z H T (A xs q) p w
 .have e:i=xs.length:=by lia
  subst e
  exact .inl ⟨⟨xs,q,aQ _⟩,hd H p⟩
section
inductive VG K H(Q:VK):List V->Prop|mk:∀lh as hs,(HL K H lh as hs)->(hs.length<=50)->(Au H (cC hs) Q)->VG K H Q [.ref lh]
theorem K9:∀(ns ks:List Int) (y:Int),y∈ns.foldl iC.put ks↔y∈ks\/y∈ns
 |[],ks,y=>by simp
 |a::r,ks,y=>by
  rw[iT,K9 r,aZ];unfold iC.put;split
  .rename_i h;constructor
   .rintro(q|q)
    .exact .inl q
    .exact .inr (.inr q)
   .rintro(q|q|q)
    .exact .inl q
    .subst q;exact .inl h
    .exact .inr q
  .rw[cN,a0];constructor
   .rintro((q|q)|q)
    .exact .inl q
    .exact .inr (.inl q)
    .exact .inr (.inr q)
   .rintro(q|q|q)
    .exact .inl (.inl q)
    .exact .inl (.inr q)
    .exact .inr q
theorem Dm:∀(ns ks:List Int),ks.Nodup->(ns.foldl iC.put ks).Nodup
 |[],ks,h=>h
 |a::r,ks,h=>by
  dsimp only[iT];apply Dm r;unfold iC.put;split
  .exact h
  .rename_i q;exact y_ h q
theorem EG(d:ns.Perm (iC.met (hs.map fun h=>(h.d:Int))))(f:ns.Pairwise (· <=·)):ns=(cC hs).map fun(n:Nat)=>(n:Int):=by
 have c:∀y,y∈ns↔∃h∈hs,(h.d:Int)=y:=fun y=>by rw[d.mem_iff];unfold iC.met;rw[K9];simp
 have i:ns.Pairwise (· <·):=by refine(f.and (d.nodup_iff.mpr (Dm _ [] fh))).imp fun{a b} h=> ?_;have:=h.1;have:=h.2;lia
 have j:ns=(ns.map IC).map fun(n:Nat)=>(n:Int):=by
  rw[dI];conv=>lhs;rw[<-L1 ns]
  apply fD;intro y k;obtain⟨h,_,e⟩:=(c y).mp k;show y=((y.toNat:Nat));lia
 rw[j];congr 1;apply M.Eu
 .rw[gj];refine(lb.mp i).imp fun{a b} h=> ?_;obtain⟨l,m,p⟩:=h;obtain⟨g,_,e⟩:=(c a).mp l;obtain⟨g',_,q⟩:=(c b).mp m;lia
 .exact M.Aq hs
 .intro y;rw[M.pM,bK];constructor
  .rintro⟨z,o,rfl⟩;obtain⟨h,hh,e⟩:=(c z).mp o;exact⟨h,hh,by lia⟩
  .rintro⟨h,hh,rfl⟩;exact⟨h.d,(c _).mpr ⟨h,hh,Z⟩,Z⟩
theorem oM(o:List Nat):nv o=(o.map fun(n:Nat)=>(n:Int)).map V.int:=by unfold nv;rw[dI];rfl
theorem qw:Ok Y 1 26 (VG K):=by
 refine Y.okN ["holes","hole"] ?_;rintro _ H _ Q nd r ⟨lh,as,hs,hl,a,k⟩;refine⟨_,(cy (En Z rfl Y.nn Z Y.nn (cO (Eo [("hole",1)] (eM (pv 0)) (cJ 1) iu (bM i_ (pv 1) aY))))),lh,Z,⟨_, .of hl.lst⟩,fun D e=> ?_⟩;refine i9 (fun i H'=>cI H H'/\H' D=aa (.lst ((((hs.take i).map fun h=>h.d)).map V.int))) ⟨aN e,aH⟩ (fun i H' _ q=> .of (q.1 _ _ hl.lst)) ?_ ?_
 .rintro i x H' j ⟨c,d⟩;obtain⟨b,l,rfl⟩:=hU j;obtain⟨g,hg,m⟩:=dj hl.at_ l;refine⟨Z,b,_,_,_,Z,Z,fj c m,Z,?_⟩;refine⟨_,d,?_,cD c e,?_⟩
  .rw[aE,aE,bA];exact bo (eU _ _) (bo a (by decide))
  .rw[aH,take_snoc hg,a_,a_];rfl
 .rintro H' ⟨c,d⟩;rw[(b8 (by rw[aE,hl.len];exact aQ _))] at d;refine⟨D,_,Z, .of d,by rw[aE];lia,fun ns p n o f=> ?_⟩;rw[EG n o,<-oM];exact k p _ (c.free f) (c.trans (aN f)) aH
def numsOf(hs:List Hole)(d:Nat):List Nat:=(List.range hs.length).filter fun i=>ah ((bb hs i).d=d)
inductive VH K H(Q:VK):List V->Prop|mk:∀lh as hs (d:Nat),(HL K H lh as hs)->(hs.length<=50)->(Au H (numsOf hs d) Q)->VH K H Q [.ref lh, .int d]
theorem lK:Ok Y 1 27 (VH K):=by
 refine Y.okN ["holes","diameter","number","hole"] ?_;rintro _ H _ Q nd A ⟨lh,as,hs,d,hl,l,k⟩;have r:=hl.len;refine⟨_,(cy (Eo [("number",2),("hole",3)] (KP Z Y.nn (cO (pv 0))) (KY (n:=2) Z (kK (cJ 2) (kK (cJ 3) vo))) (y8 (cK jt (bM i_ (pv 3) aY) (pv 1))) (pv 2))),lh,_,Z, .of hl.lst,fun D f=> ?_⟩;refine T7 (fun i H'=>cI H H'/\H' D=aa (.lst (nv ((List.range i).filter fun i=>ah ((bb hs i).d=d))))) ⟨aN f,aH⟩ (fun i H' _ q=> .of (q.1 _ _ hl.lst)) ?_ ?_
 .rintro i x H' s t ⟨g,a⟩ h;obtain⟨b,m,rfl⟩:=hU t;have u:i<hs.length:=by have:=(aV.mp m).1;lia
  obtain⟨B,p,v⟩:=hl.get u;rw[bp,m] at p;have w:=V.ref.inj (aW p);subst w;have j:=g.trans (aN (o:= .tup [.int (i:Nat), .ref b]) h);refine⟨s,_,Z, .of aH,Z,_,_,Z,_,_,Z,Z,Z,b,_,_,_,Z,Z,fj j v,Z,Z,_,Z,?_⟩;have e:(List.range (i+1)).filter (fun i=>ah ((bb hs i).d=d))=(List.range i).filter (fun i=>ah ((bb hs i).d=d))++if(bb hs i).d=d then[i] else[]:=by
   rw[de,fi];by_cases c:(bb hs i).d=d
   .rw[ai c,du (by simpa using c)];rfl
   .rw[ak c,dq (by simpa using c)];rfl
  refine e_ (fun c=> ?_) (fun c=> ?_)
  .have y:(bb hs i).d=d:=by have:=V.int.inj (aq c);lia
   rw[ai y] at e;refine⟨_,(aN h) _ _ a,?_,cD j f,?_⟩
   .rw[cZ];exact bo (bY (dz _ _) (by rw[bG];lia)) (show 50<br by decide)
   .rw[aH,e,gu]
  .rw[ak (fun z=>c (au (by rw[z]))),bZ] at e;exact e▸⟨j,(aN h) _ _ a⟩
 .rintro H' ⟨g,a⟩;rw[aE,r] at a;exact k D H' f g a
inductive K_ K H(Q:VK):List V->Prop|mk:∀lh as hs x y,(HL K H lh as hs)->(Q (.bl (!hs.all fun z=>ah (z.pt≠(x,y)))) H)->K_ K H Q [.ref lh, .int x, .int y]
theorem vL:Ok Y 1 18 (K_ K):=by
 refine Y.ok ?_;rintro _ H _ Q nd p ⟨lh,as,hs,x,y,hl,k⟩;refine⟨_,(aI (fT (eM (pv 0)) (cJ 3) (b6 (da (PW.pt (nF (cK jt (bM di (pv 3) aY) (pv 1)) (lC (cK jt (bM di (pv 3) aY) (pv 2))))) (cy mV) ck))) (cy mV)),?_⟩;refine⟨lh,Z,⟨_, .of hl.lst⟩,iJ (K:=K) (fun i a H'=>E1 fun v:Option V=>A3 (H'=H) (((hs.take i).all fun z=>ah (z.pt≠(x,y)))=af) (a=[aa (.ref lh),aa (.int x),aa (.int y),v])) ⟨ae,Z,Z,Z⟩ (fun i a H' _ ⟨_,e,_,_⟩=>by rw[e];exact .of hl.lst) ?_ ?_⟩
 .rintro i v a H' m ⟨u,rfl,d,rfl⟩;obtain⟨b,n,rfl⟩:=hU m;obtain⟨g,hg,l⟩:=dj hl.at_ n;have f:g.x=x->g.y=y->(hs.all fun z=>ah (z.pt≠(x,y)))=false:=fun o h=>by rw[R6];refine⟨g,bC hg,?_⟩;simp[Hole.pt,o,h]
  have good:¬(g.x=x/\g.y=y)->((hs.take (i+1)).all fun z=>ah (z.pt≠(x,y)))=true:=fun e=>by
   rw[take_snoc hg,List.all_append,d,cX,jU,List.all_nil,fq];simp[Hole.pt];by_cases q:g.x=x
   .exact .inr fun r=>e ⟨q,r⟩
   .exact .inl q
  refine⟨b,_,_,_,Z,Z,l,Z,Z,_,Z,?_⟩;refine e_ (fun c=> ?_) (fun c=> ?_)
  .have c1:=V.int.inj (aq c);refine⟨b,_,_,_,Z,Z,l,Z,Z,_,Z,?_⟩;refine e_ (fun j=> ?_) (fun j=> ?_)
   .have h:=V.int.inj (aq j);rw[f c1 h] at k;exact k
   .exact⟨_,Z,good fun z=>j (au (by rw[z.2])),Z⟩
  .exact⟨_,Z,good fun z=>c (au (by rw[z.1])),Z⟩
 .rintro a H' ⟨u,rfl,d,rfl⟩;rw[aE,hl.len,cR] at d;rw[d] at k;exact k
inductive Qh H(Q:VK):List V->Prop|mk:∀lo o (i:Nat),(H lo=aa (.lst (nv o)))->(o.length<=100)->(Au H ((o.filter fun j=>ah (j≠i)).map fun j=>if i<j then j-1 else j) Q)->Qh H Q [.ref lo, .int i]
theorem xe:Ok Y 1 24 Qh:=by
 refine Y.ok ?_;rintro _ H _ Q nd y ⟨lo,o,d,ho,g,k⟩;refine⟨_,(aI (bB 2 (cT gW)) (aI (fT (eM (pv 0)) (cJ 3) (b6 (da (cK lG (pv 3) (pv 1)) (b6 (cQ (fV aX bu bw df (pv 2) (cO (pv 3))))) (b6 (da (cK mB (pv 3) (pv 1)) (b6 (cQ (fV aX bu bw df (pv 2) (cO (cu fK (pv 3) aY))))) ck))))) (cy (pv 2)))),?_⟩;refine⟨cg _,fun p h=> ?_⟩;refine⟨lo,Z,⟨_, .of ((aN h) _ _ ho)⟩,iJ (K:=K) (fun i m H'=>E1 fun v:Option V=>A3 (cI H H') (H' p=aa (.lst (nv (((o.take i).filter fun j=>ah (j≠d)).map fun j=>if d<j then j-1 else j)))) (m=[aa (.ref lo),aa (.int (d:Int)),aa (.ref p),v])) ⟨ae,aN h,aH,Z⟩ (fun i m H' _ ⟨_,e,_,_⟩=> .of (e _ _ ho)) ?_ ?_⟩
 .rintro i v m H' s ⟨u,l,f,rfl⟩;obtain⟨n,hn,rfl⟩:=o7 s;have r:(nv (((o.take i).filter fun j=>ah (j≠d)).map fun j=>if d<j then j-1 else j)).length<br:=by rw[cZ,aE];refine bo (bY (dz _ _) (by rw[bA];exact eU _ _)) (bo g (by decide))
  have a:∀(b:List Nat),((o.take (i+1)).filter fun j=>ah (j≠d)).map (fun j=>if d<j then j-1 else j)=((o.take i).filter fun j=>ah (j≠d)).map (fun j=>if d<j then j-1 else j)++(if n=d then[] else[if d<n then n-1 else n]):=fun _=>by
   rw[take_snoc hn,fi,a_];by_cases e:n=d
   .rw[ai e,dq (by simpa using e)];rfl
   .rw[ak e,du (by simpa using e)];rfl
  have a:=a [];refine⟨_,_,Z,Z,_,Z,?_⟩;refine e_ (fun c=> ?_) (fun c=> ?_)
  .have t:=aq c;rw[ak (by lia),ak (by lia)] at a;refine⟨.inl ⟨Z,_, .of f⟩,p,_,_,Z,Z,f,r,_,cD l h,?_,Z⟩;rw[aH,a,gu]
  .have t:=fun z=>c (au z);refine⟨_,_,Z,Z,_,Z,?_⟩;refine e_ (fun q=> ?_) (fun q=> ?_)
   .have w:=aq q;rw[ak (by lia),ai (by lia)] at a;refine⟨.inl ⟨Z,_, .of f⟩,_,_,Z,Z,p,_,_,Z,Z,f,r,_,cD l h,?_,Z⟩;have x:n-1=((n-1:Nat):Int):=by lia
    rw[aH,a,gu,x]
   .have w:=fun z=>q (au z);rw[ai (by lia),bZ] at a;refine⟨_,l,?_,Z⟩;rwa [a]
 .rintro m H' ⟨u,l,f,rfl⟩;rw[cZ,cR] at f;exact k p H' h l f
end
end
section
open Vbpcak (Hole)
section
def ub(l:List Int)(n:Nat):Bool:=ah (l.length=n)&&(l.all (fun i=>Vbpcak.within 0 i (n-1))&&ah l.Nodup)
inductive VI H(Q:VK):List V->Prop|mk:∀ll l (n:Nat),(H ll=aa (.lst (l.map V.int)))->(n<=100)->(∀H':Hp,cI H H'->Q (.bl (ub l n)) H')->VI H Q [.ref ll, .int n]
theorem X6{l:List Int}{i:Nat}(h:(l.map V.int)[i]? =aa v):∃z,l[i]? =aa z/\v= .int z:=by
 rw[bp] at h
 cases e:l[i]? with
 |none=>rw[e] at h;cases h
 |some n=>rw[e] at h;exact⟨n,Z,(aW h).symm⟩
theorem MR{k:Key}:(jc cw k).isSome=af↔k∈cw.map (·.1):=by
 constructor
 .intro h;obtain⟨v,hv⟩:=pD.mp h;exact Ts hv
 .intro h;cases e:jc cw k with|none=>exact az h (O_ e)|some v=>rfl
theorem Hf:Ok Y 1 48 VI:=by
 refine Y.ok ?_;rintro _ H _ Q nd E ⟨r,l,n,hl,F,k⟩;have B:=E.u1;refine⟨_,(aI (da (cK CI (dZ Y.nn (pv 0)) (pv 1)) (cy mV) ck) (aI (bB 2 Gp) (aI (fT (eM (pv 0)) (cJ 3) (aI (da (PW.pt (xQ (gV (gw gv lG aY (pv 3) (pv 1))) (uo (Od (Xp B (pv 3) (pv 2)))))) (cy mV) ck) (b6 (y9 B (pv 2) (pv 3) mV Z)))) (cy mV)))),?_⟩;refine⟨r,_,Z, .inl (.of hl),Z,_,Z,?_⟩;rw[aE];by_cases q:l.length=n
 .have f:l.length<=100:=by lia
  rw[au (by rw[q])];intro p s;refine⟨r,Z,⟨_, .of ((aN s) _ _ hl)⟩,iJ (fun i h H'=>E2 fun v d=>A7 (cI H H') (H' p=aa (.dK d)) (d.map (·.1)=(l.take i).map ma) (d.length<=i) ((l.take i).Nodup) ((∀z∈l.take i,0<=z/\z<n)) (h=[aa (.ref r),aa (.int n),aa (.ref p),v])) ⟨ae,[],aN s,aH,Z,aQ _,fh,fun z a=>by simp at a,Z⟩ (by rintro i h H' _ ⟨_,_,e,_,_,_,_,_,_⟩;exact .of (e _ _ hl)) ?_ ?_⟩
  .rintro i v h H' G ⟨u,d,j,hd,hk,t,m,o,rfl⟩;obtain⟨z,a,rfl⟩:=X6 G;have w:¬(0<=z/\z<(n:Int))\/z∈l.take i->ub l n=false:=fun c=>by
    unfold ub;rcases c with c|c
    .have:l.all (fun i=>Vbpcak.within 0 i (n-1))=false:=by rw[R6];refine⟨z,bC a,?_⟩;unfold Vbpcak.within;simp;lia
     rw[this,eR,eS]
    .have:ah l.Nodup=false:=by
      refine aw fun hn=> ?_;have e:=(d5 i l).symm;have x:z∈l.drop i:=by obtain⟨h1,I⟩:=aV.mp a;rw[c_ h1,I];exact aT ..
      rw[e] at hn;exact(hG.mp hn).2.2 z c z x Z
     rw[this,eS,eS]
   have fin:=fun c=>by have:=k H' j;rw[w c] at this;exact this
   refine⟨_,_,Z,Z,_,Z,?_⟩;refine e_ (fun c=> ?_) (fun c=> ?_)
   .refine⟨_,_,Z,Z,_,Z,?_⟩;refine e_ (fun A=> ?_) (fun A=> ?_)
    .have J:¬z<n:=by simpa using A
     exact fin (.inl fun y=>J y.2)
    .refine⟨p,_,Z,tK.k (k:=ma z) hd,_,Z,?_⟩;have C:(jc d (ma z)).isSome=af↔z∈l.take i:=by
      rw[MR,hk,bK];constructor
      .rintro⟨y,b,e⟩;cases e
       exact b
      .exact fun b=>⟨z,b,Z⟩
     refine e_ (fun g=>fin (.inr (C.mp g))) (fun g=> ?_);have D:jc d (ma z)=none:=by cases e:jc d (ma z) with|none=>rfl|some v=>rw[e] at g;exact az Z g
     refine⟨p,_,Z,Gm.k (k:=ma z) hd (bo t (bN ((aV.mp a).1) (bY f (by decide)))),?_⟩;refine⟨_,_,cD j s,aH,?_,?_,?_,?_,Z⟩
     .rw[Gk _ D,a_,hk,take_snoc a,a_];rfl
     .rw[Gk _ D,aG];exact Bt t
     .rw[take_snoc a];exact y_ m (fun y=>g (C.mpr y))
     .intro y b;rw[take_snoc a] at b;rcases cN.mp b with b|b
      .exact o y b
      .rw[a0.mp b];exact⟨aq c,by simpa using A⟩
   .exact⟨_,Z,fin (.inl fun y=>(fun y=>c (au y)) y.1)⟩
  .rintro h H' ⟨u,d,j,hd,hk,t,m,o,rfl⟩;rw[aE,cR] at m o;have e:ub l n=true:=by unfold ub;rw[au q,au m,fq,cX,gD];intro z a;have:=o z a;unfold Vbpcak.within;simp;lia
   have:=k H' j;rw[e] at this;exact this
 .rw[aw (fun z=>q (by have:=V.int.inj z;lia))];have:=k H (cI.refl H);have e:ub l n=false:=by unfold ub;rw[aw q,eR]
  rw[e] at this;exact this
def fc(c:Nat)(hs:List Hole)(a:Hole)(i:Nat):Nat:=tL c a (bb hs i)
inductive La K H(Q:VK):List V->Prop|mk:∀lh ll b as hs x r a (c:Nat),(HL K H lh as hs)->(H ll=aa (.lst (nv (x::r))))->(HT K H b a)->(Ord (x::r) hs)->(∀m:Nat,cn (fc c hs a) (x::r)=aa m->Q (.int (m:Int)) H)->La K H Q [.ref lh, .ref ll, .ref b, .int c]
theorem Hg:Ok Y 3 49 (La K):=by
 refine Y.ok ?_;rintro _ H _ Q nd w ⟨lh,h,b,as,hs,x,r,a,c,hl,j,y,A,k⟩;obtain⟨B,l,o⟩:=hl.get (A x (aT ..));refine⟨_,(aI (bB 4 (bM bP (pv 1) aY)) (aI (bB 5 (cP (vH Y) w.mono (aR (pv 2) (aR (bM bP (pv 0) (pv 4)) (cO (pv 3)))))) (aI (fT (eM (pv 1)) (cJ 6) (aI (bB 7 (cP (vH Y) w.mono (aR (pv 2) (aR (bM bP (pv 0) (pv 6)) (cO (pv 3)))))) (b6 (da (cK lG (pv 7) (pv 5)) (aI (bB 4 (pv 6)) (b6 (bB 5 (pv 7)))) ck)))) (cy (pv 4))))),?_⟩;refine⟨h,_,_,_,Z,Z, .of j,at_of Z rfl,lh,_,_,_,Z,Z, .of hl.lst,cB l,b,B,_,_,c,y,o,?_⟩;refine⟨h,Z,⟨_, .of j⟩,iJ (fun i f H'=>E3 fun m p s=>A3 (H'=H) (m=((x::r).take i).foldl (fun d n=>if fc c hs a n<fc c hs a d then n else d) x) (f=[aa (.ref lh),aa (.ref h),aa (.ref b),aa (.int c),aa (.int m),aa (.int (fc c hs a m)),p,s])) ⟨x,ae,ae,Z,Z,Z⟩ (fun i f H' _ ⟨_,_,_,e,_,_⟩=>by rw[e];exact .of j) ?_ ?_⟩
 .rintro i v f H' C ⟨m,p,s,rfl,g,rfl⟩;obtain⟨n,hn,rfl⟩:=o7 C;obtain⟨D,t,u⟩:=hl.get (A n (bC hn));have e:((x::r).take (i+1)).foldl (fun d n=>if fc c hs a n<fc c hs a d then n else d) x=if fc c hs a n<fc c hs a m then n else m:=by rw[take_snoc hn,iX,<-g];rfl
  refine⟨lh,_,_,_,Z,Z, .of hl.lst,cB t,b,D,_,_,c,y,u,_,_,Z,Z,_,Z,?_⟩;refine e_ (fun q=> ?_) (fun q=> ?_)
  .have E:fc c hs a n<fc c hs a m:=by have:=aq q;unfold fc at this⊢;lia
   rw[ai E] at e;exact⟨n,_,_,Z,e.symm,Z⟩
  .rw[ak (fun z=>q (au (by unfold fc at z;show((tL c a (bb hs n):Nat))<((tL c a (bb hs m):Nat):Int);lia)))] at e;exact⟨m,_,_,Z,e.symm,Z⟩
 .rintro f H' ⟨m,p,s,rfl,g,rfl⟩;rw[cZ,cR] at g;exact k m (by rw[M.MM,g])
def wk(c:Nat)(hs:List Hole):Nat->Hole->List Nat->List Nat
 |0,_,_=>[]
 |n+1,a,left=>match cn (fc c hs a) left with
  |none=>[]
  |some i=>i::wk c hs n (bb hs i) (left.filter fun j=>ah (j≠i))
theorem EH(c:Nat)(hs:List Hole):∀(n m:Nat) (a:Hole) (l:List Nat),l.Nodup->l.length<=n->l.length<=m->wk c hs n a l=wk c hs m a l
 |0,0,_,_,_,_,_=>rfl
 |0,m+1,a,l,_,h,_=>by have e:l=[]:=bX.mp (by lia);subst e;rfl
 |n+1,0,a,l,_,_,h=>by have e:l=[]:=bX.mp (by lia);subst e;rfl
 |n+1,m+1,a,l,hn,h1,b=>by unfold wk;cases e:cn (fc c hs a) l with|none=>rfl|some i=>dsimp only;have hl:=M.ij l i hn (M.fB _ _ _ e);rw[EH c hs n m _ _ (hn.filter _) (by lia) (by lia)]
inductive Qj K H(Q:VK):List V->Prop|mk:∀lh ll b as hs l a (c:Nat),(HL K H lh as hs)->(H ll=aa (.lst (nv l)))->(HT K H b a)->(Ord l hs)->l.Nodup->(l.length<=50)->(Au H (wk c hs l.length a l) Q)->Qj K H Q [.ref lh, .ref ll, .ref b, .int c]
theorem Hh(l:List Nat)(m:Nat):((l.map fun(n:Nat)=>(n:Int)).erase (m:Int))=(l.erase m).map fun(n:Nat)=>(n:Int):=by
 induction l with
 |nil=>rfl
 |cons a r b=>
  by_cases e:a=m
  .subst e;rw[b5,kB,kB]
  .rw[b5,iW (by simpa using (by lia)),iW (by simpa using e),b5,b]
theorem pN:Ok Y 4 50 (Qj K):=by
 refine Y.ok ?_;rintro _ H _ Q nd T ⟨lh,N,b,as,hs,l,a,c,hl,U,V,X,Su,O,k⟩;refine⟨_,(aI (bB 4 (sP vt Z Y.nn (by rfl) (cO (pv 1)))) (aI (bB 5 (cT gW)) (aI (bB 6 (pv 2)) (aI (lD gf (je (pv 4) (fun _=>rfl)) (aI (bB 7 (cP (Hg Y) T.mono (aR (pv 0) (aR (pv 4) (aR (pv 6) (cO (pv 3))))))) (aI (cQ (fV aX Ct Cu C3 (pv 4) (cO (pv 7)))) (aI (cQ (fV aX bu bw df (pv 5) (cO (pv 7)))) (b6 (bB 6 (bM bP (pv 0) (pv 7)))))))) (cy (pv 5)))))),?_⟩;refine⟨N,_,Z, .inl (.of U),fun f u=> ?_⟩;refine⟨cg _,fun h d=> ?_⟩;have w:=aS aH d;have i:=(aN u).free d;dsimp only[pF,uq];refine lE (fun y H'=>E5 fun L W A o v=>A9 (cI H H') (H' f=aa (.lst (nv L))) (H' h=aa (.lst (nv W))) (HT K H' A o) (Ord L hs) L.Nodup (W.length+L.length=l.length) (W++wk c hs L.length o L=wk c hs l.length a l) (y=[aa (.ref lh),aa (.ref N),aa (.ref b),aa (.int (c:Int)),aa (.ref f),aa (.ref h),aa (.ref A),v])) (fun y H'=>match H' f with|some (.lst xs)=>xs.length|_=>0) ?_ ?_ ?_
 .refine⟨l,[],b,a,ae,(aN u).trans (aN d),?_,aH,?_,X,Su,?_,Z,Z⟩
  .rw[aL w];exact aH
  .exact fj ((aN u).trans (aN d)) V
  .simp
 .rintro y H' ⟨L,W,A,o,v,B,p,C,F9,g,D,VJ,s,rfl⟩;refine⟨_, .inl ⟨_, .of p,Z⟩,?_⟩
  cases L with
  |nil=>
   have e:W=wk c hs l.length a l:=by rw[<-s];exact(bZ W).symm
   rw[e] at C;exact k h H' i B C
  |cons x r=>
   refine⟨lh,f,A,as,hs,x,r,o,c,hl.same B,p,F9,g,fun m P=> ?_⟩;have E:=M.fB _ _ _ P;obtain⟨am,F,G⟩:=hl.get (g m E);refine⟨.inl ⟨Z,_, .of p⟩,f,_,(m:Int),Z,Z,by rw[<-oM];exact p,bK.mpr ⟨m,E,Z⟩,?_⟩;rw[Hh,<-oM,M.erase_filter _ _ D];have t:upd H' f (.lst (nv ((x::r).filter fun j=>ah (j≠m)))) h=aa (.lst (nv W)):=by rw[aL (bF w)];exact C
   have I:(nv W).length<br:=by rw[cZ];exact bo (show W.length<=50 by lia) (by decide)
   refine⟨.inl ⟨Z,_, .of t⟩,h,_,_,Z,Z,t,I,?_⟩;have J:cI H (upd (upd H' f (.lst (nv ((x::r).filter fun j=>ah (j≠m))))) h (.lst (nv W++[.int (m:Int)]))):=cD (cD B u) i;refine⟨lh,_,_,_,Z,Z, .of (J _ _ hl.lst),cB F,?_⟩;have R:=M.ij (x::r) m D E;refine⟨⟨(x::r).filter fun j=>ah (j≠m),W++[m],am,bb hs m,_,J,?_,?_,fj J G,?_,D.filter _,?_,?_,Z⟩,?_⟩
   .rw[aL w];exact aH
   .rw[aH,gu]
   .intro n hn;exact g n (b_.mp hn).1
   .rw[aG];simp only[aK,bQ] at VJ R⊢;lia
   .rw[<-s,bJ];congr 1;have e:(x::r).length=((x::r).filter fun j=>ah (j≠m)).length+1:=R.symm;rw[e];show m::wk c hs _ _ _=wk c hs (_+1) o (x::r);unfold wk;rw[P];cases S:((x::r).filter fun j=>ah (j≠m)).length<;>rfl
   .rw[p,aL w,aH];show(nv _).length<(nv _).length;rw[cZ,cZ];lia
 .rintro y H' Q1 Q2 S z;obtain⟨v,e,k',tr,q⟩:=FW z;exact CG e ⟨k',tr,S _ _ q⟩
theorem uC(c:Nat)(hs:List Hole)(b:jQ hs):∀(n:Nat) (a:Hole) (l:List Nat),1<=a.d->Ord l hs->wk c hs n a l=dY c hs n (aa a) l|0,_,_,_,_=>rfl|n+1,a,l,e,d=>by unfold wk dY;rw[(M.mm _ _ l fun i f=>De e (b _ (iO (d i f))):cn (fc c hs a) l=cn (fun i=>rj c a (bb hs i)) l)];cases q:cn (fun i=>rj c a (bb hs i)) l with|none=>rfl|some i=>dsimp only;rw[uC c hs b n _ _ (b _ (iO (d i (M.fB _ _ _ q)))) fun m g=>d m (b_.mp g).1]
theorem EI(c:Nat)(hs:List Hole)(a:jQ hs)(n:Nat)(l:List Nat)(b:Ord l hs):wk c hs n H0 l=dY c hs n ae l:=by cases n with|zero=>rfl|succ n=>dsimp only[wk,dY];rw[(M.mm _ _ l fun i e=>Ha c _:cn (fc c hs H0) l=cn (fun i=>Vbpcak.way jB (bb hs i).pt) l)];cases q:cn (fun i=>Vbpcak.way jB (bb hs i).pt) l with|none=>rfl|some i=>dsimp only;rw[uC c hs a n _ _ (a _ (iO (b i (M.fB _ _ _ q)))) fun m d=>b m (b_.mp d).1]
theorem pO(hs:List Hole):Ord (List.range hs.length) hs:=fun n hn=>bU.mp hn
inductive Qk K H(Q:VK):List V->Prop|mk:∀lh as hs (c:Nat),(HL K H lh as hs)->(hs.length<=50)->(jQ hs)->(Au H (Bz c hs) Q)->Qk K H Q [.ref lh, .int c]
theorem xf:Ok Y 5 51 (Qk K):=by
 refine Y.ok ?_;rintro _ H _ Q nd e ⟨lh,as,hs,c,hl,a,f,k⟩;refine⟨_,(cy (cP (pN Y) e.mono (aR (pv 0) (aR (qp Z rfl Y.nn Z Y.nn (cO (dZ Y.nn (pv 0)))) (aR (pK Y.rr) (cO (pv 1))))))),?_⟩;refine⟨lh,_,Z, .inl (.of hl.lst),hs.length,?_,bY a (by decide),fun p b=> ?_⟩
 .rw[aE,hl.len]
 refine⟨lh,p,nK,as,hs,List.range hs.length,H0,c,hl.same (aN b),aH,Y.hh.is _,pO hs,dS,by rw[bG];exact a,fun q H' g h d=> ?_⟩;rw[bG,EI c hs f _ _ (pO hs)] at d;exact k q H' ((aN b).free g) ((aN b).trans h) d
theorem l8(hs:List Hole)(d:Nat):Ord (numsOf hs d) hs:=fun n hn=>bU.mp (b_.mp hn).1
theorem lL(hs:List Hole)(d:Nat):(numsOf hs d).Nodup:=dS.filter _
theorem numsOf_len(hs:List Hole)(d:Nat):(numsOf hs d).length<=hs.length:=bY (dz _ _) (by rw[bG];exact aQ _)
theorem EJ(c:Nat)(hs:List Hole):∀(k:Nat) (a:Hole) (l:List Nat) (n:Nat),n∈wk c hs k a l->n∈l
 |0,a,l,n,h=>by simp[wk] at h
 |k+1,a,l,n,h=>by
  unfold wk at h
  cases e:cn (fc c hs a) l with
  |none=>rw[e] at h;simp at h
  |some i=>
   rw[e] at h;rcases aZ.mp h with rfl|h
   .exact M.fB _ _ _ e
   .exact(b_.mp (EJ c hs k _ _ n h)).1
theorem Ql(c:Nat)(hs:List Hole):∀(k:Nat) (a:Hole) (l:List Nat),(wk c hs k a l).length<=k|0,a,l=>aQ _|k+1,a,l=>by dsimp only[wk];cases e:cn (fc c hs a) l with|none=>exact cg _|some i=>exact Bt (Ql c hs k _ _)
theorem T8(h:l≠[]):∃x,(wk c hs l.length a l).getLast? =aa x/\x∈l:=by
 cases l with
 |nil=>exact az Z h
 |cons y r=>
  obtain⟨m,d⟩:=M.iK (fc c hs a) y r;have e:∃z t,wk c hs (y::r).length a (y::r)=z::t:=by show∃z t,wk c hs (r.length+1) a (y::r)=z::t;dsimp only[wk];exact d▸⟨_,_,Z⟩
  obtain⟨z,t,e⟩:=e;have b:(wk c hs (y::r).length a (y::r)).getLast? =aa ((z::t).getLast (by simp)):=by rw[e];exact List.getLast?_eq_some_getLast (by simp)
  exact⟨_,b,EJ c hs _ _ _ _ (L4 b)⟩
inductive VL K H(Q:VK):List V->Prop|mk:∀lh as hs,(HL K H lh as hs)->(hs.length<=50)->(jQ hs)->(Au H (oh hs) Q)->VL K H Q [.ref lh]
theorem Lb(x:Nat):∀l:List Nat,(eN x l).length<=l.length+1
 |[]=>by simp[eN]
 |a::r=>by
  dsimp only[eN];split
  .simp
  .split
   .simp
   .have:=Lb x r;simp only[aK];lia
theorem xg(hs:List Hole):(cC hs).length<=hs.length:=by
 have key:∀(hs:List Hole) l,(hs.foldl (fun l h=>eN h.d l) l).length<=l.length+hs.length:=by intro hs;induction hs with|nil=>intro l;exact aQ _|cons a r b=>intro l;have h1:=b (eN a.d l);have c:=Lb a.d l;simp only[iT,aK];lia
 have:=key hs [];simpa [cC] using this
def At(a:Option Hole)(h:Hole):Prop:=match a with|some g=>h=g/\1<=g.d|none=>h=H0
theorem VM(b:jQ hs)(q:At a h)(n:Nat)(l:List Nat)(d:Ord l hs):wk c hs n h l=dY c hs n a l:=by cases a with|none=>rw[show h=H0 from q];exact EI c hs b n l d|some g=>rw[q.1];exact uC c hs b n g l q.2 d
theorem xh:Ok Y 5 52 (VL K):=by
 refine Y.ok ?_;rintro _ H _ Q nd z ⟨lh,as,hs,hl,l,P,k⟩;refine⟨_,(aI (bB 1 (cT gW)) (aI (bB 2 (pK Y.rr)) (aI (fT (eM (cP (qw Y) z.mono (cO (pv 0)))) (cJ 3) (aI (cQ (fV aX eP eQ l6 (pv 1) (cO (cP (pN Y) z.mono (aR (pv 0) (aR (cP (lK Y) z.mono (aR (pv 0) (cO (pv 3)))) (aR (pv 2) (cO aY)))))))) (b6 (bB 2 (bM bP (pv 0) (bM bP (pv 1) (CH wN aY))))))) (cy (pv 1))))),?_⟩;refine⟨cg _,fun po n=> ?_⟩;refine⟨lh,as,hs,hl.same (aN (o:= .lst []) n),l,fun pd H1 p R r=> ?_⟩;have adA:=(aN n).free p;refine⟨pd,Z,⟨_, .of r⟩,iJ (fun i u H'=>E5 fun O b g a v=>A8 (cI H H') (H' pd=aa (.lst (nv (cC hs)))) (H' po=aa (.lst (nv O))) (O.length<=50*i) (HT K H' b g) (At a g) (O++oj hs ((cC hs).drop i) a=oh hs) (u=[aa (.ref lh),aa (.ref po),aa (.ref b),v])) ⟨[],nK,H0,ae,ae,(aN n).trans R,r,R _ _ aH,aQ _,Y.hh.is _,Z,Z,Z⟩ (by rintro i u H' _ ⟨_,_,_,_,_,_,e,_,_,_,_,_,_⟩;exact .of e) ?_ ?_⟩
 .rintro i v u H' hi ⟨O,b,g,a,v3,w,hd,ho,A,S,T,f,rfl⟩;obtain⟨d,y,rfl⟩:=o7 hi;have U:=(aV.mp y).1;have s:=hl.same w;refine⟨.inl ⟨Z,_, .of ho⟩,lh,as,hs,d,s,l,fun pn H2 Ss m X8=> ?_⟩;have B:=numsOf_len hs d;refine⟨lh,pn,b,as,hs,numsOf hs d,g,0,s.same m,X8,fj m S,l8 hs d,lL hs d,by lia,fun pk V Tu C D=> ?_⟩;have E:wk 0 hs (numsOf hs d).length g (numsOf hs d)=dY 0 hs hs.length a (numsOf hs d):=by rw[EH 0 hs _ hs.length g _ (lL hs d) (aQ _) B,VM P T _ _ (l8 hs d)]
  have VN:=Ql 0 hs (numsOf hs d).length g (numsOf hs d);have gT:po≠pk:=aS (m _ _ ho) Tu;have T9:=xg hs;refine⟨po,pk,_,_,Z,Z,C _ _ (m _ _ ho),D,?_,?_⟩
  .rw[cZ,cZ];have:br=2^24:=rfl;lia
  have ji:numsOf hs d≠[]:=by
   obtain⟨h,F,e⟩:=(M.pM hs d).mp (bC y);obtain⟨j,W,e2⟩:=eG.mp F;intro q;have:j∈numsOf hs d:=b_.mpr ⟨bU.mpr W,au (by unfold bb;rw[bh,aP W,jk,e2];exact e)⟩
   rw[q] at this;simp at this
  obtain⟨x,X,G⟩:=T8 (c:=0) (hs:=hs) (a:=g) ji;have t:=l8 hs d x G;have I:cI H V:=(w.trans m).trans C;have J:cI H (upd V po (.lst (nv O++nv (wk 0 hs (numsOf hs d).length g (numsOf hs d))))):=cD I n;obtain⟨ax,L,N⟩:=(hl.same J).get t;have Qm:Ga (nv O++nv (wk 0 hs (numsOf hs d).length g (numsOf hs d))) (-1)=aa (.int (x:Int)):=by obtain⟨ys,ey⟩:=List.getLast?_eq_some_iff.mp X;rw[ey,o8,<-bJ,gu];exact zU _ _
  refine⟨_,Z,po,_,_,_,Z,Z, .of aH,Qm,lh,_,_,_,Z,Z, .of (J _ _ hl.lst),cB L,?_⟩;refine⟨O++wk 0 hs (numsOf hs d).length g (numsOf hs d),ax,bb hs x,aa (bb hs x),_,J,?_,?_,?_,N,⟨Z,P _ (iO t)⟩,?_,Z⟩
  .rw[aL (aS aH p).symm];exact C _ _ (m _ _ hd)
  .rw[aH,o8]
  .rw[aG];lia
  .rw[<-f,bJ];congr 1;rw[c_ U];have ed:(cC hs)[i]=d:=by rw[aP U] at y;exact aW y
   rw[ed];show _=dY 0 hs hs.length a (numsOf hs d)++oj hs ((cC hs).drop (i+1)) (match(dY 0 hs hs.length a (numsOf hs d)).getLast? with|some i=>aa (bb hs i)|none=>a);rw[<-E,X]
 .rintro u H' ⟨O,b,g,a,v3,w,hd,ho,A,S,T,f,rfl⟩;rw[cZ,qU] at f;have e:O=oh hs:=by rw[<-f];exact(bZ O).symm
  rw[e] at ho;exact k po H' n w ho
end
end
section
open Vbpcak (Hole)
theorem Qn(c:Nat)(a b:Hole):tL c a b=tL c b a:=by
 unfold tL;have d:Vbpcak.way a.pt b.pt=Vbpcak.way b.pt a.pt:=by
  unfold Vbpcak.way;have h1:(a.pt.1-b.pt.1).natAbs=(b.pt.1-a.pt.1).natAbs:=by lia
  have e:(a.pt.2-b.pt.2).natAbs=(b.pt.2-a.pt.2).natAbs:=by lia
  rw[h1,e]
 rw[d];by_cases h:a=H0\/b=H0\/a.d=b.d
 .rw[ai h,ai (by rcases h with h|h|h;exact .inr (.inl h);exact .inl h;exact .inr (.inr h.symm))]
 .rw[ak h,ak (fun z=>h (by rcases z with z|z|z;exact .inr (.inl z);exact .inl z;exact .inr (.inr z.symm)))]
theorem Qo(c:Nat)(hs:List Hole)(a b:Nat):kX c hs a b=kX c hs b a:=Qn c _ _
theorem Qp(h:n<hs.length):Ez hs n=bb hs n:=by unfold Ez bb;rw[bh,bh,cH h,aP h];rfl
theorem Hi(hs:List Hole):Ez hs hs.length=H0:=by unfold Ez;rw[bh,cM (aQ _),i7];rfl
theorem Dq(c:Nat)(hs:List Hole):∀(o:List Nat) (k a:Nat),Ord o hs->(qY c k (Ez hs a) (bE hs o)).1+tL c (qY c k (Ez hs a) (bE hs o)).2 H0=k+M.gn (kX c hs) (a::(o++[hs.length]))
 |[],k,a,_=>by show k+tL c (Ez hs a) H0=k+(kX c hs a hs.length+0);unfold kX;rw[Hi];rfl
 |x::r,k,a,b=>by show(qY c (k+tL c (Ez hs a) (bb hs x)) (bb hs x) (bE hs r)).1+tL c (qY c (k+tL c (Ez hs a) (bb hs x)) (bb hs x) (bE hs r)).2 H0=k+(kX c hs a x+M.gn (kX c hs) (x::(r++[hs.length])));rw[<-Qp (b x (aT ..)),(Dq c hs r (k+tL c (Ez hs a) (Ez hs x)) x fun n hn=>b n (aO _ hn))];unfold kX;lia
theorem Ay(a:Ord o hs)(d:jQ hs):ia c hs o=M.zc (kX c hs) hs.length o:=by
 have e:=xY c (bE hs o) (fun h q=>by obtain⟨n,hn,rfl⟩:=bK.mp q;exact d _ (iO (a n hn)))
 have b:=Dq c hs o 0 hs.length a;rw[Hi] at b;unfold ia;rw[<-e,b,i8];rfl
structure TR(H:Hp) t(bs:List Addr)(m n)(F:Nat->Nat->Nat):Prop where
 lst:H t=aa (.lst (bs.map V.ref))
 len:bs.length=m
 row:∀a b,bs[a]? =aa b->b≠t/\Row H b n (F a)
theorem TR.same(h:TR H t bs m n T)(e:cI H H'):TR H' t bs m n T:=⟨e _ _ h.lst,h.len,fun a b q=>⟨(h.row a b q).1,⟨e _ _ (h.row a b q).2.at_⟩⟩⟩
theorem TR.get(h:TR H t bs m n T)(c:a<m):∃b,(bs.map V.ref)[a]? =aa (.ref b)/\Row H b n (T a):=by have e:=aP (show a<bs.length by rw[h.len];exact c);exact⟨_,by rw[bp,e];rfl,(h.row a _ e).2⟩
section
inductive VO H(Q:VK):List V->Prop|mk:∀t r bs cs (n m left a k:Nat) T,(TB H t bs (n+1) T)->(TR H r cs m (n+1) (M.R T n))->(n<=7)->(k∈M.Sb n left)->(left<=m)->(left<128)->(a<n+1)->(Q (.int (T a k+M.R T n (left-2^k) k:Nat)) H)->VO H Q [.ref t, .ref r, .int left, .int a, .int k]
theorem qP:Ok Y 1 114 VO:=by
 refine Y.ok ?_;rintro _ H _ Q nd q ⟨t,r,bs,cs,n,m,left,a,x,tb,d,hR,hn,hk,s,hl,f,k⟩;obtain⟨g,h⟩:=M.nO.mp hk;have i:=M.Ju left x h;have u:=Cv x;obtain⟨e,j,l⟩:=d.get f;obtain⟨bl,o,p⟩:=hR.get (show left-2^x<m by lia);have c:left-1*2^((x:Nat):Int).toNat=((left-2^x:Nat):Int):=by
  dsimp only[dw];have:((2^x:Nat))=2^x:=by push_cast;rfl
  lia
 refine⟨_,(cy (cu dJ (bM bP (bM bP (pv 0) (pv 3)) (pv 4)) (bM bP (bM bP (pv 1) (cu fK (pv 2) (cu zG aY (pv 4)))) (pv 4)))),t,_,_,_,Z,Z, .of d.lst,cB j,e,_,_,_,Z,Z, .of l.at_,cB (Row.get (H:=H) (b:=e) (show x<n+1 by lia)),_,_,Z,Z,⟨by simp,by lia,by decide⟩,_,_,Z,Z,r,_,_,_,Z,Z, .of hR.lst,at_of c o,bl,_,_,_,Z,Z, .of p.at_,cB (Row.get (H:=H) (b:=bl) (show x<n+1 by lia)),_,_,Z,Z,?_⟩;rwa [show(tb a x)+(M.R tb n (left-2^x) x)=((tb a x+M.R tb n (left-2^x) x:Nat):Int) by simp]
inductive Qq H(Q:VK):List V->Prop|mk:∀t bs (n left:Nat) T,(TB H t bs (n+1) T)->(n<=7)->(left<128)->(Au H (M.Sb n left) Q)->Qq H Q [.ref t, .int left]
theorem qQ:Ok Y 1 115 Qq:=by
 refine Y.okN ["table","left","number"] ?_;rintro _ H _ Q nd p ⟨t,bs,n,left,tb,f,hn,hl,k⟩;have g:=f.len;refine⟨_,(cy (Eo [("number",2)] (ke Z Y.nn (cO (cu fK (dZ Y.nn (pv 0)) aY))) (cJ 2) (y8 (MC (cu W4 (pv 1) (cu zG aY (pv 2))) (fun _=>rfl))) (pv 2))),?_⟩;refine⟨t,_,Z, .inl (.of f.lst),_,_,Z,Z,_,Z,by rw[aE];lia,by rw[aE];lia,fun D e=> ?_⟩;have h:(((bs.map V.ref).length:Int)-1).toNat=n:=by rw[aE];lia
 rw[h];refine zZ (fun i H'=>cI H H'/\H' D=aa (.lst (nv (M.Sb i left)))) ⟨aN e,aH⟩ ?_ ?_
 .rintro i H' r ⟨a,b⟩;refine⟨Z,_,_,Z,Z,⟨by simp,by lia,by decide⟩,_,_,Z,Z,_,Z,?_⟩;have j:1*2^(0+(i:Int)).toNat=((2^i:Nat):Int):=by rw[show(0+(i:Int)).toNat=i by simp];push_cast;simp
  have l:Bo left ((2^i:Nat))=((left&&&2^i:Nat)):=by unfold Bo;rw[au (pq _),au (pq _)];rfl
  have o:((((left&&&2^i:Nat):Int)) !=0)=left.testBit i:=by rw[<-M.G8 left hl i (by lia)];cases q:left&&&2^i with|zero=>rfl|succ m=>rfl
  have d:M.Sb (i+1) left=M.Sb i left++if left.testBit i=af then[i] else[]:=by
   unfold M.Sb;rw[de,fi];by_cases c:left.testBit i=af
   .rw[ai c,du c];rfl
   .rw[ak c,dq c];rfl
  rw[j,l,o];refine e_ (fun c=> ?_) (fun c=> ?_)
  .rw[ai c] at d;refine⟨_,b,?_,cD a e,?_⟩
   .rw[cZ];exact bo (bY (dz _ _) (by rw[bG];lia)) (show 7<br by decide)
   .rw[aH,d,gu,show(0+i)=(i:Int) by lia]
  .rw[ak c,bZ] at d;rw[d];exact⟨a,b⟩
 .rintro H' ⟨a,b⟩;exact k D H' e a b
inductive Qr H(Q:VK)(vs:List V):Prop|mk:∀t r bs cs (n m left a:Nat) T,(vs=[.ref t, .ref r, .int left, .int a])->(TB H t bs (n+1) T)->(TR H r cs m (n+1) (M.R T n))->(n<=7)->(left<=m)->(left<2^n)->(a<n+1)->(∀H':Hp,cI H H'->Q (.int (M.R T n left a:Nat)) H')->Qr H Q vs
theorem EK(h:n<=7):2^n<=128:=bY (u7 (by decide) h) (by decide)
theorem xi:Ok Y 2 116 Qr:=by
 refine Y.okN ["table","rests","left","here","number"] ?_;rintro _ H _ Q nd l ⟨t,r,bs,cs,n,m,left,a,tb,rfl,f,hR,hn,A,hl,o,k⟩;have P:=EK hn;refine⟨_,(aI (da (cK jt (pv 2) aY) (cy (bM bP (bM bP (pv 0) (pv 3)) (CH wN aY))) ck) (cy (ja (Xf Z) Z Y.nn (by rfl) (cO (Eo [("number",4)] (eM (cP (qQ Y) l.mono (aR (pv 0) (cO (pv 2))))) (cJ 4) iu (cP (qP Y) l.mono (aR (pv 0) (aR (pv 1) (aR (pv 2) (aR (pv 3) (cO (pv 4)))))))))))),?_⟩;refine⟨Z,_,Z,?_⟩;refine e_ (fun c=> ?_) (fun c=> ?_)
 .have B:left=0:=by have:=V.int.inj (aq c);lia
  obtain⟨C,E,F⟩:=f.get o;have G:Ga (nv ((List.range (n+1)).map (tb a))) (-1)=aa (.int (tb a n)):=by rw[de,a_,b5,jG,gu];exact zU _ _
  refine⟨t,_,_,_,Z,Z, .of f.lst,cB E,_,Z,C,_,_,_,Z,Z, .of F.at_,G,?_⟩;have:=k H (cI.refl H);rw[B,M.X1] at this;exact this
 .have g:=M.Vy hl (fun z=>c (au (by rw[z];rfl)));refine⟨t,bs,n,left,tb,f,hn,by lia,fun pn I R h p=> ?_⟩;refine⟨pn,Z,⟨_, .of p⟩,fun D s=> ?_⟩;refine i9 (fun i H'=>cI I H'/\H' D=aa (.lst (nv (((M.Sb n left).take i).map fun i=>tb a i+M.R tb n (left-2^i) i)))) ⟨aN s,aH⟩ (fun i H' _ q=> .of (q.1 _ _ p)) ?_ ?_
  .rintro i x H' J ⟨b,d⟩;obtain⟨y,u,rfl⟩:=o7 J;refine⟨Z,?_⟩;refine⟨t,r,bs,cs,n,m,left,a,y,tb,f.same (h.trans b),hR.same (h.trans b),hn,bC u,A,by lia,o,?_⟩;refine⟨_,d,?_,cD b s,?_⟩
   .rw[cZ,aE,bA];refine bo (eU _ _) (bo (bY (dz _ _) (by rw[bG];exact hn)) (show 7<br by decide))
   .rw[aH,take_snoc u,a_,b5,jG,gu]
  .rintro H' ⟨b,d⟩;rw[cZ,cR] at d;rw[oM] at d;refine⟨D,_,Z, .of d,?_,fun v hv K=> ?_⟩
   .rw[aE,aE];exact kW.mpr g
   .have e:v=((M.R tb n left a:Nat)):=by rw[M.PY tb hn (by lia) a g];obtain⟨w,L,N,j⟩:=M.G9 ((M.Sb n left).map fun i=>tb a i+M.R tb n (left-2^i) i) (by intro q;exact g (NC.mp q));rw[L,jk];obtain⟨z,O,rfl⟩:=bK.mp hv;have h1:=j z O;have S:=K ((w:Nat)) (bK.mpr ⟨w,N,Z⟩);lia
    rw[e];exact k H' (h.trans b)
inductive Lc H(Q:VK):List V->Prop|mk:∀t bs n T,(TB H t bs (n+1) T)->(n<=7)->(∀r H' cs,H r=ae->cI H H'->TR H' r cs (2^n) (n+1) (M.R T n)->Q (.ref r) H')->Lc H Q [.ref t]
theorem EL(n:Nat):(1:Int)*2^((n:Nat):Int).toNat=((2^n:Nat):Int):=by rw[dw];push_cast;simp
theorem vM:Ok Y 3 117 Lc:=by
 refine Y.okN ["table","rests","left","here"] ?_;rintro _ H _ Q nd E ⟨t,bs,n,tb,m,hn,k⟩;have w:=EK hn;have L:=m.len;refine⟨_,(aI (bB 1 (cT gW)) (aI (fT (ke Z Y.nn (cO (cu zG aY (cu fK (dZ Y.nn (pv 0)) aY)))) (cJ 2) (b6 (cQ (fV aX bu bw df (pv 1) (cO (Eo [("here",3)] (ke Z Y.nn (cO (dZ Y.nn (pv 0)))) (cJ 3) iu (cP (xi Y) E.mono (aR (pv 0) (aR (pv 1) (aR (pv 2) (cO (pv 3)))))))))))) (cy (pv 1)))),?_⟩;refine⟨cg _,fun r g=> ?_⟩;refine⟨t,_,Z, .inl (.of ((aN g) _ _ m.lst)),_,_,Z,Z,_,_,Z,Z,⟨by rw[aE];lia,by rw[aE];lia,by decide⟩,?_⟩;have F:1*2^(((bs.map V.ref).length:Int)-1).toNat=((2^n:Nat):Int):=by rw[show((bs.map V.ref).length)-1=((n:Nat):Int) by rw[aE];lia];exact EL n
 refine⟨((2^n:Nat)),congrArg (fun z=>[V.int z]) F,Int.le_trans (by decide) (pq _),Int.lt_of_le_of_lt (Int.ofNat_le.mpr w) (by decide),?_⟩;rw[dw];refine iE (n:=2^n) (fun i o H'=>E3 fun(cs:List Addr) (p s:Option V)=>A3 (cI H H') (TR H' r cs i (n+1) (M.R tb n)) (o=[aa (.ref t),aa (.ref r),p,s])) ⟨[],ae,ae,aN g,⟨aH,Z,fun a b q=>by simp at q⟩,Z⟩ ?_ ?_
 .rintro i o H' x ⟨cs,p,s,h,hR,rfl⟩;have y:=m.same h;refine⟨.inl ⟨Z,_, .of hR.lst⟩,t,_,Z, .inl (.of y.lst),_,Z,by rw[aE];lia,by rw[aE];lia,fun D u=> ?_⟩;have d:r≠D:=aS hR.lst u;rw[show(((bs.map V.ref).length:Nat):Int).toNat=n+1 by rw[aE];lia];refine zZ (lo:=0) (n:=n+1) (fun j l=>cI H' l/\l D=aa (.lst (nv ((List.range j).map (M.R tb n i))))) ⟨aN u,aH⟩ ?_ ?_
  .rintro j l A ⟨c,v⟩;refine⟨Z,?_⟩;refine⟨t,r,bs,cs,n,i,i,j,tb,?_,y.same c,hR.same c,hn,aQ _,x,A,fun N B=> ?_⟩
   .show[V.ref t,V.ref r,V.int (0+(i:Int)),V.int (0+(j:Int))]=_;rw[show(0+(i:Int))=(i:Int) by lia,show(0+(j:Int))=(j:Int) by lia]
   .refine⟨_,B _ _ v,?_,cD (c.trans B) u,?_⟩
    .rw[cZ,aE,bG];exact bN A (bY (show n+1<=8 by lia) (by decide))
    .rw[aH,de,a_,b5,jG,gu]
  .rintro l ⟨c,v⟩;have e:=hR.same c;refine⟨r,_,_,Z,Z,e.lst,?_,?_⟩
   .rw[aE,hR.len];exact bN x (bY w (by decide))
   .refine⟨cs++[D],_,_,cD (h.trans c) g,⟨?_,?_,?_⟩,Z⟩
    .rw[aH,a_];rfl
    .rw[aG,hR.len];rfl
    .intro a b f;by_cases G:a<cs.length
     .rw[cH G] at f;obtain⟨C,I⟩:=e.row a b f;exact⟨C,⟨by rw[aL C];exact I.at_⟩⟩
     .have J:a=cs.length:=by have:=(aV.mp f).1;simp at this;lia
      subst J;rw[cM (aQ _),i7] at f;have K:D=b:=aW f;subst K;refine⟨d.symm,⟨?_⟩⟩;rw[aL d.symm,v,hR.len]
 .rintro o H' ⟨cs,p,s,h,hR,rfl⟩;exact k r H' cs g h hR
inductive aaV H(Q:VK):List V->Prop|mk:∀t r bs cs (n left a x:Nat) T,(TB H t bs (n+1) T)->(TR H r cs (2^n) (n+1) (M.R T n))->(n<=7)->(left<2^n)->(a<n+1)->((M.Sb n left).find? (fun i=>ah (T a i+M.R T n (left-2^i) i=M.R T n left a))=aa x)->(∀H':Hp,cI H H'->Q (.int (x:Int)) H')->aaV H Q [.ref t, .ref r, .int left, .int a]
theorem Hj{l:List Nat}(h:l.find? p=aa x):∃r,l.filter p=x::r:=by
 rw[<-List.head?_filter] at h
 cases e:l.filter p with
 |nil=>rw[e] at h;cases h
 |cons a r=>rw[e] at h;cases h;exact⟨r,Z⟩
theorem yD:Ok Y 2 118 aaV:=by
 refine Y.ok ?_;rintro _ H _ Q nd o ⟨t,r,bs,cs,n,left,a,x,tb,p,hR,hn,hl,q,B,k⟩;have I:=EK hn;refine⟨_,(aI (bB 4 (cT gW)) (aI (fT (eM (cP (qQ Y) o.mono (aR (pv 0) (cO (pv 2))))) (cJ 5) (b6 (da (cK jt (cP (qP Y) o.mono (aR (pv 0) (aR (pv 1) (aR (pv 2) (aR (pv 3) (cO (pv 5))))))) (bM bP (bM bP (pv 1) (pv 2)) (pv 3))) (b6 (cQ (fV aX bu bw df (pv 4) (cO (pv 5))))) ck))) (cy (bM bP (pv 4) aY)))),?_⟩;refine⟨cg _,fun po m=> ?_⟩;refine⟨t,bs,n,left,tb,p.same (aN m),hn,by lia,fun pn J C s w=> ?_⟩;refine⟨pn,Z,⟨_, .of w⟩,iJ (fun i j H'=>E1 fun v:Option V=>A4 (cI H H') (H' pn=aa (.lst (nv (M.Sb n left)))) (H' po=aa (.lst (nv (((M.Sb n left).take i).filter fun i=>ah (tb a i+M.R tb n (left-2^i) i=M.R tb n left a))))) (j=[aa (.ref t),aa (.ref r),aa (.int (left:Int)),aa (.int (a:Int)),aa (.ref po),v])) ⟨ae,(aN m).trans s,w,s _ _ aH,Z⟩ (by rintro i j H' _ ⟨_,_,e,_,_⟩;exact .of e) ?_ ?_⟩
 .rintro i v j H' D ⟨u,f,h,g,rfl⟩;obtain⟨y,A,rfl⟩:=o7 D;have d:=hR.same f;obtain⟨bl,E,F⟩:=d.get hl;refine⟨t,r,bs,cs,n,2^n,left,a,y,tb,p.same f,d,hn,bC A,by lia,by lia,q,r,_,_,_,Z,Z, .of d.lst,cB E,bl,_,_,_,Z,Z, .of F.at_,cB (Row.get (H:=H') (b:=bl) q),Z,_,Z,?_⟩;have l:((M.Sb n left).take (i+1)).filter (fun i=>ah (tb a i+M.R tb n (left-2^i) i=M.R tb n left a))=((M.Sb n left).take i).filter (fun i=>ah (tb a i+M.R tb n (left-2^i) i=M.R tb n left a))++if tb a y+M.R tb n (left-2^y) y=M.R tb n left a then[y] else[]:=by
   rw[take_snoc A,fi];by_cases c:tb a y+M.R tb n (left-2^y) y=M.R tb n left a
   .rw[ai c,du (by simpa using c)];rfl
   .rw[ak c,dq (by simpa using c)];rfl
  refine e_ (fun c=> ?_) (fun c=> ?_)
  .have G:tb a y+M.R tb n (left-2^y) y=M.R tb n left a:=by have:=V.int.inj (aq c);lia
   rw[ai G] at l;refine⟨.inl ⟨Z,_, .of g⟩,po,_,_,Z,Z,g,?_,?_⟩
   .rw[cZ];refine bo (bY (dz _ _) (by rw[bA];exact eU _ _)) (bo (bY (dz _ _) (by rw[bG];exact hn)) (show 7<br by decide))
   .refine⟨_,cD f m,?_,?_,Z⟩
    .rwa [aL (aS aH C).symm]
    .rw[aH,l,gu]
  .rw[ak (fun z=>c (au (by rw[z]))),bZ] at l;refine⟨_,f,h,?_,Z⟩;rwa [l]
 .rintro j H' ⟨u,f,h,g,rfl⟩;rw[cZ,cR] at g;obtain⟨rr,e⟩:=Hj B;rw[e] at g;exact⟨po,_,_,_,Z,Z, .of g,at_of Z rfl,k H' f⟩
end
end
section
open Vbpcak (Hole)
theorem xZ(f g:List Nat->Nat):∀(l:List (List Nat)),(∀o∈l,f o=g o)->M.least f l=M.least g l|[],_=>rfl|o::r,h=>by rw[M.rV,M.rV,(xZ f g r fun x a=>h x (aO _ a))];cases e:M.least g r with|none=>rfl|some p=>dsimp only;rw[h p (aO _ ((M.xc g r p e).1)),h o (aT ..)]
theorem Az:∀(n:Nat) (l o:List Nat),o∈iY n l->∀x∈o,x∈l
 |0,l,o,h,x,a=>by
  have e:o=[]:=by simpa [iY] using h
  rw[e] at a;simp at a
 |n+1,l,o,h,x,a=>by
  obtain⟨i,b,h⟩:=ju.mp h;obtain⟨p,c,rfl⟩:=bK.mp h;rcases aZ.mp a with rfl|a
  .exact b
  .exact(b_.mp (Az n _ p c x a)).1
theorem qR:∀(n:Nat) (l:List Nat),l.Nodup->l.length=n->l∈iY n l
 |0,l,_,h=>by have e:=bX.mp h;subst e;simp[iY]
 |n+1,[],_,h=>by simp at h
 |n+1,a::r,hn,h=>by
  obtain⟨h1,b⟩:=c8.mp hn;have e:(a::r).filter (fun j=>ah (j≠a))=r:=by rw[dq (by simp)];exact n9.mpr fun x c=>au (show x≠a from fun q=>h1 (q▸c))
  refine ju.mpr ⟨a,aT ..,bK.mpr ⟨r,?_,Z⟩⟩;rw[e];exact qR n r b (by simpa using h)
def grd(c:Nat)(hs:List Hole):List Nat:=M.lJ (kX c hs) hs.length hs.length hs.length (List.range hs.length)
theorem T_(b:jQ hs):pA c hs=grd c hs/\ia c hs (grd c hs)=M.R (kX c hs) hs.length (2^hs.length-1) hs.length:=by
 obtain⟨d,g⟩:=M.vE (kX c hs) hs.length hs.length hs.length (List.range hs.length) dS (bG);have a:∀o∈iY hs.length (List.range hs.length),ia c hs o=M.So (kX c hs) hs.length hs.length o:=fun o ho=>Ay (fun n hn=>bU.mp (Az _ _ o ho n hn)) b;have hl:M.least (ia c hs) (iY hs.length (List.range hs.length))=aa (grd c hs):=(xZ _ _ _ a).trans d;obtain⟨e,f⟩:=M.xc _ _ _ hl;have h:=f _ (qR hs.length (List.range hs.length) dS bG);refine⟨?_,?_⟩
 .unfold pA;dsimp only;rw[M.nN,hl];dsimp only;rw[ai (by lia)]
 .rw[a _ e];unfold M.R;rwa [M.Ex,bG]
section
inductive Ld K H(Q:VK):List V->Prop|mk:∀lh as hs (c:Nat),(HL K H lh as hs)->(hs.length<=7)->(jQ hs)->(Au H (ia c hs (pA c hs)::pA c hs) Q)->Ld K H Q [.ref lh, .int c]
theorem vN:Ok Y 5 119 (Ld K):=by
 refine Y.ok ?_;rintro _ H _ Q nd s ⟨lh,as,hs,c,hl,d,O,k⟩;obtain⟨P,R⟩:=T_ O;rw[P,R] at k;have hp:=EK d;have MQ:=Cv hs.length;refine⟨_,(aI (bB 2 (cP (ua Y) s.mono (aR (pv 0) (cO (pv 1))))) (aI (bB 3 (cP (vM Y) s.mono (cO (pv 2)))) (aI (bB 4 (dZ Y.nn (pv 0))) (aI (bB 5 (cu fK (cu zG aY (dZ Y.nn (pv 0))) aY)) (aI (bB 6 (cT (cO (bM bP (bM bP (pv 3) (pv 5)) (pv 4))))) (aI (lD gf (je (pv 5) (fun _=>rfl)) (aI (bB 4 (cP (yD Y) s.mono (aR (pv 2) (aR (pv 3) (aR (pv 5) (cO (pv 4))))))) (aI (ur 5 (cu zG aY (pv 4)) WY) (b6 (cQ (fV aX bu bw df (pv 6) (cO (pv 4)))))))) (cy (pv 6)))))))),?_⟩;refine⟨lh,as,hs,c,hl,by lia,fun t H1 bs ht S l=> ?_⟩;refine⟨t,bs,hs.length,_,l,d,fun r y cs MN A f=> ?_⟩;have u:=S.trans A;have B:=hl.same u;refine⟨lh,_,Z, .inl (.of B.lst),?_⟩;have C:(as.map V.ref).length=hs.length:=by rw[aE,hl.len]
 rw[C];refine⟨lh,_,Z, .inl (.of B.lst),?_⟩;rw[C];refine⟨_,_,Z,Z,⟨by lia,by lia,by decide⟩,_,_,Z,Z,?_⟩;have D:(1:Int)*2^((hs.length:Nat):Int).toNat-1=((2^hs.length-1:Nat):Int):=by rw[EL];lia
 obtain⟨bl,T,U⟩:=f.get (show 2^hs.length-1<2^hs.length by lia);refine⟨r,_,_,_,Z,Z, .of f.lst,at_of (j:=2^hs.length-1) D T,bl,_,_,_,Z,Z, .of U.at_,cB (Row.get (H:=y) (b:=bl) (show hs.length<hs.length+1 by lia)),zl,fun o g=> ?_⟩;dsimp only[pF,uq];refine lE (fun m H'=>E3 fun(L a:Nat) (W:List Nat)=>A7 (cI y H') (H' o=aa (.lst (nv (M.R (kX c hs) hs.length (2^hs.length-1) hs.length::W)))) (L<2^hs.length) (a<hs.length+1) (W.length+(M.Sb hs.length L).length=hs.length) (W++M.lJ (kX c hs) hs.length (M.Sb hs.length L).length a (M.Sb hs.length L)=grd c hs) (m=[aa (.ref lh),aa (.int (c:Int)),aa (.ref t),aa (.ref r),aa (.int (a:Int)),aa (.int (L:Int)),aa (.ref o)])) (fun m _=>match m with|[_,_,_,_,_,some (.int z),_]=>z.toNat|_=>0) ?_ ?_ ?_
 .refine⟨2^hs.length-1,hs.length,[],aN g,aH,by lia,by lia,?_,?_,?_⟩
  .rw[M.Ex,bG];simp
  .rw[M.Ex,bG];rfl
  .rw[<-D];rfl
 .rintro m H' ⟨L,a,W,p,n,E,X,hWl,h,rfl⟩;refine⟨_,Z,?_⟩;by_cases z:L=0
  .subst z;rw[M.K5] at h;have e:W=grd c hs:=by rw[<-h];exact(bZ W).symm
   rw[e] at n;exact k o H' (u.free g) (u.trans p) n
  .have e:(((L:Nat):Int) !=0)=true:=by simpa using z
   rw[e];obtain⟨i,F,w⟩:=M.G_ (kX c hs) d (show L<128 by lia) a (M.Vy E z);have G:=kQ F;obtain⟨Vw,x⟩:=M.nO.mp G;have hle:=M.Ju L i x;have hls:=M.qv d (show L<128 by lia) G;refine⟨t,r,bs,cs,hs.length,L,a,i,_,(l.same A).same p,f.same p,d,E,X,F,fun H4 I=> ?_⟩;refine⟨_,Z,_,_,Z,Z,⟨by lia,by lia,by decide⟩,_,_,Z,Z,?_⟩;have J:=I _ _ n;have N:(L:Int)-1*2^((i:Nat):Int).toNat=((L-2^i:Nat):Int):=by rw[EL];lia
   refine⟨.inl ⟨Z,_, .of J⟩,o,_,_,Z,Z,J,?_,?_⟩
   .rw[cZ];exact bo (show(M.R (kX c hs) hs.length (2^hs.length-1) hs.length::W).length<=8 by simp only[aK];lia) (by decide)
   .have adm:=Cv i;refine⟨⟨L-2^i,i,W++[i],cD (p.trans I) g,?_,by lia,by lia,?_,?_,?_⟩,?_⟩
    .rw[aH];exact congrArg (fun z=>aa (HO.lst z)) (gu _ _).symm
    .rw[aG];simp only[aK,bQ];lia
    .rw[bJ,Ko,<-w];exact h
    .rw[<-N];rfl
    .show((L:Int)-1*2^((i:Nat):Int).toNat).toNat<((L:Nat):Int).toNat;rw[N,dw,dw];lia
 .rintro m H' Q1 Q2 n z;obtain⟨v,e,k',tr,q⟩:=FW z;exact CG e ⟨k',tr,n _ _ q⟩
end
end
section
open Vbpcak (Hole State)
theorem sR(f:Str)(v x:V):∀fs:List (Str×V),fs.lookup f=aa x->(fx f v fs).length=fs.length
 |[],h=>by cases h
 |(g,y)::r,h=>by
  dsimp only[fx];by_cases e:g=f
  .rw[ai e];rfl
  .rw[ak e];have h':r.lookup f=aa x:=by
    dsimp only[eT] at h;have a:(f==g)=false:=by cases q:f==g with|false=>rfl|true=>exact az (beq_iff_eq.mp q).symm e
    rw[a] at h;exact h
   show(fx f v r).length+1=r.length+1;rw[sR f v x r h']
structure BF(fs:List (Str×V))(s:State)(lh lo):Prop where
 wd:fs.lookup ("width":Str)=aa (.int s.w)
 hg:fs.lookup ("height":Str)=aa (.int s.h)
 cc:fs.lookup ("change_cost":Str)=aa (.int s.c)
 hl:fs.lookup ("holes":Str)=aa (.ref lh)
 od:fs.lookup ("order":Str)=aa (.ref lo)
 co:fs.lookup ("columns":Str)=aa (.int s.panel.cols)
 ro:fs.lookup ("rows":Str)=aa (.int s.panel.rows)
 px:fs.lookup ("px":Str)=aa (.int s.panel.px)
 py:fs.lookup ("py":Str)=aa (.int s.panel.py)
 al:fs.lookup ("alt":Str)=aa (.int (if s.panel.alt=af then 1 else 0))
 nr:fs.lookup ("renew":Str)=ae
 np:fs.lookup ("set_panel":Str)=ae
 ln:fs.length<=50
theorem BF.order{lh lo:Addr}(B:BF fs s lh lo)(a:Addr)(o:List Nat):BF (fx "order" (.ref a) fs) {s with order:=o} lh a:=by
 have g:∀f:Str,f≠"order"->(fx "order" (.ref a) fs).lookup f=fs.lookup f:=fun f h=>by rw[fA,ak h]
 refine⟨(g _ (by decide)).trans B.wd,(g _ (by decide)).trans B.hg,(g _ (by decide)).trans B.cc,(g _ (by decide)).trans B.hl,?_,(g _ (by decide)).trans B.co,(g _ (by decide)).trans B.ro,(g _ (by decide)).trans B.px,(g _ (by decide)).trans B.py,(g _ (by decide)).trans B.al,(g _ (by decide)).trans B.nr,(g _ (by decide)).trans B.np,?_⟩
 .rw[fA,ai Z]
 .exact(sR _ _ _ fs B.od)▸B.ln
structure Wf(s:State):Prop where
 w1:1<=s.w/\s.w<=999999999
 h1:1<=s.h/\s.h<=999999999
 c1:s.c<=1000000000
 qk:s.holes.length<=48
 tools:jQ s.holes
 ord:Ord s.order s.holes
 nd:s.order.Nodup
 rY:s.order.length=s.holes.length
 pc:1<=s.panel.cols/\s.panel.cols<=16
 pr:1<=s.panel.rows/\s.panel.rows<=16
 px:s.w<s.panel.px/\s.panel.px<=1000000000
 py:s.h<s.panel.py/\s.panel.py<=1000000000
 cx:s.panel.cols*s.panel.px<=1000000000
 ry:s.panel.rows*s.panel.py<=1000000000
 on:∀h∈s.holes,(0<=h.x/\h.x<=s.w)/\(0<=h.y/\h.y<=s.h)/\h.d<=10000000
 full:s.holes.length*s.panel.cols*s.panel.rows<=512
structure BD K(H:Hp)(C b) s dx fs(lh lo) as:Prop where
 at_:H b=aa (.ins C dx fs)
 bf:BF fs s lh lo
 hl:HL K H lh as s.holes
 ol:H lo=aa (.lst (nv s.order))
 ne:lh≠lo
 wf:Wf s
theorem BD.same{K:aM}{lh lo:Addr}(B:BD K H C b s dx fs lh lo as)(e:cI H H'):BD K H' C b s dx fs lh lo as:=
 ⟨e _ _ B.at_,B.bf,B.hl.same e,e _ _ B.ol,B.ne,B.wf⟩
theorem BD.VP{K:aM}{lh lo:Addr}(B:BD K H C b s dx fs lh lo as):b≠lh:=dE B.at_ B.hl.lst (by intro z;cases z)
theorem BD.nbo{K:aM}{lh lo:Addr}(B:BD K H C b s dx fs lh lo as):b≠lo:=dE B.at_ B.ol (by intro z;cases z)
section
inductive Qs K C H(Q:VK):List V->Prop|mk:∀b dx lh lo s fs as,(BD K H C b s dx fs lh lo as)->(Q (.int (s.cost s.order)) H)->Qs K C H Q [.ref b]
theorem jf:Ok Y 4 34 (Qs K CB):=by refine Y.ok ?_;rintro _ H _ Q nd c ⟨b,a,lh,lo,s,fs,as,B,k⟩;exact⟨_,(cy (cP (yC Y) c.mono (aR (bS Y.na (pv 0)) (aR (bS Y.na (pv 0)) (cO (bS Y.na (pv 0))))))),b,CB,a,fs,_,Z,B.at_,Z,B.bf.hl,b,CB,a,fs,_,Z,B.at_,Z,B.bf.od,b,CB,a,fs,_,Z,B.at_,Z,B.bf.cc,lh,lo,as,s.holes,s.order,s.c,B.hl,B.ol,B.wf.ord,B.wf.tools,k⟩
def FJ(s:State)(x y d:Int):Bool:=Vbpcak.within 0 x s.w&&(Vbpcak.within 0 y s.h&&Vbpcak.within 1 d iM)
inductive VQ K C H(Q:VK):List V->Prop|mk:∀b dx lh lo s fs as (x y d),(BD K H C b s dx fs lh lo as)->(Q (.bl (FJ s x y d)) H)->VQ K C H Q [.ref b, .int x, .int y, .int d]
theorem rZ:Ok Y 1 17 (VQ K CB):=by
 refine Y.ok ?_;rintro _ H _ Q nd l ⟨b,j,lh,lo,s,fs,as,x,y,d,B,k⟩;have a:∀v,v=FJ s x y d->Q (.bl v) H:=fun v e=>by subst e;exact k
 refine⟨_,(aI (da (gV (PW.pt (nF (gw gv gv aY (pv 1) (bS Y.na (pv 0))) (lC (gw gv gv aY (pv 2) (bS Y.na (pv 0))))))) (cy mV) ck) (cy (zJ gv gv aY (pv 3) (d_ Y.ci)))),?_⟩;refine⟨_,_,Z,Z,_,Z,?_⟩;refine e_ (fun c1=> ?_) (fun c1=> ?_)
 .refine⟨b,CB,j,fs,_,Z,B.at_,Z,B.bf.wd,_,_,Z,Z,_,Z,?_⟩;refine e_ (fun f=> ?_) (fun f=> ?_)
  .refine⟨_,_,Z,Z,_,Z,?_⟩;refine e_ (fun g=> ?_) (fun g=> ?_)
   .refine⟨b,CB,j,fs,_,Z,B.at_,Z,B.bf.hg,_,_,Z,Z,_,Z,?_⟩;by_cases c:y<=s.h
    .rw[au c];refine⟨_,_,Z,Z,_,Z,?_⟩;refine e_ (fun i=> ?_) (fun i=> ?_)
     .refine⟨_,_,Z,Z,a _ ?_⟩;unfold FJ Vbpcak.within iM;rw[c1,f,g,i,au c];rfl
     .refine a _ ?_;unfold FJ Vbpcak.within;rw[aw ((fun h z=>h (au z)) i),eR,eS,eS]
    .rw[aw c];refine a _ ?_;unfold FJ Vbpcak.within;rw[aw c,eS,eR,eS]
   .refine⟨_,Z,a _ ?_⟩;unfold FJ Vbpcak.within;rw[aw (fun z=>g (au z)),eR,eR,eS]
  .refine a _ ?_;unfold FJ Vbpcak.within;rw[aw (fun z=>f (au z)),eS,eR]
 .refine⟨_,Z,a _ ?_⟩;unfold FJ Vbpcak.within;rw[aw (fun z=>c1 (au z)),eR,eR]
inductive Qt H(Q:VK)(vs:List V):Prop|mk:∀(n c r:Nat),(vs=[.int n, .int c, .int r])->(n<=100000)->(c<=16)->(r<=16)->(Q (.bl (!ah (n*c*r<=gg))) H)->Qt H Q vs
theorem jY:Ok Y 1 19 Qt:=by
 refine Y.ok ?_;rintro _ H _ Q nd d ⟨n,c,r,rfl,hn,a,f,k⟩;refine⟨_,(cy (kT mB (cu oX (cu oX (pv 0) (pv 1)) (pv 2)) (d_ Y.ci))),?_⟩;have g:n*c<=1600000:=by
  have:n*c<=100000*16:=u_ hn a;have e:((n*c:Nat))=n*c:=by push_cast;rfl
  assumption
 refine⟨_,_,Z,Z, .inl ⟨by lia,by lia⟩,_,_,Z,Z, .inl ⟨by lia,by lia⟩,_,_,Z,Z,?_⟩;have e:ah (512<n*c*(r:Int))= !ah (n*c*r<=gg):=by
  have b:((n*c*r:Nat))=n*c*r:=by push_cast;rfl
  unfold gg;rw[<-decide_not];exact decide_eq_decide.mpr (by rw[<-b];lia)
 rwa [e]
end
end
section
open Vbpcak (Hole State)
theorem jw(h:c=ag):gG s ((c,r)::l) f=(s,[r]):=by subst h;rfl
theorem eD(h:c=af):gG s ((c,r)::l) f=gG s l f:=by subst h;rfl
theorem Ua:gG s [] f=f ():=rfl
def fk(H H':Hp)(xs:List Addr):Prop:=∀q o,H q=aa o->q∉xs->H' q=aa o
theorem fk.of(e:cI H H'):fk H H' xs:=fun q o h _=>e q o h
theorem AA[Decidable p](h:¬ah p=af):¬p:=fun z=>h (au z)
section
inductive VR K C H(Q:VK):List V->Prop|mk:∀b dx lh lo s fs as (x y d),(BD K H C b s dx fs lh lo as)->(∀H' r as',(Vbpcak.step s (.hole x y d)).2=[r]->BD K H' C b (Vbpcak.step s (.hole x y d)).1 dx fs lh lo as'->fk H H' [lh,lo]->Q (.int r) H')->VR K C H Q [.ref b, .int x, .int y, .int d]
theorem Hk:Ok Y 2 20 (VR K CB):=by
 refine Y.ok ?_;rintro _ H _ Q nd u ⟨b,f,lh,lo,s,fs,as,x,y,d,B,k⟩;have C:=B.wf.qk;have D:(as.map V.ref).length=s.holes.length:=by rw[aE,B.hl.len]
 have I:Vbpcak.step s (.hole x y d)=gG s [(FJ s x y d,-1),(s.holes.all fun z=>ah (z.pt≠(x,y)),-2),(ah (s.holes.length<jC),-3),(ah ((s.holes.length+1)*s.panel.cols*s.panel.rows<=gg),-4)] fun _=> ({s with holes:=s.holes++[⟨x,y,d.toNat⟩],order:=s.order++[s.holes.length]},[(s.holes.length:Nat)]):=rfl
 rw[I] at k
 have c:∀r:Int,gG s [(FJ s x y d,-1),(s.holes.all fun z=>ah (z.pt≠(x,y)),-2),(ah (s.holes.length<jC),-3),(ah ((s.holes.length+1)*s.panel.cols*s.panel.rows<=gg),-4)] (fun _=>
  ({s with holes:=s.holes++[⟨x,y,d.toNat⟩],order:=s.order++[s.holes.length]},[((s.holes.length:Nat):Int)]))=(s,[r])->Q (.int r) H:=fun r e=>by
  rw[e] at k;exact k H r as Z B (fk.of (cI.refl H))
 refine⟨_,(aI (bB 4 (dZ Y.nn (bS Y.na (pv 0)))) (aI (da (gV (jv (cP (rZ Y) u.mono (aR (pv 0) (aR (pv 1) (aR (pv 2) (cO (pv 3)))))) (fun _=>rfl))) (cy (d_ Y.ci)) ck) (aI (da (jv (cP (vL Y) u.mono (aR (bS Y.na (pv 0)) (aR (pv 1) (cO (pv 2))))) (fun _=>rfl)) (cy (d_ Y.ci)) ck) (aI (da (cK Z1 (pv 4) (d_ Y.ci)) (cy (d_ Y.ci)) ck) (aI (da (jv (cP (jY Y) u.mono (aR (cu dJ (pv 4) aY) (aR (bS Y.na (pv 0)) (cO (bS Y.na (pv 0)))))) (fun _=>rfl)) (cy (d_ Y.ci)) ck) (aI (cQ (fV aX bu bw df (bS Y.na (pv 0)) (cO (nG (aR (pv 1) (aR (pv 2) (cO (pv 3)))))))) (aI (cQ (fV aX bu bw df (bS Y.na (pv 0)) (cO (pv 4)))) (cy (pv 4))))))))),?_⟩;refine⟨b,CB,f,fs,_,Z,B.at_,Z,B.bf.hl,lh,_,Z, .inl (.of B.hl.lst),?_⟩;rw[D];refine⟨b,f,lh,lo,s,fs,as,x,y,d,B,_,Z,?_⟩
 cases c1:FJ s x y d with
 |false=>exact c (-1) (jw c1)
 |true=>
  refine⟨b,CB,f,fs,_,Z,B.at_,Z,B.bf.hl,lh,as,s.holes,x,y,B.hl,_,Z,?_⟩
  cases t:(s.holes.all fun z=>ah (z.pt≠(x,y))) with
  |false=>exact c (-2) ((eD c1).trans (jw t))
  |true=>
   refine⟨_,_,Z,Z,_,Z,?_⟩;refine e_ (fun v=> ?_) (fun v=> ?_)
   .have w:=aq v;exact c (-3) ((eD c1).trans ((eD t).trans (jw (aw (by unfold jC;lia)))))
   .have w:=AA v;have j:ah (s.holes.length<jC)=true:=au (by unfold jC;lia);refine⟨_,_,Z,Z,b,CB,f,fs,_,Z,B.at_,Z,B.bf.co,b,CB,f,fs,_,Z,B.at_,Z,B.bf.ro,s.holes.length+1,s.panel.cols,s.panel.rows,Z,by lia,B.wf.pc.2,B.wf.pr.2,_,Z,?_⟩
    cases A:ah ((s.holes.length+1)*s.panel.cols*s.panel.rows<=gg) with
    |false=>exact c (-4) ((eD c1).trans ((eD t).trans ((eD j).trans (jw A))))
    |true=>
     have J:gG s [(FJ s x y d,-1),(s.holes.all fun z=>ah (z.pt≠(x,y)),-2),(ah (s.holes.length<jC),-3),(ah ((s.holes.length+1)*s.panel.cols*s.panel.rows<=gg),-4)] (fun _=>
      ({s with holes:=s.holes++[⟨x,y,d.toNat⟩],order:=s.order++[s.holes.length]},[((s.holes.length:Nat):Int)]))=({s with holes:=s.holes++[⟨x,y,d.toNat⟩],order:=s.order++[s.holes.length]},[((s.holes.length:Nat):Int)]):=
      (eD c1).trans ((eD t).trans ((eD j).trans ((eD A).trans Ua)))
     rw[J] at k;have hd:1<=d:=by unfold FJ Vbpcak.within at c1;simp at c1;lia
     refine⟨b,CB,f,fs,_,Z,B.at_,Z,B.bf.hl, .inl ⟨Z,_, .of B.hl.lst⟩,zl,fun p i=> ?_⟩;have l:cI H (upd H p (.tup [.int x, .int y, .int d])):=aN i;refine⟨lh,_,_,Z,Z,l _ _ B.hl.lst,by rw[D];exact bo C (by decide),?_⟩;have m:=aS B.ol i;have E:upd (upd H p (.tup [.int x, .int y, .int d])) lh (.lst (as.map V.ref++[.ref p])) b=aa (.ins CB f fs):=by rw[aL B.VP,aL (aS B.at_ i)];exact B.at_
     have F:upd (upd H p (.tup [.int x, .int y, .int d])) lh (.lst (as.map V.ref++[.ref p])) lo=aa (.lst (nv s.order)):=by rw[aL (bF B.ne),aL m];exact B.ol
     refine⟨b,CB,f,fs,_,Z,E,Z,B.bf.od, .inl ⟨Z,_, .of F⟩,lo,_,_,Z,Z,F,?_,?_⟩
     .rw[cZ,B.wf.rY];exact bo C (by decide)
     refine k _ _ (as++[p]) Z ⟨?_,⟨B.bf.wd,B.bf.hg,B.bf.cc,B.bf.hl,B.bf.od,B.bf.co,B.bf.ro,B.bf.px,B.bf.py,B.bf.al,B.bf.nr,B.bf.np,B.bf.ln⟩,⟨?_,?_⟩,?_,B.ne,?_⟩ ?_
     .rw[aL B.nbo];exact E
     .rw[aL B.ne,aH,a_];rfl
     .refine yU ?_ ?_
      .have L:∀a h,HT K H a h->HT K (upd (upd (upd H p (.tup [.int x, .int y, .int d])) lh (.lst (as.map V.ref++[.ref p]))) lo (.lst (nv s.order++[.int (s.holes.length:Nat)]))) a h:=fun a h q=>by
        rcases q with(q|⟨o,q⟩)|q
        .refine .inl (.inl ?_);rw[aL (dE q B.ol (by intro z;cases z)),aL (dE q B.hl.lst (by intro z;cases z)),aL (aS q i)];exact q
        .refine .inl (.inr ⟨o,?_⟩);rw[aL (dE q B.ol (by intro z;cases z)),aL (dE q B.hl.lst (by intro z;cases z)),aL (aS q i)];exact q
        .exact .inr q
       exact B.hl.at_.mono fun a h q=>L a h q
      .refine .of ?_;rw[aL (bF m),aL (bF (aS B.hl.lst i)),aH];show aa (HO.tup [V.int x,V.int y,V.int d])=aa (HO.tup [V.int x,V.int y,V.int ((d.toNat:Nat))]);rw[N6 (by lia)]
     .rw[aH,gu]
     .refine⟨B.wf.w1,B.wf.h1,B.wf.c1,?_,?_,?_,?_,?_,B.wf.pc,B.wf.pr,B.wf.px,B.wf.py,B.wf.cx,B.wf.ry,?_,?_⟩
      .rw[aG];show s.holes.length+1<=48;lia
      .intro g hg;rcases cN.mp hg with hg|hg
       .exact B.wf.tools g hg
       .rw[a0.mp hg];show 1<=d.toNat;lia
      .intro n hn;show n<(s.holes++[_]).length;rw[aG];rcases cN.mp hn with hn|hn
       .exact et (B.wf.ord n hn)
       .rw[a0.mp hn];exact fY _
      .exact y_ B.wf.nd fun z=>c9 _ (B.wf.ord _ z)
      .rw[aG,aG,B.wf.rY];rfl
      .intro g hg;rcases cN.mp hg with hg|hg
       .exact B.wf.on g hg
       .rw[a0.mp hg];unfold FJ Vbpcak.within iM at c1;simp only[bq,aA] at c1;refine⟨c1.1,c1.2.1,?_⟩;show d.toNat<=10000000;lia
      .show(s.holes++[_]).length*s.panel.cols*s.panel.rows<=512;rw[aG];have:=aq A;exact this
     .intro q o M G;rw[aL (fun z=>G (by simp[z])),aL (fun z=>G (by simp[z]))];exact l q o M
inductive Qu K C H(Q:VK):List V->Prop|mk:∀b dx lh lo s fs as i,(BD K H C b s dx fs lh lo as)->(-(2^63)<=i)->(i<2^63)->(∀H' r fs' lu as',(Vbpcak.step s (.drop i)).2=[r]->BD K H' C b (Vbpcak.step s (.drop i)).1 dx fs' lh lu as'->(lu=lo\/H lu=ae)->fk H H' [b,lh]->Q (.int r) H')->Qu K C H Q [.ref b, .int i]
theorem pig:∀(n:Nat) (l:List Nat),l.Nodup->(∀x∈l,x<n)->l.length<=n
 |0,l,_,h=>by cases l with|nil=>exact aQ _|cons a r=>exact az (h a (aT ..)) (nZ _)
 |n+1,l,hn,h=>by
  by_cases q:n∈l
  .have hl:=M.ij l n hn q;have:=pig n (l.filter fun j=>ah (j≠n)) (hn.filter _) fun x b=>by obtain⟨h1,c⟩:=b_.mp b;have:=h x h1;have:x≠n:=aq c;lia
   lia
  .have:=pig n l hn fun x b=>by have:=h x b;have:x≠n:=fun z=>q (z▸b);lia
   lia
theorem full(hn:l.Nodup)(h:Ord l hs)(hl:l.length=hs.length)(b:j<hs.length):j∈l:=by
 apply fu;intro q;have:=pig hs.length (j::l) (c8.mpr ⟨q,hn⟩) fun x a=>by
  rcases aZ.mp a with rfl|a
  .exact b
  .exact h x a
 rw[aK,hl] at this;lia
theorem vO{a b:Type}{F:a->b->Prop}:∀{l:List a} {m:List b} (i:Nat),Paired F l m->Paired F (l.eraseIdx i) (m.eraseIdx i)|_,_,_, .nil=> .nil|_,_,0, .cons _ r=>r|_,_,i+1, .cons f r=> .cons f (vO i r)
theorem EM:Ok Y 2 25 (Qu K CB):=by
 refine Y.ok ?_;rintro _ H _ Q nd P ⟨b,f,lh,lo,s,fs,as,i,B,R,C,k⟩;have lH:=B.wf.qk;have w:(as.map V.ref).length=s.holes.length:=by rw[aE,B.hl.len]
 have r:¬(0<=i/\i<(s.holes.length:Int))->Q (.int (-1)) H:=fun c=>by
  have e:Vbpcak.step s (.drop i)=(s,[-1]):=by unfold Vbpcak.step;exact jw (by unfold Vbpcak.within;simp;lia)
  rw[e] at k;exact k H _ fs lo as Z B (.inl rfl) (fk.of (cI.refl H))
 refine⟨_,(aI (da (gV (gw gv lG aY (pv 1) (dZ Y.nn (bS Y.na (pv 0))))) (cy (d_ Y.ci)) ck) (aI (cQ (fV aX jL jM OO (bS Y.na (pv 0)) (cO (pv 1)))) (aI (eK Y.na (pv 0) (cP (xe Y) P.mono (aR (bS Y.na (pv 0)) (cO (pv 1))))) (cy (dZ Y.nn (bS Y.na (pv 0))))))),?_⟩;refine⟨_,_,Z,Z,_,Z,?_⟩;refine e_ (fun c1=> ?_) (fun c1=>⟨_,Z,r fun z=>AA c1 z.1⟩);have Dr:=aq c1;refine⟨b,CB,f,fs,_,Z,B.at_,Z,B.bf.hl,lh,_,Z, .inl (.of B.hl.lst),?_⟩;rw[w];refine⟨_,_,Z,Z,_,Z,?_⟩;by_cases D:i<s.holes.length
 .rw[au D];obtain⟨j,rfl⟩:∃j:Nat,i=j:=⟨i.toNat,by lia⟩;have l:j<s.holes.length:=by lia
  have e:Vbpcak.step s (.drop j)=({s with holes:=s.holes.eraseIdx j,order:=(s.order.filter fun k=>ah (k≠j)).map fun k=>if j<k then k-1 else k},[((s.holes.length:Nat):Int)-1]):=by unfold Vbpcak.step;refine(eD (by unfold Vbpcak.within;simp;lia)).trans ?_;rfl
  rw[e] at k;obtain⟨aj,E,_⟩:=B.hl.get l;refine⟨b,CB,f,fs,_,Z,B.at_,Z,B.bf.hl, .inl ⟨Z,_, .of B.hl.lst⟩,lh,_,_,j,_,Z,Z,B.hl.lst,R,C,?_,E,?_⟩
  .unfold Fw;rw[w];simp;lia
  have F:upd H lh (.lst ((as.map V.ref).eraseIdx j)) b=aa (.ins CB f fs):=by rw[aL B.VP];exact B.at_
  refine⟨b,CB,f,fs,_,Z,F,Z,B.bf.od,lo,s.order,j,by rw[aL (bF B.ne)];exact B.ol,by rw[B.wf.rY];lia,fun p J G t S=> ?_⟩;refine⟨b,CB,f,fs,Z,t _ _ F,Z,by have:=B.bf.ln;lia,?_⟩;have L:upd H lh (.lst ((as.map V.ref).eraseIdx j)) lh=aa (.lst ((as.map V.ref).eraseIdx j)):=aH;have u:=(aS L G).symm;have T:H p=none:=by have:=G;rw[aL u] at this;exact this
  have v:upd J b (.ins CB f (fx "order" (.ref p) fs)) b=aa (.ins CB f (fx "order" (.ref p) fs)):=aH;have N:upd J b (.ins CB f (fx "order" (.ref p) fs)) lh=aa (.lst ((as.map V.ref).eraseIdx j)):=by rw[aL (bF B.VP)];exact t _ _ L
  have d:=B.bf.order p ((s.order.filter fun k=>ah (k≠j)).map fun k=>if j<k then k-1 else k);refine⟨b,CB,f,_,_,Z,v,Z,d.hl,lh,_,Z, .inl (.of N),?_⟩;have I:(((as.map V.ref).eraseIdx j).length)=((s.holes.length:Nat):Int)-1:=by rw[cY (by rw[w];exact l),w];lia
  show Q (.int (((as.map V.ref).eraseIdx j).length)) _;rw[I];refine k _ _ _ p (as.eraseIdx j) Z ⟨v,⟨d.wd,d.hg,d.cc,d.hl,d.od,d.co,d.ro,d.px,d.py,d.al,d.nr,d.np,d.ln⟩,⟨?_,?_⟩,?_,u.symm,?_⟩ (.inr T) ?_
  .rw[N];exact congrArg (fun z=>aa (HO.lst z)) (qo V.ref as j).symm
  .refine vO j (B.hl.at_.mono fun a h q=> ?_);rcases q with(q|⟨o,q⟩)|q
   .refine .inl (.inl ?_);rw[aL (dE q B.at_ (by intro z;cases z))];exact t _ _ (by rw[aL (dE q B.hl.lst (by intro z;cases z))];exact q)
   .refine .inl (.inr ⟨o,?_⟩);rw[aL (dE q B.at_ (by intro z;cases z))];exact t _ _ (by rw[aL (dE q B.hl.lst (by intro z;cases z))];exact q)
   .exact .inr q
  .rw[aL ((aS F G).symm)];exact S
  .have Jx:=M.ij s.order j B.wf.nd (full B.wf.nd B.wf.ord B.wf.rY l);refine⟨B.wf.w1,B.wf.h1,B.wf.c1,?_,?_,?_,?_,?_,B.wf.pc,B.wf.pr,B.wf.px,B.wf.py,B.wf.cx,B.wf.ry,fun g hg=>B.wf.on g (qe hg),bY (ND _ (ND _ (by show(s.holes.eraseIdx j).length<=_;rw[cY l];lia))) B.wf.full⟩
   .show(s.holes.eraseIdx j).length<=48;rw[cY l];lia
   .exact fun g hg=>B.wf.tools g (qe hg)
   .intro n hn;show n<(s.holes.eraseIdx j).length;rw[cY l];obtain⟨m,U,rfl⟩:=bK.mp hn;obtain⟨h1,O⟩:=b_.mp U;have h3:=B.wf.ord m h1;have h4:=aq O;split<;>lia
   .refine gj.mpr ((lb.mp (B.wf.nd.filter _)).imp fun{x y} h=> ?_);obtain⟨A,W,X⟩:=h;have h1:=aq (b_.mp A).2;have O:=aq (b_.mp W).2;split<;>split<;>lia
   .show(List.map _ _).length=(s.holes.eraseIdx j).length;have:=B.wf.rY;rw[aE,cY l];lia
  .intro q o hq A;rw[aL (fun z=>A (by simp[z]))];exact t q o (by rw[aL (fun z=>A (by simp[z]))];exact hq)
 .rw[aw D];exact r fun z=>D z.2
end
end
section
open Vbpcak (Hole State)
theorem r8(f g:List Nat->Nat):∀(l:List (List Nat)) (t:Nat),(∀o∈l,f o=g o)->bW f t l=bW g t l|[],t,_=>rfl|o::r,t,h=>by have a:=fun t=>r8 f g r t fun x b=>h x (aO _ b);show(if f o<t then(match bW f (f o) r with|some p=>aa p|none=>aa o) else bW f t r)=(if g o<t then(match bW g (g o) r with|some p=>aa p|none=>aa o) else bW g t r);rw[(h o (aT ..)),a,a]
theorem qx(f:List Nat->Nat):∀(l:List (List Nat)) (t:Nat) (p:List Nat),bW f t l=aa p->p∈l/\f p<t
 |[],t,p,h=>by cases h
 |o::r,t,p,h=>by
  have h:(if f o<t then(match bW f (f o) r with|some p=>aa p|none=>aa o) else bW f t r)=aa p:=h;split at h
  .rename_i b
   cases e:bW f (f o) r with
   |none=>rw[e] at h;cases h;exact⟨aT ..,b⟩
   |some q=>
    rw[e] at h;cases h
    obtain⟨h1,a⟩:=qx f r _ _ e;exact⟨aO _ h1,by lia⟩
  .obtain⟨h1,a⟩:=qx f r _ _ h;exact⟨aO _ h1,a⟩
theorem MT(o:List Nat)(i j:Nat)(b:i<j):(Vbpcak.reversed o i j).Perm o:=by
 have e:o=o.take i++(o.drop i).take (j+1-i)++o.drop (j+1):=by have a:=d5 (j+1-i) (o.drop i);rw[kA,show i+(j+1-i)=j+1 by lia] at a;rw[bJ,a,(d5 i o)]
 conv=>rhs;rw[e]
 exact((yZ _).append (List.reverse_perm _)).append (yZ _)
theorem MU(o:List Nat)(i j:Nat)(a:i<o.length):(fJ o i j).Perm o:=by rw[M.xb o i j a];have h1:(List.take j (o.eraseIdx i)++o[i]::List.drop j (o.eraseIdx i)).Perm (o[i]::(List.take j (o.eraseIdx i)++List.drop j (o.eraseIdx i))):=zr;rw[d5] at h1;exact h1.trans (iC.qr o i a)
theorem vP(h:p∈mz o):p.Perm o:=by
 rw[M.Am] at h;rcases cN.mp h with h|h
 .obtain⟨q,a,rfl⟩:=bK.mp h;exact MT o q.1 q.2 (M.ny a).1
 .obtain⟨q,a,rfl⟩:=bK.mp h;exact MU o q.1 q.2 (M.sW a).1
def uD(T:Nat->Nat->Nat)(h:Nat):Nat->List Nat->Nat×List Nat
 |0,o=>(0,o)
 |n+1,o=>match M.pick T h o with
  |none=>(0,o)
  |some p=>((uD T h n p).1+1,(uD T h n p).2)
theorem Ord.perm(h:Ord o hs)(q:p.Perm o):Ord p hs:=fun n hn=>h n (q.mem_iff.mp hn)
theorem Ds(a:Ord o hs)(b:jQ hs):bW (ia c hs) (ia c hs o) (mz o)=M.pick (kX c hs) hs.length o:=by rw[<-M.TX (kX c hs) (Qo c hs) hs.length o,Ay a b];exact r8 _ _ _ _ fun p d=>Ay (a.perm (vP d)) b
theorem s_(b:Ord o hs)(d:jQ hs)(h:M.pick (kX c hs) hs.length o=aa p):p.Perm o/\p≠o:=by rw[<-Ds b d] at h;obtain⟨h1,a⟩:=qx _ _ _ _ h;exact⟨vP h1,fun e=>by rw[e] at a;exact c9 _ a⟩
theorem Dt(a:jQ hs):∀(n:Nat) (o:List Nat),Ord o hs->jl (ia c hs) n o=uD (kX c hs) hs.length n o|0,o,_=>rfl|n+1,o,b=>by unfold jl uD;rw[Ds b a];cases e:M.pick (kX c hs) hs.length o with|none=>rfl|some p=>dsimp only;rw[Dt a n p (b.perm (s_ b a e).1)]
theorem Du(a:jQ hs):∀(n:Nat) (o:List Nat),Ord o hs->(uD (kX c hs) hs.length n o).2.Perm o|0,o,_=> .refl _|n+1,o,b=>by dsimp only[uD];cases e:M.pick (kX c hs) hs.length o with|none=>exact .refl _|some p=>exact(Du a n p (b.perm (s_ b a e).1)).trans (s_ b a e).1
def ld(l:List Nat):u0:= .list (l.map fun(n:Nat)=> .int n)
section
theorem Qv:∀l:List Nat,zX K H (nv l) (l.map fun(n:Nat)=>u0.int (n:Int))|[]=> .nil|n::r=> .cons (.int _) (Qv r)
theorem Ub(q:H a=aa (.lst (nv l))):Dp K H (.ref a) (ld l):= .lst (.of q) (Qv l)
theorem Lf:∀l m:List Nat,u9 (l.map fun(n:Nat)=>u0.int (n:Int)) (m.map fun(n:Nat)=>u0.int (n:Int))=ah (l=m)|[],[]=>rfl|[],b::m=>rfl|a::l,[]=>rfl|a::l,b::m=>by simp only[b5,u9,la,(Lf l m)];by_cases h1:a=b<;>by_cases c:l=m<;>simp[h1,c]<;>lia
theorem VT(l m:List Nat):la (ld l) (ld m)=ah (l=m):=by unfold ld;simp only[la];exact Lf l m
theorem Lg:∀l:List Nat,NF (l.map fun(n:Nat)=>u0.int (n:Int))=af|[]=>rfl|n::r=>by show(af&&NF (r.map fun(n:Nat)=>u0.int n))=af;rw[Lg r];rfl
theorem vQ(l:List Nat):kH (ld l)=true:=by
 unfold kH ld;have h1:u0.canLay0 (.list (l.map fun(n:Nat)=>u0.int (n:Int)))=true:=Lg l;have a:u0.depth (.list (l.map fun(n:Nat)=>u0.int n))<=64:=by
  have b:∀l:List Nat,zt (l.map fun(n:Nat)=>u0.int n)=0:=by intro l;induction l with|nil=>rfl|cons n r c=>show max 0 (zt (r.map fun(n:Nat)=>u0.int n))=0;rw[c];rfl
  show zt _+1<=64;rw[b];decide
 rw[h1,au a];rfl
theorem X_(h:Nat)(o:List Nat):tJ (nv (M.cS h o)) (aa 1) (aa (-1))=nv o:=by
 have hl:(nv (M.cS h o)).length=o.length+2:=by rw[cZ,M.sV]
 unfold tJ;rw[hl];have a:HT.nu (o.length+2) 0 (aa 1)=1:=by have:=HT.qj (o.length+2) 0 1;rw[show((1:Nat):Int)=1 from rfl] at this;rw[this];assumption
 have b:HT.nu (o.length+2) (o.length+2) (aa (-1))=o.length+1:=by show(if(-1)<0 then((-1)+((o.length+2:Nat):Int)).toNat else min (-1).toNat (o.length+2))=_;rw[ai (by decide)];lia
 rw[a,b,sZ,sY];unfold M.cS;rw[n8,lZ,show o.length+1-1=o.length by simp,DW]
inductive VU K C H(Q:VK):List V->Prop|mk:∀b dx lh lo s fs as (n:Nat),(BD K H C b s dx fs lh lo as)->(∀H' fs' lu,BD K H' C b {s with order:=(jl s.cost n s.order).2} dx fs' lh lu as->H lu=ae->fk H H' [b]->Q (.int ((jl s.cost n s.order).1)) H')->VU K C H Q [.ref b, .int n]
theorem xj:Ok Y 5 46 (VU K CB):=by
 refine Y.ok ?_;rintro _ H _ Q nd W ⟨b,y,lh,lo,s,fs,as,n,B,k⟩;have lH:=B.wf.qk;have O:=B.wf.ord;have X:=B.wf.tools;have mw:(as.map V.ref).length=s.holes.length:=by rw[aE,B.hl.len]
 rw[show jl s.cost n s.order=uD (kX s.c s.holes) s.holes.length n s.order from Dt X n s.order O] at k;refine⟨_,(aI (bB 2 (cP (ua Y) W.mono (aR (bS Y.na (pv 0)) (cO (bS Y.na (pv 0)))))) (aI (bB 3 (dZ Y.nn (bS Y.na (pv 0)))) (aI (bB 4 (cu l7 (cu l7 (cT (cO (pv 3))) (bS Y.na (pv 0))) (cT (cO (pv 3))))) (aI (bB 5 aY) (aI (lD gf (cK lG (pv 5) (pv 1)) (aI (bB 6 (cP (Aw Y) W.mono (aR (pv 2) (cO (pv 4))))) (aI (da (cK (IW W.units) (pv 6) (pv 4)) (b6 FZ) ck) (aI (bB 4 (pv 6)) (b6 (ur 5 aY wL)))))) (aI (eK Y.na (pv 0) (ig jP (pv 4) (ir aY) (ir (CH wN aY)))) (cy (pv 5)))))))),?_⟩;refine⟨b,CB,y,fs,_,Z,B.at_,Z,B.bf.hl,b,CB,y,fs,_,Z,B.at_,Z,B.bf.cc,lh,as,s.holes,s.c,B.hl,by lia,fun t P bs ht iw hTB=> ?_⟩;have B1:=B.same iw;refine⟨b,CB,y,fs,_,Z,B1.at_,Z,B.bf.hl,lh,_,Z, .inl (.of B1.hl.lst),?_⟩;rw[mw];refine⟨zl,fun R h1=> ?_⟩;have B2:=B1.same (aN (o:= .lst [.int ((s.holes.length:Nat):Int)]) h1);refine⟨b,CB,y,fs,_,Z,B2.at_,Z,B.bf.od,R,lo,_,_,Z,Z,aH,B2.ol,?_,fun S h2=> ?_⟩
 .rw[cZ,B.wf.rY];exact mq (by simp only[aK,bQ];lia)
 refine⟨zl,fun T h3=> ?_⟩;refine⟨S,T,_,_,Z,Z,(aN h3) _ _ aH,aH,?_,fun C h4=> ?_⟩
 .rw[aG,cZ,B.wf.rY];exact mq (by simp only[aK,bQ];lia)
 have est:[V.int ((s.holes.length:Nat):Int)]++nv s.order++[V.int ((s.holes.length:Nat):Int)]=nv (M.cS s.holes.length s.order):=by unfold M.cS nv;simp
 rw[est];have sT:cI P (upd (upd (upd (upd P R (.lst [.int ((s.holes.length:Nat):Int)])) S (.lst ([.int ((s.holes.length:Nat):Int)]++nv s.order))) T (.lst [.int ((s.holes.length:Nat):Int)])) C (.lst (nv (M.cS s.holes.length s.order)))):= (((aN h1).trans (aN h2)).trans (aN h3)).trans (aN h4);have U:upd (upd (upd (upd P R (.lst [.int ((s.holes.length:Nat):Int)])) S (.lst ([.int ((s.holes.length:Nat):Int)]++nv s.order))) T (.lst [.int ((s.holes.length:Nat):Int)])) C (.lst (nv (M.cS s.holes.length s.order))) C=aa (.lst (nv (M.cS s.holes.length s.order))):=aH;generalize upd (upd (upd (upd P R (.lst [.int ((s.holes.length:Nat):Int)])) S (.lst ([.int ((s.holes.length:Nat):Int)]++nv s.order))) T (.lst [.int ((s.holes.length:Nat):Int)])) C (.lst (nv (M.cS s.holes.length s.order)))=H4 at sT U;have f:=iw.trans sT
 have fin:∀(m:Nat) (o:List Nat) (ps:Addr) (D:Hp) (v:Option V),cI H4 D->D ps=aa (.lst (nv (M.cS s.holes.length o)))->(m,o)=uD (kX s.c s.holes) s.holes.length n s.order->
   uq (W6 (oV 0) (tSl (Xd K) (oV 4) (OK (tC (V.int 1))) (OK (tUn (rU fun i=> .int (-i)) (tC (V.int 1))))) "order") (WV (oV 5)) {nx:=fun _ H'=>Q .rH H',rt:=Q} [aa (.ref b),aa (.int (n:Int)),aa (.ref t),aa (.int ((s.holes.length:Nat):Int)),aa (.ref ps),aa (.int (m:Int)),v] D:=by
  intro m o ps D v g u E
  refine⟨_,Z,_,Z,_,Z,ps,_,Z, .of u,fun F G=> ?_⟩
  rw[X_]
  have I:=(B.same f).same (g.trans (aN (o:= .lst (nv o)) G))
  refine⟨b,CB,y,fs,Z,I.at_,Z,by have:=B.bf.ln;lia,?_⟩
  have ho:o=(uD (kX s.c s.holes) s.holes.length n s.order).2:=congrArg oR E
  have w:=Du (c:=s.c) X n s.order O
  have q:=k (upd (upd D F (.lst (nv o))) b (.ins CB y (fx "order" (.ref F) fs))) (fx "order" (.ref F) fs) F ⟨aH,B.bf.order F _,⟨?_,?_⟩,?_,aS ((B.same f).same g).hl.lst G,?_⟩ ((f.trans g).free G) ?_
  .rw[<-(congrArg gC E)] at q
   exact q
  .rw[aL (bF B.VP)]
   exact I.hl.lst
  .refine I.hl.at_.mono fun a h q=> ?_
   rcases q with(q|⟨o,q⟩)|q
   .refine .inl (.inl ?_)
    rw[aL (dE q I.at_ (by intro z;cases z))]
    exact q
   .refine .inl (.inr ⟨o,?_⟩)
    rw[aL (dE q I.at_ (by intro z;cases z))]
    exact q
   .exact .inr q
  .rw[aL ((aS ((B.same f).same g).at_ G).symm),aH,ho]
  .exact⟨B.wf.w1,B.wf.h1,B.wf.c1,B.wf.qk,B.wf.tools,O.perm w,w.nodup_iff.mpr B.wf.nd,w.length_eq.trans B.wf.rY,B.wf.pc,B.wf.pr,B.wf.px,B.wf.py,B.wf.cx,B.wf.ry,B.wf.on,B.wf.full⟩
  .intro q o' Im l
   rw[aL (fun z=>l (by simp[z]))]
   exact((f.trans g).trans (aN G)) q o' Im
 dsimp only[pF,uq];refine lE (fun J H'=>E4 fun(m:Nat) (o:List Nat) (ps:Addr) (v:Option V)=>A6 (cI H4 H') (H' ps=aa (.lst (nv (M.cS s.holes.length o)))) (m<=n) (o.Perm s.order) ((m+(uD (kX s.c s.holes) s.holes.length (n-m) o).1,(uD (kX s.c s.holes) s.holes.length (n-m) o).2)=uD (kX s.c s.holes) s.holes.length n s.order) (J=[aa (.ref b),aa (.int (n:Int)),aa (.ref t),aa (.int ((s.holes.length:Nat):Int)),aa (.ref ps),aa (.int (m:Int)),v])) (fun J _=>match J with|[_,_,_,_,_,some (.int z),_]=>n-z.toNat|_=>0) ?_ ?_ ?_
 .refine⟨0,s.order,C,ae,cI.refl _,U,cg _, .refl _,?_,Z⟩;rw[i8];rfl
 .rintro J H' ⟨m,o,ps,v,g,u,hmn,w,d,rfl⟩;refine⟨_,_,Z,Z,_,Z,?_⟩;by_cases c:(m:Int)<(n:Int)
  .rw[au c];have L:=O.perm w;obtain⟨r,X9⟩:∃r,n-m=r+1:=⟨n-m-1,by lia⟩;rw[X9] at d;have Ek:o.length=s.holes.length:=w.length_eq.trans B.wf.rY;refine⟨t,ps,bs,s.holes.length+1,s.holes.length,_,o,(hTB.same sT).same g,u,by lia,?_,?_⟩
   .intro x l;unfold M.cS at l;rcases aZ.mp l with rfl|l
    .exact fY _
    .rcases cN.mp l with l|l
     .exact et (L x l)
     .rw[a0.mp l];exact fY _
   .rw[show uD (kX s.c s.holes) s.holes.length (r+1) o=(match M.pick (kX s.c s.holes) s.holes.length o with|none=>(0,o)|some p=>((uD (kX s.c s.holes) s.holes.length r p).1+1,(uD (kX s.c s.holes) s.holes.length r p).2)) from rfl] at d
    cases e:M.pick (kX s.c s.holes) s.holes.length o with
    |none=>rw[e] at d;intro H6 N;have A:=N _ _ u;refine⟨ld _,ld _,Ub A,Ub A,vQ _,vQ _,_,Z,?_⟩;rw[VT,au Z];exact fin m o ps H6 _ (g.trans N) A d
    |some p=>
     rw[e] at d;obtain⟨MA,hp2⟩:=s_ L X e;intro q H6 N A;refine⟨ld _,ld _,Ub A,Ub (N _ _ u),vQ _,vQ _,_,Z,?_⟩;have ji:¬M.cS s.holes.length p=M.cS s.holes.length o:=fun z=>hp2 (by unfold M.cS at z;exact List.append_cancel_right (List.cons.inj z).2)
     rw[VT,aw ji];refine⟨_,Z,_,_,Z,Z,?_⟩;refine⟨⟨m+1,p,q,_,g.trans N,A,by lia,MA.trans w,?_,Z⟩,?_⟩
     .rw[show n-(m+1)=r by lia,<-d];show(m+1+_,_)=(m+(_+1),_);rw[show∀a b c:Nat,a+1+b=a+(b+1) from fun a b _=>by lia];exact 0
     .show n-((m:Int)+1).toNat<n-((m:Nat):Int).toNat;lia
  .rw[aw c];have e:n-m=0:=by lia
   rw[e] at d;exact fin m o ps H' v g u d
 .rintro J H' Q1 Q2 u z;dsimp only[zI,SV] at z⊢;obtain⟨v,e,z⟩:=FW z;obtain⟨v2,e2,i,j,e3,U,k2,e5,q⟩:=FW z;exact CG e (CG e2 ⟨i,j,e3,U,k2,e5,u _ _ q⟩)
end
end
section
open Vbpcak (Hole State)
def rf(a:Addr)(z:Int):List (Str×V):=[("numbers", .ref a),("position", .int z)]
theorem Jy(a:Addr)(z:Int):(rf a z).lookup ("numbers":Str)=aa (.ref a):=rfl
theorem xk(a:Addr)(z:Int):(rf a z).lookup ("position":Str)=aa (.int z):=by unfold rf;dsimp only[eT,show(("position":Str)=="numbers")=ag by decide+kernel];rfl
theorem Qw(a:Addr)(y z:Int):fx "position" (.int y) (rf a z)=rf a y:=by unfold rf fx;rw[ak (by decide+kernel)];dsimp only[fx];rw[ai Z]
theorem oN(a:Addr)(z:Int){m:Str}(h1:¬m="numbers")(b:¬m="position"):(rf a z).lookup m=none:=by unfold rf;rw[eT,eT,show(m=="numbers")=ag from by simpa using h1,show(m=="position")=ag from by simpa using b];rfl
def RD(H:Hp)(C r dr a:Addr)(z:Nat):Prop:=H r=aa (.ins C dr (rf a z))
section
inductive EN C H(Q:VK):List V->Prop|mk:∀r dr a,(H r=aa (.ins C dr []))->(Q .rH (upd H r (.ins C dr (rf a 0))))->EN C H Q [.ref r, .ref a]
theorem Qx:Om Y 1 0 (EN CR):=by refine Y.om ?_;rintro _ H _ Q nd c ⟨r,dr,a,b,k⟩;refine⟨_,(aI (eK Y.na (pv 0) (pv 1)) (b6 (eK Y.na (pv 0) aY))),?_⟩;refine⟨r,CR,dr,_,Z,b,Z,zk,?_⟩;refine⟨r,CR,dr,_,Z,aH,Z,zk,?_⟩;rwa [gq]
inductive Qy K C H(Q:VK):List V->Prop|mk:∀r dr a (ns:List Int) z,(RD H C r dr a z)->(jD K H a (ns.map V.int))->(Q (.bl (ah (z<ns.length))) H)->Qy K C H Q [.ref r]
theorem Uc:Om Y 1 1 (Qy K CR):=by refine Y.om ?_;rintro _ H _ Q nd c ⟨r,dr,a,ns,z,hR,b,k⟩;refine⟨_,(cy (kT lG (bS Y.na (pv 0)) (dZ Y.nn (bS Y.na (pv 0))))),r,CR,dr,_,_,Z,hR,Z,xk _ _,r,CR,dr,_,_,Z,hR,Z,Jy _ _,a,_,Z, .inl b,_,_,Z,Z,?_⟩;rw[aE];rwa [(decide_eq_decide.mpr (by omega):ah ((z:Int)<(ns.length:Int))=ah (z<ns.length))]
inductive Qz K C H(Q:VK):List V->Prop|mk:∀r dr a (ns:List Int) z x,(RD H C r dr a z)->(jD K H a (ns.map V.int))->(ns[z]? =aa x)->(Q (.int x) (upd H r (.ins C dr (rf a ((z+1:Nat))))))->Qz K C H Q [.ref r]
theorem gP:Om Y 1 2 (Qz K CR):=by refine Y.om ?_;rintro _ H _ Q nd d ⟨r,dr,a,ns,z,x,hR,b,c,k⟩;refine⟨_,(aI (bB 1 (bM bP (bS Y.na (pv 0)) (bS Y.na (pv 0)))) (aI (pH Y.na (pv 0) aY zP) (cy (pv 1)))),?_⟩;refine⟨r,CR,dr,_,_,Z,hR,Z,Jy _ _,r,CR,dr,_,_,Z,hR,Z,xk _ _,a,_,_,_,Z,Z,b,cB (by rw[bp,c];rfl),?_⟩;refine⟨r,CR,dr,_,_,Z,hR,Z,xk _ _,_,_,Z,Z,dr,_,hR,zk,?_⟩;dsimp only[Qw];exact k
inductive VW K C H(Q:VK):List V->Prop|mk:∀r dr a (ns:List Int) (z n:Nat),(RD H C r dr a z)->(jD K H a (ns.map V.int))->((∃ys,jD K H a ys/\a≠r))->(ns[z]? =aa (n:Int))->(z+1+n<=ns.length)->(∀H' p,H p=ae->H' p=aa (.lst (((ns.drop (z+1)).take n).map V.int))->RD H' C r dr a (z+1+n)->fk H H' [r]->Q (.ref p) H')->VW K C H Q [.ref r]
theorem QA(h:jD K H a xs)(ne:a≠r):jD K (upd H r o) a xs:=by
 rcases h with(h|⟨u,h⟩)|h
 .exact .inl (.inl (by rw[aL ne];exact h))
 .exact .inl (.inr ⟨u,by rw[aL ne];exact h⟩)
 .exact .inr h
theorem EO:Om Y 2 3 (VW K CR):=by
 refine Y.om ?_;rintro _ H _ Q nd h ⟨r,dr,a,ns,z,n,hR,e,⟨_,_,i⟩,hn,l,k⟩;refine⟨_,(aI (bB 1 (jd (gP Y) h.mono (pv 0))) (aI (bB 2 (ig jP (bS Y.na (pv 0)) (ir (bS Y.na (pv 0))) (ir (cu dJ (bS Y.na (pv 0)) (pv 1))))) (aI (pH Y.na (pv 0) (pv 1) zP) (cy (pv 2))))),?_⟩;refine⟨r,dr,_,Z,hR,oN _ _ (by decide+kernel) (by decide+kernel),r,dr,a,ns,z,_,hR,e,hn,?_⟩;have b:upd H r (.ins CR dr (rf a ((z+1:Nat):Int))) r=aa (.ins CR dr (rf a ((z+1:Nat):Int))):=aH;refine⟨r,CR,dr,_,_,Z,b,Z,Jy _ _,r,CR,dr,_,_,Z,b,Z,xk _ _,_,Z,r,CR,dr,_,_,Z,b,Z,xk _ _,_,_,Z,Z,_,Z,a,_,Z,QA (o:= .ins CR dr (rf a ((z+1:Nat):Int))) e i,fun p f=> ?_⟩;rw[K7 _ (j:=z+1+n) Z (by omega) (by omega) (by rw[aE];omega),show z+1+n-(z+1)=n by omega,<-YY,<-YX];have d:=aS b f;have c:upd (upd H r (.ins CR dr (rf a ((z+1:Nat))))) p (.lst (((ns.drop (z+1)).take n).map V.int)) r=aa (.ins CR dr (rf a ((z+1:Nat)))):=by rw[aL d];exact b
 refine⟨r,CR,dr,_,_,Z,c,Z,xk _ _,_,_,Z,Z,dr,_,c,zk,?_⟩;rw[Qw];have g:H p=none:=by have:=f;rw[aL d.symm] at this;exact this
 refine k _ p g ?_ ?_ ?_
 .exact(aL d.symm)▸aH
 .show upd _ r _ r=aa (.ins CR dr (rf a ((z+1+n:Nat))));rw[aH,show((z+1:Nat))+n=((z+1+n:Nat):Int) by omega]
 .intro q o m s;have h1:q≠r:=fun y=>s (by simp[y]);rwa [aL h1,aL (aS m g),aL h1]
end
end
section
open Vbpcak (Hole State)
theorem fk.same(h:fk H H' xs)(s:∀x∈xs,x∈ys):fk H H' ys:=fun q o e n=>h q o e fun z=>n (s q z)
theorem fk.trans(a:fk H H1 xs)(b:fk H1 H2 xs):fk H H2 xs:=fun q o e n=>b q o (a q o e n) n
theorem ik:fk H (upd H r o) [r]:=fun q u e n=>by
 rwa [aL (fun z=>n (by simp[z]))]
theorem vR{K:aM}(k:fk H H' xs)(b:∀x∈xs,∀u,H x=aa u->∀c,u≠ .tup c/\∀o,u≠ .N9 o (.tup c))(h:oW K H a ys):oW K H' a ys:=by
 rcases h with(h|⟨o,h⟩)|h
 .exact .inl (.inl (k _ _ h fun z=>(b a z _ h _).1 rfl))
 .exact .inl (.inr ⟨o,k _ _ h fun z=>(b a z _ h _).2 _ Z⟩)
 .exact .inr h
theorem BD.QB{K:aM}{lh lo:Addr}(B:BD K H C b s dx fs lh lo as)(c:H r=aa (.ins C' d' f'))(ne:b≠r)(k:fk H H' [r]):BD K H' C b s dx fs lh lo as:=by
 refine⟨k _ _ B.at_ (by simpa using ne),B.bf,⟨k _ _ B.hl.lst (by simpa using (dE B.hl.lst c (by intro z;cases z))),B.hl.at_.mono fun a h q=>vR k (fun x e u d f=> ?_) q⟩,k _ _ B.ol (by simpa using (dE B.ol c (by intro z;cases z))),B.ne,B.wf⟩;rw[a0.mp e,c] at d;cases d
 exact⟨(by intro z;cases z),(by intro o z;cases z)⟩
structure CE K(CB CR) H(b dx r dr a lh lo) s fs as(ns:List Int) z:Prop where
 bd:BD K H CB b s dx fs lh lo as
 rd:RD H CR r dr a z
 sq:jD K H a (ns.map V.int)
 ab:a≠b
 ar:a≠r
 rb:b≠r
def tM(K:aM)(CB CR:Addr)(H:Hp)(b d r dr a lh lo:Addr)(z:Nat)(st:State×kc)(Q:VK):Prop:=
 ∀H' c fs' (mF lu) as',H c=ae->H' c=aa (.lst (st.2.map V.int))->BD K H' CB b st.1 d fs' mF lu as'->RD H' CR r dr a z->(mF=lh\/H mF=ae)->(lu=lo\/H lu=ae)->c≠mF->c≠lu->
  fk H H' [b,lh,lo,r]->Q (.ref c) H'
inductive NT K(CB CR) c H(Q:VK):List V->Prop|mk:∀b dx r dr a lh lo s fs as ns z,(CE K CB CR H b dx r dr a lh lo s fs as ns z)->(tM K CB CR H b dx r dr a lh lo z (Vbpcak.step s c) Q)->NT K CB CR c H Q [.ref b, .ref r]
inductive sp1 K(CB CR)(c:Int->Vbpcak.Call) H(Q:VK):List V->Prop|mk:∀b dx r dr a lh lo s fs as ns z x,(CE K CB CR H b dx r dr a lh lo s fs as ns z)->(ns[z]? =aa x)->(-1000000000000000000<=x)->(x<=1000000000000000000)->(tM K CB CR H b dx r dr a lh lo (z+1) (Vbpcak.step s (c x)) Q)->sp1 K CB CR c H Q [.ref b, .ref r]
section
theorem tM.pure{b g r dr a lh lo c:Addr}(k:tM K CB CR H b g r dr a lh lo z (s,ans) Q)(e:CE K CB CR H b g r dr a lh lo s fs as ns z)
  (d:H c=ae) (h:H' c=aa (.lst (ans.map V.int))) (f:cI H H'):Q (.ref c) H':=
 k H' c fs lh lo as d h (e.bd.same f) (f _ _ e.rd) (.inl rfl) (.inl rfl) (aS e.bd.hl.lst d).symm (aS e.bd.ol d).symm (fk.of f)
theorem QC(l:List Hole):(l.flatMap fun h=>[h.x,h.y,(h.d:Int)]).length=3*l.length:=by induction l with|nil=>rfl|cons a r b=>rw[bR,aG,b];simp only[aK,bQ];lia
def MV(H:Hp)(l:List Int)(Q:VK):Prop:=∀p H',H p=ae->cI H H'->H' p=aa (.lst (l.map V.int))->Q (.ref p) H'
inductive QD K H(Q:VK):List V->Prop|mk:∀lh as hs,(HL K H lh as hs)->(hs.length<=4096)->(MV H (Vbpcak.told hs) Q)->QD K H Q [.ref lh]
theorem o9:Ok Y 1 155 (QD K):=by
 refine Y.ok ?_;rintro _ H _ Q nd r ⟨lh,as,hs,hl,s,k⟩;have j:=hl.len;have f:(as.map V.ref).length=hs.length:=by rw[aE,j]
 refine⟨_,(aI (bB 1 (cT (cO (dZ Y.nn (pv 0))))) (aI (fT (eM (pv 0)) (cJ 2) (b6 (cQ (fV aX eP eQ Ja (pv 1) (cO (pv 2)))))) (cy (pv 1)))),?_⟩;refine⟨lh,_,Z, .inl (.of hl.lst),zl,fun p d=> ?_⟩;rw[f];have l:=hl.same (aN (o:= .lst [.int ((hs.length:Nat):Int)]) d);refine⟨lh,Z,⟨_, .of l.lst⟩,iJ (fun i e H'=>E1 fun v:Option V=>A3 (cI H H') (H' p=aa (.lst ((((hs.length:Nat):Int)::((hs.take i).flatMap fun h=>[h.x,h.y,(h.d:Int)])).map V.int))) (e=[aa (.ref lh),aa (.ref p),v])) ⟨ae,aN d,aH,Z⟩ (fun i e H' _ ⟨_,a,_,_⟩=> .of (a _ _ hl.lst)) ?_ ?_⟩
 .rintro i v e H' m ⟨u,a,b,rfl⟩;obtain⟨c,n,rfl⟩:=hU m;obtain⟨g,hg,q⟩:=dj hl.at_ n;refine⟨.inl ⟨Z,_, .of b⟩,p,c,_,hv g,Z,Z,b,fj a q,?_,?_⟩
  .rw[aE,aK,QC,bA];show _+3<=br;have:br=16777216:=d8;lia
  .refine⟨_,cD a d,?_,Z⟩;rw[aH,take_snoc hg,cV];simp[hv]
 .rintro e H' ⟨u,a,b,rfl⟩;rw[f,cR] at b;exact k p H' d a b
theorem B8:Ok Y 2 160 (NT K CB CR .holes):=by refine Y.ok ?_;rintro _ H _ Q nd c ⟨b,d,r,dr,a,lh,lo,s,fs,as,ns,z,e,k⟩;have B:=e.bd;have i:=B.wf.qk;exact⟨_,(cy (cP (o9 Y) c.mono (cO (bS Y.na (pv 0))))),b,CB,d,fs,_,Z,B.at_,Z,B.bf.hl,lh,as,s.holes,B.hl,by lia,fun p H' f g h=>k.pure e f h g⟩
theorem B9:Ok Y 1 162 (NT K CB CR .order):=by
 refine Y.ok ?_;rintro _ H _ Q nd h ⟨b,d,r,dr,a,lh,lo,s,fs,as,ns,z,e,k⟩;have B:=e.bd;have i:=B.wf.qk;have j:=B.wf.rY;refine⟨_,(cy (cu l7 (cT (cO (dZ Y.nn (bS Y.na (pv 0))))) (bS Y.na (pv 0)))),?_⟩;refine⟨b,CB,d,fs,_,Z,B.at_,Z,B.bf.od,lo,_,Z, .inl (.of B.ol),zl,fun p c=> ?_⟩;rw[cZ];have f:=B.same (aN (o:= .lst [.int ((s.order.length:Nat):Int)]) c);refine⟨b,CB,d,fs,_,Z,f.at_,Z,B.bf.od,p,lo,_,_,Z,Z,aH,f.ol,?_,fun q g=> ?_⟩
 .rw[cZ];exact mq (by simp only[aK,bQ];lia)
 refine k.pure e ((aN c).free g) ?_ ((aN c).trans (aN (o:= .lst ([.int ((s.order.length:Nat):Int)]++nv s.order)) g));rw[aH];unfold nv Vbpcak.ints;simp
theorem AB:Ok Y 5 164 (NT K CB CR .length):=by refine Y.ok ?_;rintro _ H _ Q nd d ⟨b,c,r,dr,a,lh,lo,s,fs,as,ns,z,e,k⟩;have B:=e.bd;have g:=B.wf.qk;have h:=B.wf.rY;refine⟨_,(cy (cT (aR (cP (jf Y) d.mono (cO (pv 0))) (cO (cP (xd Y) d.mono (aR (bS Y.na (pv 0)) (cO (bS Y.na (pv 0))))))))),b,c,lh,lo,s,fs,as,B,?_⟩;refine⟨b,CB,c,fs,_,Z,B.at_,Z,B.bf.hl,b,CB,c,fs,_,Z,B.at_,Z,B.bf.od,lh,lo,as,s.holes,s.order,B.hl,B.ol,B.wf.ord,by lia,zl,fun p f=> ?_⟩;exact k.pure e f aH (aN f)
theorem tM.order{b d r dr a lh lo c po:Addr}(k:tM K CB CR H b d r dr a lh lo z ({s with order:=o},ans) Q)(e:CE K CB CR H b d r dr a lh lo s fs as ns z)
  (g:H c=ae) (i:H' c=aa (.lst (ans.map V.int))) (B:BD K H' CB b {s with order:=o} d (fx "order" (.ref po) fs) lh po as) (j:H po=ae) (f:c≠po) (hk:fk H H' [b]):Q (.ref c) H':=
 k H' c _ lh po as g i B (hk _ _ e.rd (by simpa using (bF e.rb))) (.inl rfl) (.inr j) (aS e.bd.hl.lst g).symm f (hk.same fun x h=>by simp at h;simp[h])
theorem BD.put{b d lh lo po:Addr}(B:BD K H CB b s d fs lh lo as)(f:cI H H')(e:H po=ae)(g:H' po=aa (.lst (nv o)))(wf:Wf {s with order:=o}):
  BD K (upd H' b (.ins CB d (fx "order" (.ref po) fs))) CB b {s with order:=o} d (fx "order" (.ref po) fs) lh po as:=by
 have c:=B.same f
 refine⟨aH,B.bf.order po o,⟨?_,?_⟩,?_,aS B.hl.lst e,wf⟩
 .exact(aL (bF B.VP))▸c.hl.lst
 .refine c.hl.at_.mono fun a h q=> ?_
  rcases q with(q|⟨o,q⟩)|q
  .refine .inl (.inl ?_)
   rwa [aL (dE q c.at_ (by intro z;cases z))]
  .refine .inl (.inr ⟨o,?_⟩)
   rwa [aL (dE q c.at_ (by intro z;cases z))]
  .exact .inr q
 .rwa [aL (aS B.at_ e).symm]
end
end
section
open Vbpcak (Hole State)
structure IsO o hs:Prop where
 ord:Ord o hs
 nd:o.Nodup
 len:o.length=hs.length
theorem Wf.isO(W:Wf s)(h:IsO o s.holes):Wf {s with order:=o}:=⟨W.w1,W.h1,W.c1,W.qk,W.tools,h.ord,h.nd,h.len,W.pc,W.pr,W.px,W.py,W.cx,W.ry,W.on,W.full⟩
theorem QE:∀(k:Nat) (a:Hole) (l:List Nat),l.Nodup->l.length=k->(wk c hs k a l).Nodup/\(wk c hs k a l).length=k
 |0,a,l,_,_=>⟨fh,Z⟩
 |k+1,a,l,hn,hl=>by
  cases l with
  |nil=>simp at hl
  |cons x r=>
   obtain⟨m,b⟩:=M.iK (fc c hs a) x r;have f:=M.ij (x::r) m hn (M.fB _ _ _ b);obtain⟨h1,d⟩:=QE k (bb hs m) ((x::r).filter fun j=>ah (j≠m)) (hn.filter _) (by lia);have e:wk c hs (k+1) a (x::r)=m::wk c hs k (bb hs m) ((x::r).filter fun j=>ah (j≠m)):=by show(match cn (fc c hs a) (x::r) with|none=>[]|some i=>i::wk c hs k (bb hs i) ((x::r).filter fun j=>ah (j≠i)))=_;rw[b]
   rw[e];refine⟨c8.mpr ⟨fun z=> ?_,h1⟩,by rw[aK,d]⟩;have:=(b_.mp (EJ c hs _ _ _ _ z)).2;simp at this
theorem Hl(a:jQ hs):IsO (Bz c hs) hs:=by have e:Bz c hs=wk c hs hs.length H0 (List.range hs.length):=(EI c hs a _ _ (pO hs)).symm;obtain⟨h1,b⟩:=QE hs.length H0 (List.range hs.length) dS bG;exact e▸⟨fun n hn=>bU.mp (EJ c hs _ _ _ _ hn),h1,b⟩
theorem Lh:∀(k:Nat) (a:Hole) (l:List Nat),l.Nodup->l.length=k->(wk c hs k a l).Perm l
 |0,a,l,_,h=>by have e:=bX.mp h;subst e;exact .refl _
 |k+1,a,l,hn,hl=>by
  cases l with
  |nil=>simp at hl
  |cons x r=>
   obtain⟨m,b⟩:=M.iK (fc c hs a) x r;have d:=M.fB _ _ _ b;have f:=M.ij (x::r) m hn d;have e:wk c hs (k+1) a (x::r)=m::wk c hs k (bb hs m) ((x::r).filter fun j=>ah (j≠m)):=by show(match cn (fc c hs a) (x::r) with|none=>[]|some i=>i::wk c hs k (bb hs i) ((x::r).filter fun j=>ah (j≠i)))=_;rw[b]
   rw[e];refine((Lh (c:=c) (hs:=hs) k (bb hs m) ((x::r).filter fun j=>ah (j≠m)) (hn.filter _) (by lia)).cons m).trans ?_;exact(M.erase_filter _ _ hn)▸((L5 d).symm)
theorem MW(b:jQ hs)(q:At a h)(d:Nat):(dY 0 hs hs.length a (numsOf hs d)).Perm (numsOf hs d):=by rw[<-VM b q hs.length _ (l8 hs d),EH 0 hs hs.length (numsOf hs d).length h _ (lL hs d) (numsOf_len hs d) (aQ _)];exact Lh _ _ _ (lL hs d) Z
theorem qy(b:jQ hs):∀(c:List Nat) (a:Option Hole) (h:Hole),At a h->(oj hs c a).Perm (c.flatMap (numsOf hs))|[],a,h,_=> .refl _|d::r,a,h,q=>by have f:=MW b q d;show((dY 0 hs hs.length a (numsOf hs d))++oj hs r (match(dY 0 hs hs.length a (numsOf hs d)).getLast? with|some i=>aa (bb hs i)|none=>a)).Perm _;rw[bR];refine f.append ?_;cases e:(dY 0 hs hs.length a (numsOf hs d)).getLast? with|none=>exact qy b r a h q|some i=>exact qy b r (aa (bb hs i)) (bb hs i) ⟨Z,b _ (iO (l8 hs d i (f.mem_iff.mp (L4 e))))⟩
theorem AD:∀(b:List Nat),b.Nodup->(b.flatMap (numsOf hs)).Nodup|[],_=>fh|d::r,h=>by obtain⟨h1,c⟩:=c8.mp h;rw[bR];refine hG.mpr ⟨lL hs d,AD r c,fun x f y g e=> ?_⟩;subst e;obtain⟨d',i,a⟩:=ju.mp g;exact h1 (by rw[<-(aq (b_.mp f).2),(aq (b_.mp a).2)];exact i)
theorem Hm(c:jQ hs):IsO (oh hs) hs:=by
 have b:(oh hs).Perm (List.range hs.length):=by
  refine(qy c (cC hs) ae H0 Z).trans ((oS (AD _ ((M.Aq hs).imp fun h=>b9 h)) dS).mpr fun x=> ?_);rw[ju,bU];constructor
  .rintro⟨d,_,a⟩;exact l8 hs d x a
  .intro a;exact⟨(bb hs x).d,(M.pM hs _).mpr ⟨_,iO a,Z⟩,b_.mpr ⟨bU.mpr a,au Z⟩⟩
 exact⟨(pO hs).perm b,b.nodup_iff.mpr dS,by rw[b.length_eq,bG]⟩
section
theorem yE:Ok Y 6 165 (NT K CB CR .nearest):=by
 refine Y.ok ?_;rintro _ H _ Q nd h ⟨b,c,r,dr,a,lh,lo,s,fs,as,ns,z,e,k⟩;have B:=e.bd;have u:=B.wf.qk;refine⟨_,(aI (eK Y.na (pv 0) (cP (xf Y) h.mono (aR (bS Y.na (pv 0)) (cO (bS Y.na (pv 0)))))) (cy (cT (cO (cP (jf Y) h.mono (cO (pv 0))))))),?_⟩;refine⟨b,CB,c,fs,_,Z,B.at_,Z,B.bf.hl,b,CB,c,fs,_,Z,B.at_,Z,B.bf.cc,lh,as,s.holes,s.c,B.hl,by lia,B.wf.tools,fun po n i d p=> ?_⟩;have f:=B.put d i p (B.wf.isO (Hl B.wf.tools));refine⟨b,CB,c,fs,Z,d _ _ B.at_,Z,by have:=B.bf.ln;lia,?_⟩;refine⟨b,c,lh,po,_,_,as,f,zl,fun j g=> ?_⟩;have l:H j=none:=by
  have:n j=none:=by have:=g;rw[aL ((aS f.at_ g).symm)] at this;exact this
  exact d.free this
 refine tM.order k e l aH (f.same (aN g)) i (aS f.ol g).symm fun q o m t=> ?_;rw[aL (aS m l),aL (fun y=>t (by simp[y]))];exact d q o m
theorem yG:Ok Y 6 166 (NT K CB CR .grouped):=by
 refine Y.ok ?_;rintro _ H _ Q nd h ⟨b,g,r,dr,a,lh,lo,s,fs,as,ns,z,e,k⟩;have B:=e.bd;have u:=B.wf.qk;refine⟨_,(aI (eK Y.na (pv 0) (cP (xh Y) h.mono (cO (bS Y.na (pv 0))))) (cy (cT (cO (cP (jf Y) h.mono (cO (pv 0))))))),?_⟩;refine⟨b,CB,g,fs,_,Z,B.at_,Z,B.bf.hl,lh,as,s.holes,B.hl,by lia,B.wf.tools,fun po n i c p=> ?_⟩;have d:=B.put c i p (B.wf.isO (Hm B.wf.tools));refine⟨b,CB,g,fs,Z,c _ _ B.at_,Z,by have:=B.bf.ln;lia,?_⟩;refine⟨b,g,lh,po,_,_,as,d,zl,fun j f=> ?_⟩;have l:H j=none:=by
  have:n j=none:=by have:=f;rw[aL ((aS d.at_ f).symm)] at this;exact this
  exact c.free this
 refine tM.order k e l aH (d.same (aN f)) i (aS d.ol f).symm fun q o m t=> ?_;rw[aL (aS m l),aL (fun y=>t (by simp[y]))];exact c q o m
theorem ER:Ok Y 6 168 (NT K CB CR .best):=by
 refine Y.ok ?_;rintro _ H _ Q nd h ⟨b,d,r,dr,a,lh,lo,s,fs,as,ns,z,e,k⟩;have B:=e.bd;have i:(as.map V.ref).length=s.holes.length:=by rw[aE,B.hl.len]
 refine⟨_,(aI (da (cK mB (dZ Y.nn (bS Y.na (pv 0))) (d_ Y.ci)) (cy (cT (cO (d_ Y.ci)))) ck) (cy (cP (vN Y) h.mono (aR (bS Y.na (pv 0)) (cO (bS Y.na (pv 0))))))),?_⟩;refine⟨b,CB,d,fs,_,Z,B.at_,Z,B.bf.hl,lh,_,Z, .inl (.of B.hl.lst),_,_,Z,Z,_,Z,?_⟩;rw[i];by_cases c:7<(s.holes.length:Int)
 .rw[au c];have f:Vbpcak.step s .best=(s,[-3]):=by unfold Vbpcak.step;exact jw (aw (by unfold ZG;lia))
  rw[f] at k;refine⟨zl,fun p g=> ?_⟩;exact k.pure e g aH (aN g)
 .rw[aw c];have f:Vbpcak.step s .best=(s,Vbpcak.ints (s.cost (pA s.c s.holes)::pA s.c s.holes)):=by unfold Vbpcak.step;refine(eD (au (by unfold ZG;lia))).trans ?_;rfl
  rw[f] at k;refine⟨b,CB,d,fs,_,Z,B.at_,Z,B.bf.hl,b,CB,d,fs,_,Z,B.at_,Z,B.bf.cc,lh,as,s.holes,s.c,B.hl,by lia,B.wf.tools,fun n o j l m=>k.pure e j ?_ l⟩;rw[m,oM];rfl
theorem JA(hs:List Hole)(d:Nat):(numsOf hs d).length=(hs.filter fun h=>ah (h.d=d)).length:=by
 have e:hs.filter (fun h=>ah (h.d=d))=(numsOf hs d).map (bb hs):=by
  have a:hs=(List.range hs.length).map (bb hs):=by
   apply fF;intro i;rw[bp];by_cases h:i<hs.length
   .rw[d7 h,aP h];show _=aa (bb hs i);unfold bb;rw[bh,aP h];rfl
   .rw[dH (by lia),dH (by rw[bG];lia)];rfl
  conv=>lhs;rw[a]
  rw[U7];rfl
 rw[e,aE]
theorem B_:Ok Y 2 161 (NT K CB CR .tools):=by
 refine Y.ok ?_;rintro _ H _ Q nd C ⟨b,D,r,dr,a,lh,lo,s,fs,as,ns,z,e,k⟩;have B:=e.bd;have P:=B.wf.qk;have R:=xg s.holes;refine⟨_,(aI (bB 2 (cP (qw Y) C.mono (cO (bS Y.na (pv 0))))) (aI (bB 3 (cT (cO (dZ Y.nn (pv 2))))) (aI (fT (eM (pv 2)) (cJ 4) (aI (cQ (fV aX bu bw df (pv 3) (cO (pv 4)))) (b6 (cQ (fV aX bu bw df (pv 3) (cO (dZ Y.nn (cP (lK Y) C.mono (aR (bS Y.na (pv 0)) (cO (pv 4))))))))))) (cy (pv 3))))),?_⟩;refine⟨b,CB,D,fs,_,Z,B.at_,Z,B.bf.hl,lh,as,s.holes,B.hl,by lia,fun pd S L E j=> ?_⟩;refine⟨pd,_,Z, .inl (.of j),zl,fun p c=> ?_⟩;rw[cZ];have n:=E.free c;have f:=(aS j c).symm;refine⟨pd,Z,⟨_, .of ((aN c) _ _ j)⟩,iJ (fun i m H'=>E1 fun v:Option V=>A4 (cI H H') (H' pd=aa (.lst (nv (cC s.holes)))) (H' p=aa (.lst ((((cC s.holes).length:Nat):Int)::(((cC s.holes).take i).flatMap fun(d:Nat)=>[(d:Int),(((s.holes.filter fun h=>ah (h.d=d)).length:Nat):Int)])|>.map V.int))) (m=[aa (.ref b),aa (.ref r),aa (.ref pd),aa (.ref p),v])) ⟨ae,E.trans (aN (o:= .lst [.int ((cC s.holes).length:Nat)]) c),(aN c) _ _ j,aH,Z⟩ (by rintro i m H' _ ⟨_,_,q,_,_⟩;exact .of q) ?_ ?_⟩
 .rintro i v m H' M ⟨u,t,hd,g,rfl⟩;obtain⟨d,F,rfl⟩:=o7 M;have T:=(aV.mp F).1;have w:∀l:List Nat,(l.flatMap fun(d:Nat)=>[(d:Int),(((s.holes.filter fun h=>ah (h.d=d)).length:Nat))]).length=2*l.length:=by intro l;induction l with|nil=>rfl|cons x y N=>rw[bR,aG,N];simp only[aK,bQ];lia
  have G:((((cC s.holes).length:Nat):Int)::(((cC s.holes).take i).flatMap fun(d:Nat)=>[d,(((s.holes.filter fun h=>ah (h.d=d)).length:Nat))])|>.map V.int).length<=200:=by rw[aE,aK,w,bA];lia
  refine⟨.inl ⟨Z,_, .of g⟩,p,_,_,Z,Z,g,bo G (by decide),?_⟩;have I:=cD (o:= .lst (((((cC s.holes).length:Nat):Int)::(((cC s.holes).take i).flatMap fun(d:Nat)=>[(d:Int),(((s.holes.filter fun h=>ah (h.d=d)).length:Nat):Int)])|>.map V.int)++[.int (d:Int)])) t n;have J:=B.same I;refine⟨.inl ⟨Z,_, .of aH⟩,b,CB,D,fs,_,Z,J.at_,Z,B.bf.hl,lh,as,s.holes,d,J.hl,by lia,fun pn U W A O=> ?_⟩;refine⟨pn,_,Z, .inl (.of O),p,_,_,Z,Z,A _ _ aH,?_,?_⟩
  .rw[aG];exact bo (va G 1) (by decide)
  .refine⟨_,cD (I.trans A) n,?_,?_,Z⟩
   .rw[aL f.symm];exact A _ _ (by rw[aL f.symm];exact hd)
   .rw[aH,cZ,JA,take_snoc F,cV];simp
 .rintro m H' ⟨u,t,hd,g,rfl⟩;rw[cZ,cR] at g;exact k.pure e n g t
end
end
section
open Vbpcak (Hole State)
inductive sp3 K(CB CR)(c:Int->Int->Int->Vbpcak.Call) H(Q:VK):List V->Prop|mk:∀b dx r dr a lh lo s fs as ns z (x y d),(CE K CB CR H b dx r dr a lh lo s fs as ns z)->(ns[z]? =aa x)->(ns[z+1]? =aa y)->(ns[z+2]? =aa d)->(tM K CB CR H b dx r dr a lh lo (z+3) (Vbpcak.step s (c x y d)) Q)->sp3 K CB CR c H Q [.ref b, .ref r]
inductive spR K(CB CR)(c:List Int->Vbpcak.Call) H(Q:VK):List V->Prop|mk:∀b dx r dr a lh lo s fs as ns (z n:Nat),(CE K CB CR H b dx r dr a lh lo s fs as ns z)->(ns[z]? =aa (n:Int))->(z+1+n<=ns.length)->(n<=16900)->(tM K CB CR H b dx r dr a lh lo (z+1+n) (Vbpcak.step s (c ((ns.drop (z+1)).take n))) Q)->spR K CB CR c H Q [.ref b, .ref r]
section
theorem CE.taken{b c r dr a lh lo:Addr}(e:CE K CB CR H b c r dr a lh lo s fs as ns z)(z':Nat):CE K CB CR (upd H r (.ins CR dr (rf a (z':Int)))) b c r dr a lh lo s fs as ns z':=
 ⟨e.bd.QB e.rd e.rb ik,aH,QA e.sq e.ar,e.ab,e.ar,e.rb⟩
theorem tM.taken{b f r dr a lh lo:Addr}{z z':Nat}{st:State×kc}(k:tM K CB CR H b f r dr a lh lo z st Q)(g:∃u,H r=aa u):tM K CB CR (upd H r o) b f r dr a lh lo z st Q:=by
 obtain⟨u,g⟩:=g;intro H' h fs' j l d m n B R h1 s t w kp;have e:∀p,upd H r o p=ae->H p=none:=fun p c=>by
  by_cases q:p=r
  .subst q;rw[aH] at c;cases c
  .rw[aL q] at c;exact c
 refine k H' h fs' j l d (e h m) n B R (h1.imp id (e _)) (s.imp id (e _)) t w fun q v hv i=> ?_;exact kp q v (by rw[aL (fun y=>i (by simp[y]))];exact hv) i
theorem tM.one{b h r dr a lh lo e f c:Addr}{st:State×kc}(k:tM K CB CR H b h r dr a lh lo z st Q)(i:st.2=[x])(B:BD K H1 CB b st.1 h fs' e f as')(R:RD H1 CR r dr a z)
  (h1:e=lh\/H e=ae) (j:f=lo\/H f=ae) (kp:fk H H1 [b,lh,lo,r]) (ho:∀x∈[b,lh,lo,r],∃u,H1 x=aa u) (d:H1 c=ae):Q (.ref c) (upd H1 c (.lst [.int x])):=by
 have l:H c=none:=by
  cases q:H c with
  |none=>rfl
  |some u=>
   by_cases g:c∈[b,lh,lo,r]
   .obtain⟨v,hv⟩:=ho c g
    rw[hv] at d
    cases d
   .rw[kp c u q g] at d
    cases d
 refine k _ c fs' e f as' l (by rw[aH,i];rfl) (B.same (aN d)) ((aN d) _ _ R) h1 j (aS B.hl.lst d).symm (aS B.ol d).symm fun q v hv g=> ?_
 exact(aN d) _ _ (kp q v hv g)
theorem ES:Ok Y 3 158 (sp3 K CB CR .hole):=by
 refine Y.ok ?_;rintro _ H _ Q nd i ⟨b,p,r,dr,a,lh,lo,s,fs,as,ns,z,x,y,d,e,c,q,hd,k⟩;have l:=fun z'=>oN a z' (m:=("take":Str)) (by decide+kernel) (by decide+kernel);refine⟨_,(aI (bB 2 (jd (gP Y) i.mono (pv 1))) (aI (bB 3 (jd (gP Y) i.mono (pv 1))) (aI (bB 4 (jd (gP Y) i.mono (pv 1))) (cy (cT (cO (cP (Hk Y) i.mono (aR (pv 0) (aR (pv 2) (aR (pv 3) (cO (pv 4)))))))))))),?_⟩;have g:=e.taken (z+1);refine⟨r,dr,_,Z,e.rd,l _,r,dr,a,ns,z,x,e.rd,e.sq,c,?_⟩;have h:=g.taken (z+2);refine⟨r,dr,_,Z,g.rd,l _,r,dr,a,ns,z+1,y,g.rd,g.sq,q,?_⟩;have f:=h.taken (z+3);refine⟨r,dr,_,Z,h.rd,l _,r,dr,a,ns,z+2,d,h.rd,h.sq,hd,?_⟩;refine⟨b,p,lh,lo,s,fs,as,x,y,d,f.bd,fun w v t hv j kp=>⟨zl,fun A u=> ?_⟩⟩;have n:r∉[lh,lo]:=by simp[((dE f.bd.hl.lst f.rd (by intro z;cases z)).symm),((dE f.bd.ol f.rd (by intro z;cases z)).symm)]
 refine tM.one (((k.taken (z':=z) (o:= .ins CR dr (rf a ((z+1:Nat):Int))) ⟨_,e.rd⟩).taken (z':=z) (o:= .ins CR dr (rf a ((z+2:Nat):Int))) ⟨_,g.rd⟩).taken (z':=z) (o:= .ins CR dr (rf a ((z+3:Nat):Int))) ⟨_,h.rd⟩) hv j (kp _ _ f.rd n) (.inl rfl) (.inl rfl) (kp.same fun x c=>by simp at c;rcases c with rfl|rfl<;>simp) (fun x c=> ?_) u;simp only[aZ,dD,or_false] at c;rcases c with rfl|rfl|rfl|rfl
 .exact⟨_,j.at_⟩
 .exact⟨_,j.hl.lst⟩
 .exact⟨_,j.ol⟩
 .exact⟨_,kp _ _ f.rd n⟩
theorem ET:Ok Y 3 159 (sp1 K CB CR .drop):=by
 refine Y.ok ?_;rintro _ H _ Q nd g ⟨b,i,r,dr,a,lh,lo,s,fs,as,ns,z,x,e,c,j,l,k⟩;refine⟨_,(cy (cT (cO (cP (EM Y) g.mono (aR (pv 0) (cO (jd (gP Y) g.mono (pv 1)))))))),?_⟩;have d:=e.taken (z+1);refine⟨r,dr,_,Z,e.rd,(fun z'=>oN a z' (m:=("take":Str)) (by decide+kernel) (by decide+kernel)) _,r,dr,a,ns,z,x,e.rd,e.sq,c,?_⟩;refine⟨b,i,lh,lo,s,fs,as,x,d.bd,by lia,by lia,fun t v fs' u n hv f p kp=>⟨zl,fun w q=> ?_⟩⟩;have h:r∉[b,lh]:=by simp[((dE d.bd.hl.lst d.rd (by intro z;cases z)).symm),bF e.rb]
 refine tM.one (k.taken (z':=z) (o:= .ins CR dr (rf a ((z+1:Nat):Int))) ⟨_,e.rd⟩) hv f (kp _ _ d.rd h) (.inl rfl) p (kp.same fun x c=>by simp at c;rcases c with rfl|rfl<;>simp) (fun x c=> ?_) q;simp only[aZ,dD,or_false] at c;rcases c with rfl|rfl|rfl|rfl
 .exact⟨_,f.at_⟩
 .exact⟨_,f.hl.lst⟩
 .exact⟨_,kp _ _ d.bd.ol (by simp[bF e.bd.nbo,bF e.bd.ne])⟩
 .exact⟨_,kp _ _ d.rd h⟩
theorem yH:Ok Y 6 167 (sp1 K CB CR .improve):=by
 refine Y.ok ?_;rintro _ H _ Q nd p ⟨b,A,r,dr,a,lh,lo,s,fs,as,ns,z,x,e,g,C,D,k⟩;refine⟨_,(aI (bB 2 (jd (gP Y) p.mono (pv 1))) (aI (da (gV (gw gv gv aY (pv 2) (d_ Y.ci))) (cy (cT (cO (d_ Y.ci)))) ck) (aI (bB 3 (cP (xj Y) p.mono (aR (pv 0) (cO (pv 2))))) (cy (cT (aR (pv 3) (cO (cP (jf Y) p.mono (cO (pv 0)))))))))),?_⟩;have h:=e.taken (z+1);have l:=k.taken (z':=z) (o:= .ins CR dr (rf a ((z+1:Nat):Int))) ⟨_,e.rd⟩;have own:∀x∈[b,lh,lo,r],∃u,upd H r (.ins CR dr (rf a ((z+1:Nat):Int))) x=aa u:=fun x g=>by
  simp only[aZ,dD,or_false] at g;rcases g with rfl|rfl|rfl|rfl
  .exact⟨_,h.bd.at_⟩
  .exact⟨_,h.bd.hl.lst⟩
  .exact⟨_,h.bd.ol⟩
  .exact⟨_,h.rd⟩
 have i:¬(0<=x/\x<=100)->∀f,upd H r (.ins CR dr (rf a ((z+1:Nat):Int))) f=ae->Q (.ref f) (upd (upd H r (.ins CR dr (rf a ((z+1:Nat):Int)))) f (.lst [.int (-1)])):=fun c f d=>by
  have t:Vbpcak.step s (.improve x)=(s,[-1]):=by unfold Vbpcak.step;exact jw (by unfold Vbpcak.within;simp;lia)
  rw[t] at l;exact tM.one l Z h.bd h.rd (.inl rfl) (.inl rfl) (fk.of (cI.refl _)) own d
 refine⟨r,dr,_,Z,e.rd,(fun z'=>oN a z' (m:=("take":Str)) (by decide+kernel) (by decide+kernel)) _,r,dr,a,ns,z,x,e.rd,e.sq,g,_,_,Z,Z,_,Z,?_⟩;refine e_ (fun c1=> ?_) (fun c1=>⟨_,Z,zl,fun f d=>i (fun y=>AA c1 y.1) f d⟩);have G:=aq c1;refine⟨_,_,Z,Z,_,Z,?_⟩;by_cases w:x<=100
 .rw[au w];obtain⟨n,rfl⟩:∃n:Nat,x=n:=⟨x.toNat,by lia⟩;have t:Vbpcak.step s (.improve n)=({s with order:=(jl s.cost n s.order).2},Vbpcak.ints [(jl s.cost n s.order).1,s.cost (jl s.cost n s.order).2]):=by unfold Vbpcak.step;refine(eD (by unfold Vbpcak.within;simp;lia)).trans ?_;rfl
  rw[t] at l;refine⟨b,A,lh,lo,s,fs,as,n,h.bd,fun I fs' B j E kp=> ?_⟩;refine⟨b,A,lh,B,_,fs',as,j,zl,fun f d=> ?_⟩;have F:upd H r (.ins CR dr (rf a ((z+1:Nat)))) f=none:=by
   cases q:upd H r (.ins CR dr (rf a ((z+1:Nat)))) f with
   |none=>rfl
   |some u=>
    by_cases g:f∈[b]
    .rw[a0.mp g,j.at_] at d;cases d
    .rw[kp f u q g] at d;cases d
  refine l _ f fs' lh B as F aH (j.same (aN d)) ((aN d) _ _ (kp _ _ h.rd (by simp[bF e.rb]))) (.inl rfl) (.inr E) (aS j.hl.lst d).symm (aS j.ol d).symm fun q v hv g=> ?_;exact(aN d) _ _ (kp q v hv (by intro y;rw[a0.mp y] at g;simp at g))
 .rw[aw w];exact⟨zl,fun f d=>i (fun y=>w y.2) f d⟩
theorem BD.put2{b d lh lo po:Addr}(c:BD K H' CB b s d fs lh lo as)(e:H' po=aa (.lst (nv o)))(f:lh≠po)(wf:Wf {s with order:=o}):
  BD K (upd H' b (.ins CB d (fx "order" (.ref po) fs))) CB b {s with order:=o} d (fx "order" (.ref po) fs) lh po as:=by
 refine⟨aH,c.bf.order po o,⟨?_,?_⟩,?_,f,wf⟩
 .exact(aL (bF c.VP))▸c.hl.lst
 .refine c.hl.at_.mono fun a h q=> ?_
  rcases q with(q|⟨o,q⟩)|q
  .refine .inl (.inl ?_)
   rwa [aL (dE q c.at_ (by intro z;cases z))]
  .refine .inl (.inr ⟨o,?_⟩)
   rwa [aL (dE q c.at_ (by intro z;cases z))]
  .exact .inr q
 .rwa [aL (dE e c.at_ (by intro z;cases z))]
theorem MX(h:ub row n=af):∃o:List Nat,row=o.map oU/\o.length=n/\(∀x∈o,x<n)/\o.Nodup:=by
 unfold ub at h;rw[bq,bq,gD] at h;obtain⟨h1,f,b⟩:=h;have b:=aq b;have c:∀x∈row,0<=x/\x<(n:Int):=fun x a=>by have:=f x a;unfold Vbpcak.within at this;rw[bq] at this;lia
 have d:row=(row.map IC).map oU:=by
  rw[dI];conv=>lhs;rw[<-L1 row]
  refine fD fun x a=> ?_;have:=c x a;show x=oU x.toNat;have e:oU x.toNat=((x.toNat:Nat):Int):=rfl;lia
 refine⟨row.map IC,d,by rw[aE,(aq h1)],fun x a=> ?_,?_⟩
 .obtain⟨y,g,rfl⟩:=bK.mp a;have:=c y g;lia
 .rw[d] at b;exact List.Pairwise.imp (fun h e=>h (by rw[e])) (gj.mp b)
theorem vS:Ok Y 5 163 (spR K CB CR .set):=by
 refine Y.ok ?_;rintro _ H _ Q nd t ⟨b,l,r,dr,a,lh,lo,s,fs,as,ns,z,n,e,d,v,hn,k⟩;refine⟨_,(aI (bB 2 (jd (EO Y) t.mono (pv 1))) (aI (da (gV (jv (cP (Hf Y) t.mono (aR (pv 2) (cO (dZ Y.nn (bS Y.na (pv 0)))))) (fun _=>rfl))) (cy (cT (cO (d_ Y.ci)))) ck) (aI (eK Y.na (pv 0) (pv 2)) (cy (cT (cO (cP (jf Y) t.mono (cO (pv 0))))))))),?_⟩;refine⟨r,dr,_,Z,e.rd,(fun z'=>oN a z' (m:=("take_row":Str)) (by decide+kernel) (by decide+kernel)) _,r,dr,a,ns,z,n,e.rd,e.sq,⟨_,e.sq,e.ar⟩,d,v,fun S p E w y F=> ?_⟩;have g:=e.bd.QB e.rd e.rb F;have J:(as.map V.ref).length=s.holes.length:=by rw[aE,g.hl.len]
 refine⟨b,CB,l,fs,_,Z,g.at_,Z,g.bf.hl,lh,_,Z, .inl (.of g.hl.lst),?_⟩;rw[J];have T:=g.wf.qk;refine⟨p,_,s.holes.length,w,by lia,fun h i=>⟨_,Z,?_⟩⟩;have f:=g.same i;have L:fk H h [r]:=fun q o M d=>i _ _ (F q o M d);have j:fk H h [b,lh,lo,r]:=L.same fun x d=>by simp at d;simp[d]
 have own:∀x∈[b,lh,lo,r],∃u,h x=aa u:=fun x d=>by
  simp only[aZ,dD,or_false] at d;rcases d with rfl|rfl|rfl|rfl
  .exact⟨_,f.at_⟩
  .exact⟨_,f.hl.lst⟩
  .exact⟨_,f.ol⟩
  .exact⟨_,i _ _ y⟩
 generalize hw:(ns.drop (z+1)).take n=row at k w⊢;by_cases q:ub row s.holes.length=af
 .rw[q];obtain⟨o,rfl,A,N,B⟩:=MX q;have C:Vbpcak.step s (.set (o.map oU))=({s with order:=o},[((s.cost o:Nat):Int)]):=by unfold Vbpcak.step;refine(eD q).trans ?_;rw[dI,show(IC∘oU)=id from rfl,L1];rfl
  rw[C] at k;have O:h p=aa (.lst (nv o)):=by rw[i _ _ w,dI];rfl
  have G:=f.put2 O (aS e.bd.hl.lst E) (f.wf.isO ⟨N,B,A⟩);refine⟨b,CB,l,fs,Z,f.at_,Z,by have:=f.bf.ln;lia,?_⟩;have I:fk h (upd h b (.ins CB l (fx "order" (.ref p) fs))) [b]:=ik;refine⟨b,l,lh,p,_,_,as,G,zl,fun P D=> ?_⟩;refine tM.one k Z G (I _ _ (i _ _ y) (by simp[bF e.rb])) (.inl rfl) (.inr E) (j.trans (I.same fun x d=>by simp at d;simp[d])) (fun x d=> ?_) D;obtain⟨u,R⟩:=own x d;by_cases c:x=b
  .subst c;exact⟨_,aH⟩
  .exact⟨u,by rw[aL c];exact R⟩
 .rw[pY.mpr q];have C:Vbpcak.step s (.set row)=(s,[-1]):=by unfold Vbpcak.step;exact jw (pY.mpr q)
  rw[C] at k;exact⟨zl,fun P D=>tM.one k Z f (i _ _ y) (.inl rfl) (.inl rfl) j own D⟩
end
end
end D
namespace kO
open PySem
theorem AE:∀k:Nat,∃u,u%2=1/\5^(2^k)=1+2^(k+2)*u
 |0=>⟨1,Z,Z⟩
 |k+1=>by
  obtain⟨u,a,e⟩:=AE k;refine⟨u+2^(k+1)*(u*u),?_,?_⟩
  .have:2^(k+1)*(u*u)=2*(2^k*(u*u)):=by dsimp only[jN];ac_rfl
   lia
  .rw[(jN ..),Nat.pow_mul,e];grind
theorem Hn:∀(k s:Nat),5^s%2^(k+2)=1->2^k∣s
 |0,s,_=>Nat.one_dvd s
 |k+1,s,h=>by
  have hd:2^(k+1+2)=2^(k+2)*2:=by rfl
  have h1:5^s%2^(k+2)=1:=by have e:5^s%2^(k+1+2)%2^(k+2)=5^s%2^(k+2):=Nat.mod_mod_of_dvd _ ⟨2,hd⟩;simp_all
  obtain⟨m,rfl⟩:=Hn k s h1;rcases Nat.mod_two_eq_zero_or_one m with c|c
  .obtain⟨a,rfl⟩:∃a,m=2*a:=⟨m/2,by lia⟩;exact⟨a,by rw[jN,wI]⟩
  .exfalso;obtain⟨a,rfl⟩:∃a,m=2*a+1:=⟨m/2,by lia⟩;obtain⟨u,l,d⟩:=AE k;obtain⟨v,hv,f⟩:=AE (k+1);have g:5^(2^k*(2*a+1))=(5^(2^(k+1)))^a*5^(2^k):=by simp[Nat.pow_mul,NG,congr,Nat.mul_add,Nat.mul_one,jN,wI]
   rw[g,NH] at h;have i:(5^2^(k+1))^a%2^(k+1+2)=1:=by rw[Nat.pow_mod,f];simp
   rw[i,NI,Nat.mod_mod,d,hd] at h;obtain⟨b,rfl⟩:∃b,u=2*b+1:=⟨u/2,by lia⟩;have j:1+2^(k+2)*(2*b+1)=(1+2^(k+2))+2^(k+2)*2*b:=by rw[Nat.mul_add,Nat.mul_one,wI];lia
   have o:4<=2^(k+2):=by rw[NG];have:=Nat.one_le_two_pow (n:=k);lia
   rw[j,Nat.add_mul_mod_self_left,rk (by lia)] at h;lia
def Dv(M:Nat):Nat->Nat->Nat|0,i=>i|n+1,i=>(Dv M n i*5+1)%M
theorem Li(M:Nat)(a:Nat):∀(b i:Nat),Dv M (a+b) i=Dv M b (Dv M a i)|0,i=>rfl|b+1,i=>by show(Dv M (a+b) i*5+1)%M=(Dv M b (Dv M a i)*5+1)%M;rw[Li M a b i]
theorem Lj(k:Nat):∀(n i:Nat),(4*Dv (2^k) n i+1)%2^(k+2)=5^n*(4*i+1)%2^(k+2)
 |0,i=>by show _=1*_%_;rw[NI];rfl
 |n+1,i=>by
  have p:2^(k+2)=4*2^k:=by rw[NG];lia
  show(4*((Dv (2^k) n i*5+1)%2^k)+1)%2^(k+2)=5^n*5*(4*i+1)%2^(k+2);have a:4*((Dv (2^k) n i*5+1)%2^k)=(4*(Dv (2^k) n i*5+1))%2^(k+2):=by rw[p,Nat.mul_mod_mul_left]
  rw[a,Nat.mod_add_mod];have b:4*(Dv (2^k) n i*5+1)+1=5*(4*Dv (2^k) n i+1):=by lia
  have c:5^n*5*(4*i+1)=5*(5^n*(4*i+1)):=by ac_rfl
  rw[b,c,NH,Lj k n i,<-NH]
theorem QF(k:Nat)(h:Dv (2^k) s i=i):2^k∣s:=by
 have e:=Lj k s i;rw[h] at e;refine Hn k s ?_;have h1:1<=5^s:=Nat.one_le_pow _ _ (by simp);have a:2^(k+2)∣(5^s-1)*(4*i+1):=by rw[Nat.sub_mul,NI];exact Nat.dvd_of_mod_eq_zero (Nat.sub_mod_eq_zero_of_mod_eq e.symm)
 have b:Nat.Coprime (2^(k+2)) (4*i+1):=by
  apply Nat.Coprime.pow_left;show Nat.gcd 2 (4*i+1)=1;rw[Nat.gcd_rec];have:(4*i+1)%2=1:=by lia
  simp_all
 obtain⟨q,c⟩:=b.dvd_of_dvd_mul_right a;have:5^s=1+2^(k+2)*q:=by lia
 simp_all
theorem Ud(k:Nat)(e:i<2^k)(d:a<2^k)(c:b<2^k)(h:Dv (2^k) a i=Dv (2^k) b i):a=b:=by
 have one:∀a b,a<=b->b<2^k->Dv (2^k) a i=Dv (2^k) b i->a=b:=fun a b f c h=>by
  obtain⟨s,rfl⟩:∃s,b=a+s:=⟨b-a,by lia⟩;rw[Li] at h;have:=QF k h.symm;have:s=0:=by
   rcases xN s with z|z
   .exact z
   .exact az (Nat.le_of_dvd z this) (by lia)
  lia
 rcases Nat.le_total a b with q|q
 .exact one a b q c h
 .exact(one b a q d h.symm).symm
section
open PySem.SetTable
def Sw(a:Nat)(p:Probe):Probe:=
 if p.more>0 then{p with j:=p.j+1,more:=p.more-1} else{p with j:=(leap a p.i p.perturb).1,more:=runEnd a (leap a p.i p.perturb).1-(leap a p.i p.perturb).1,i:=(leap a p.i p.perturb).1,perturb:=(leap a p.i p.perturb).2}
theorem uE(t:U0)(p:Probe):t.advance p=Sw t.mask p:=by rfl
def lp(a i r:Nat):Probe:={j:=i,more:=runEnd a i-i,i:=i,perturb:=r,dummy:=ae}
def ps(a:Nat)(h:Int):Nat->Probe|0=>lp a (bits h%(a+1)) (bits h)|m+1=>Sw a (ps a h m)
def q(a:Nat)(h:Int)(m:Nat):Nat:=(ps a h m).j
theorem tm{a i:Nat}(b:i<=a):runEnd a i<=a/\i<=runEnd a i/\runEnd a i-i<=9:=by unfold runEnd;split<;>lia
theorem QG(a:Nat)(h:Int):∀m,(ps a h m).dummy=ae/\(ps a h m).j+(ps a h m).more<=a
 |0=>by have b:bits h%(a+1)<=a:=mh (mQ _ (kR _));have:=tm b;refine⟨Z,?_⟩;show bits h%(a+1)+(runEnd a (bits h%(a+1))-bits h%(a+1))<=a;lia
 |m+1=>by
  obtain⟨h1,c⟩:=QG a h m;show(Sw a (ps a h m)).dummy=ae/\(Sw a (ps a h m)).j+(Sw a (ps a h m)).more<=a;unfold Sw;split
  .exact⟨h1,by show(ps a h m).j+1+((ps a h m).more-1)<=a;lia⟩
  .refine⟨h1,?_⟩;have:=tm (mh (mQ _ (kR _)):(leap a (ps a h m).i (ps a h m).perturb).1<=a);simp_all
theorem Ue(a:Nat)(h:Int)(m:Nat):q a h m<=a:=by have:=(QG a h m).2;unfold q;lia
theorem JB{a:Nat}(e:ps a h m=lp a i r):∀d,d<=runEnd a i-i->ps a h (m+d)={lp a i r with j:=i+d,more:=runEnd a i-i-d}|0,_=>e|d+1,hd=>by show Sw a (ps a h (m+d))=_;rw[(JB e d (by lia))];dsimp only[Sw];rw[ai (by show runEnd a i-i-d>0;lia),wH,Nat.sub_sub (runEnd a i-i) d 1]
theorem Lk{a:Nat}(e:ps a h m=lp a i r):ps a h (m+(runEnd a i-i)+1)=lp a (leap a i r).1 (leap a i r).2:=by have:=JB e _ (aQ _);show Sw a (ps a h (m+(runEnd a i-i)))=_;rw[this];unfold Sw;rw[ak (by show ¬runEnd a i-i-(runEnd a i-i)>0;simp)];rfl
def ls(a:Nat)(h:Int):Nat->Nat×Nat|0=>(bits h%(a+1),bits h)|n+1=>leap a (ls a h n).1 (ls a h n).2
theorem Ll(a:Nat)(h:Int):∀n,(ls a h n).1<=a|0=>mh (mQ _ (kR _))|_+1=>mh (mQ _ (kR _))
theorem VY(a:Nat)(h:Int):∀n,∃m,m<=10*n/\ps a h m=lp a (ls a h n).1 (ls a h n).2|0=>⟨0,aQ _,Z⟩|n+1=>by obtain⟨m,b,e⟩:=VY a h n;have:=(tm (Ll a h n)).2.2;exact⟨_,by lia,Lk e⟩
theorem Ug(h:Int):bits h<2^64:=by unfold bits;lia
theorem Lm(a:Nat)(h:Int):∀n,(ls a h n).2=bits h/32^n
 |0=>by show bits h=bits h/1;rw[Nat.div_one]
 |n+1=>by show(ls a h n).2/32=_;rw[Lm a h n,Kp,jN]
theorem JC(a:Nat)(h:Int):∀s,(ls a h (12+s)).1=Dv (a+1) s (ls a h 12).1
 |0=>rfl
 |s+1=>by
  show((ls a h (12+s)).1*5+1+(ls a h (12+s)).2/32)%(a+1)=(Dv (a+1) s (ls a h 12).1*5+1)%(a+1);have e:(ls a h (12+s)).2/32=0:=by rw[Lm,Kp,<-jN];apply Nat.div_eq_of_lt;refine bN (Ug h) ?_;have:32^13<=32^(12+s+1):=u7 (by simp) (by simp);exact bY (by decide) this
  rw[e,JC a h s,sL]
theorem sub_len{b:Type}[DecidableEq b]:∀(l p:List b),l.Nodup->(∀x∈l,x∈p)->l.length<=p.length|[],p,_,_=>cg _|a::l,p,h,hs=>by have c:=hs a aT;obtain⟨h1,e⟩:=c8.mp h;have:=sub_len l (p.erase a) e fun x d=>(L6 (fun z:x=a=>h1 (by rw[<-z];exact d))).mpr (hs x (aO _ d));rw[FR c] at this;have f:=l5 c;show l.length+1<=p.length;lia
theorem meet{c:Nat}(hk:c+1=2^k)(h:Int)(d:List Nat)(hn:d.length<2^k):∃s,s<=d.length/\(ls c h (12+s)).1∉d:=by
 apply fu;intro e;have nd:((List.range (d.length+1)).map fun s=>(ls c h (12+s)).1).Nodup:=by refine gj.mpr ((lb.mp dS).imp fun{a b} f=> ?_);obtain⟨g,i,ne⟩:=f;have j:=bU.mp g;have m:=bU.mp i;rw[JC,JC,hk];exact fun z=>ne (Ud k (by have:=Ll c h 12;lia) (by lia) (by lia) z)
 have:=sub_len _ d nd fun x l=>by obtain⟨s,hs,rfl⟩:=bK.mp l;exact(fun s hs=>fu fun z=>e ⟨s,hs,z⟩) s (by have:=bU.mp hs;lia)
 rw[aE,bG] at this;lia
theorem least[DecidablePred p]:∀{B:Nat},(∃m,m<=B/\p m)->∃m,m<=B/\p m/\∀a<m,¬p a
 |B,⟨m,c,d⟩=>by
  induction m using WD with
  |ind m e=>
   by_cases q:∃a,a<m/\p a
   .obtain⟨a,h1,b⟩:=q;exact e a h1 (by lia) b
   .exact⟨m,c,d,fun a h1 b=>q ⟨a,h1,b⟩⟩
theorem AF{a:Nat}(hk:a+1=2^k)(h:Int)(b:List Nat)(hn:b.length<2^k):∃m,m<=10*(12+b.length)/\q a h m∉b/\∀c<m,q a h c∈b:=by obtain⟨s,hs,d⟩:=meet hk h b hn;obtain⟨m,j,e⟩:=VY a h (12+s);have:∃m,m<=10*(12+b.length)/\q a h m∉b:=⟨m,by lia,by unfold q;rw[e];exact d⟩;obtain⟨m,h1,f,g⟩:=least this;exact⟨m,h1,f,fun c i=>fu (g c i)⟩
end
section
open PySem.SetTable
structure Tab t(es:Array (Int×bj)):Prop where
 good:iC.Good t
 size:t.place.size=es.size
 le:∀j∈t.place.toList,j<=t.mask
 pow:∃k,3<=k/\t.mask+1=2^k
 path:∀(i j:Nat) e,t.place[i]? =aa j->es[i]? =aa e->∃m,q t.mask e.1 m=j/\∀m'<m,q t.mask e.1 m'∈t.place.toList
theorem tq(g:iC.Good t)(h:t.place[i]? =aa j):t.slot j= .live i:=by
 obtain⟨c,e⟩:=Array.getElem?_eq_some_iff.mp h;obtain⟨h1,d,f⟩:=iC.nI t.place j g.rise;have k:dA t.place j=i:=by
  rcases Nat.lt_trichotomy (dA t.place j) i with z|z|z
  .have a:=f (dA t.place j) (by lia) (aQ _);have b:=iC.vA g.rise (by simp;lia) (by simp;assumption) z;simp only[ku] at b;lia
  .exact z
  .have a:=d i c z;lia
 unfold tU;rw[k,ai (by rw[h];simp)]
theorem QH(g:iC.Good t)(h:j∉t.place.toList):t.slot j= .empty:=by
 dsimp only[tU];rw[ak (fun z=>h ?_),g.Vu,iC.za]
 .rfl
 .exact fU.mpr (sM (by simpa using z))
section
theorem Ho(T:Tab t es)(hh:∀(i:Nat) e,es[i]? =aa e->hashAt i=e.1):∀(n c m:Nat),(∀d,m<=d->d<m+n->∃(i:Nat) (e:Int×bj),t.place[i]? =aa (q t.mask h d)/\es[i]? =aa e/\e.1≠h)->q t.mask h (m+n)∉t.place.toList->n<c->
  probe.go t hashAt h c (ps t.mask h m)=aa (.empty (q t.mask h (m+n)) ae)
 |0,c+1,m,_,f,_=>by
  rw[sL] at f⊢
  dsimp only[probe.go]
  rw[show(ps t.mask h m).j=q t.mask h m from rfl,QH T.good f,(QG t.mask h m).1]
  rfl
 |n+1,c+1,m,g,f,o=>by
  obtain⟨i,e,h1,k,l⟩:=g m (aQ _) (by simp)
  dsimp only[probe.go]
  rw[show(ps t.mask h m).j=q t.mask h m from rfl,tq T.good h1]
  dsimp only
  rw[hh i e k,ak (by simpa using l),uE]
  have:=Ho T hh n c (m+1) (fun d a b=>g d (by lia) (by lia)) (by rw[show m+1+n=m+(n+1) by lia];exact f) (by lia)
  exact(show m+1+n=m+(n+1) by lia)▸this
theorem EV(T:Tab t es)(hh:∀(i:Nat) e,es[i]? =aa e->hashAt i=e.1):∀(n c m:Nat),(∀d,m<=d->d<m+n->∃(i:Nat) (e:Int×bj),t.place[i]? =aa (q t.mask h d)/\es[i]? =aa e/\e.1≠h)->
  t.place[i]? =aa (q t.mask h (m+n))->es[i]? =aa e->e.1=h->n<c->probe.go t hashAt h c (ps t.mask h m)=aa (.candidate (q t.mask h (m+n)) i (ps t.mask h (m+n+1)))
 |0,c+1,m,_,f,g,k,_=>by
  dsimp only[sL] at f⊢
  dsimp only[probe.go]
  rw[show(ps t.mask h m).j=q t.mask h m from rfl,tq T.good f]
  dsimp only
  rw[hh i e g,ai (by simpa using k),uE]
  rfl
 |n+1,c+1,m,l,f,g,k,u=>by
  obtain⟨o,p,h1,r,s⟩:=l m (aQ _) (by simp)
  dsimp only[probe.go]
  rw[show(ps t.mask h m).j=q t.mask h m from rfl,tq T.good h1]
  dsimp only
  rw[hh o p r,ak (by simpa using s),uE]
  have:=EV T hh n c (m+1) (fun d a b=>l d (by lia) (by lia)) (by rw[show m+1+n=m+(n+1) by lia];exact f) g k (by lia)
  exact(show m+1+n=m+(n+1) by lia)▸this
end
theorem sO{a:Type}(xs:Array a)(p:Nat)(x:a)(c:p<=xs.size)(i:Nat):(fy xs p x)[i]? =if i<p then xs[i]? else if i=p then aa x else xs[i-1]? :=by
 rw[<-eV,iL,List.getElem?_append,bA,bO,n_ c];split
 .rename_i h;rw[FN h,eV]
 .rename_i h;split
  .rename_i b;subst b;rw[i7];rfl
  .rename_i b;obtain⟨d,hd⟩:∃d,i-p=d+1:=⟨i-p-1,by lia⟩;rw[hd,hE,wF,eV];congr 1;lia
theorem Uh(T:Tab t es)(w:q t.mask h m∉t.place.toList)(y:∀g<m,q t.mask h g∈t.place.toList):
  Tab (t.put (q t.mask h m)).1 (fy es (t.put (q t.mask h m)).2 (h,x))/\(fy es (t.put (q t.mask h m)).2 (h,x)).toList.Perm ((h,x)::es.toList)/\(t.put (q t.mask h m)).1.mask=t.mask:=by
 obtain⟨A,F,G⟩:=iC.nI t.place (q t.mask h m) T.good.rise
 have hs:=T.size
 have B:(t.put (q t.mask h m)).2=dA t.place (q t.mask h m):=rfl
 have p:(t.put (q t.mask h m)).1.place=fy t.place (dA t.place (q t.mask h m)) (q t.mask h m):=rfl
 have r:(t.put (q t.mask h m)).1.mask=t.mask:=rfl
 have C:(t.put (q t.mask h m)).1.dummies= #[]:=by
  unfold U0.put
  dsimp only
  rw[T.good.Vu,iC.za]
  rfl
 have s:∀j,j∈(t.put (q t.mask h m)).1.place.toList↔j∈t.place.toList\/j=q t.mask h m:=fun j=>by
  rw[p,iL,cN,aZ]
  conv=>rhs;rw[<-d5 (dA t.place (q t.mask h m)) t.place.toList,cN]
  constructor
  .rintro(z|z|z)
   .exact .inl (.inl z)
   .exact .inr z
   .exact .inl (.inr z)
  .rintro((z|z)|z)
   .exact .inl z
   .exact .inr (.inr z)
   .exact .inr (.inl z)
 refine⟨⟨⟨by rw[p];exact iC.xW T.good.rise (fun z=>w (fU.mpr (sM z))),C⟩,?_,fun j D=> ?_,by rw[r];exact T.pow,fun i j e h1 f=> ?_⟩,?_,r⟩
 .simp_all [fy,bO,iL,aG,aK,bA,cz]
 .rcases(s j).mp D with z|z
  .exact T.le j z
  .rw[z];exact Ue _ _ _
 .rw[r]
  rw[p,sO _ _ _ A] at h1
  rw[B,sO _ _ _ (by lia)] at f
  have l:∀o,t.place[o]? =aa j->es[o]? =aa e->∃n,q t.mask e.1 n=j/\∀g<n,q t.mask e.1 g∈(t.put (q t.mask h m)).1.place.toList:=fun o a b=>by
   obtain⟨E,c,d⟩:=T.path o j e a b
   exact⟨E,c,fun g u=>(s _).mpr (.inl (d g u))⟩
  split at h1
  .rename_i v
   rw[ai v] at f
   exact l i h1 f
  .rename_i v
   rw[ak v] at f
   split at h1
   .rename_i k
    rw[ai k] at f
    cases h1
    cases f
    exact⟨m,Z,fun g u=>(s _).mpr (.inl (y g u))⟩
   .rename_i k
    rw[ak k] at f
    exact l (i-1) h1 f
 .rw[iL]
  refine zr.trans ?_
  rw[d5]
end
section
open PySem.SetTable
def itl(a:Nat):Nat->Nat×Nat->Nat×Nat|0,p=>p|n+1,p=>itl a n (leap a p.1 p.2)
theorem QI(b:Nat)(h:Int):∀(n a:Nat),itl b n (ls b h a)=ls b h (a+n)|0,a=>rfl|n+1,a=>by show itl b n (ls b h (a+1))=_;rw[QI b h n (a+1)];congr 1;lia
theorem Dw{f:Nat}(hs:owner.size=f+1):∀(g m i r:Nat),ps f h m=lp f i r->i<=f->(∃s,s<g/\owner[(itl f s (i,r)).1]? =aa ae)->
  ∃M,m<=M/\layClean.free f owner g i r=aa (q f h M)/\owner[q f h M]? =aa ae/\∀j,m<=j->j<M->∃k,owner[q f h j]? =aa (aa k)
 |0,m,i,r,_,_,⟨s,o,_⟩=>az o (nZ _)
 |g+1,m,i,r,e,t,⟨s,o,hn⟩=>by
  obtain⟨z,A,B⟩:=tm t
  have at_:∀d,d<=runEnd f i-i->q f h (m+d)=i+d:=fun d hd=>by unfold q;rw[JB e d hd]
  have l:∀d,d<=runEnd f i-i->((owner.getD (i+d) (aa 0)).isNone=af↔owner[i+d]? =aa ae)/\((owner.getD (i+d) (aa 0)).isNone=ag->∃k,owner[i+d]? =aa (aa k)):=fun d hd=>by
   have u:i+d<owner.size:=by lia
   rw[fW,bT u]
   cases owner[i+d]<;>simp
  unfold layClean.free
  cases n:(List.range (runEnd f i+1-i)).find? (fun k=>(owner.getD (i+k) (aa 0)).isNone) with
  |some d=>
   have hd:d<=runEnd f i-i:=by have:=bU.mp (kQ n);lia
   have h1:=U8 n
   refine⟨m+d,rn _ _,by rw[at_ d hd],by rw[at_ d hd];exact(l d hd).1.mp h1,fun j a b=> ?_⟩
   obtain⟨d',rfl⟩:∃d',j=m+d':=⟨j-m,by lia⟩
   rw[at_ d' (by lia)]
   refine(l d' (by lia)).2 ?_
   simp_all
  |none=>
   dsimp only
   have p:=wG.mp n
   cases s with
   |zero=>
    exfalso
    have:=p 0 (bU.mpr (by lia))
    exact this ((l 0 (cg _)).1.mpr hn)
   |succ s=>
    obtain⟨M,C,v,w,x⟩:=Dw hs g (m+(runEnd f i-i)+1) (leap f i r).1 (leap f i r).2 (Lk e) (mh (mQ _ (kR _))) ⟨s,by lia,hn⟩
    refine⟨M,by lia,v,w,fun j b c=> ?_⟩
    by_cases D:j<=m+(runEnd f i-i)
    .obtain⟨d',rfl⟩:∃d',j=m+d':=⟨j-m,by lia⟩
     rw[at_ d' (by lia)]
     refine(l d' (by lia)).2 ?_
     have:=p d' (bU.mpr (by lia))
     cases y:(owner.getD (i+d') (aa 0)).isNone with
     |false=>rfl
     |true=>exact az y this
    .exact x j (by lia) c
structure Lay mask(hs:List Int)(owner:Array (Option Nat))(sl:List Nat):Prop where
 size:owner.size=mask+1
 len:sl.length=hs.length
 nd:sl.Nodup
 le:∀j∈sl,j<=mask
 own:∀(j k:Nat),owner[j]? =aa (aa k)↔sl[k]? =aa j
 path:∀(k:Nat) h j,hs[k]? =aa h->sl[k]? =aa j->∃m,q mask h m=j/\∀m'<m,q mask h m'∈sl
theorem Lay.free{a:Nat}(L:Lay a hs owner sl)(c:j<=a):owner[j]? =aa ae↔j∉sl:=by
 have b:j<owner.size:=by rw[L.size];lia
 constructor
 .intro h z;obtain⟨k,hk,e⟩:=eG.mp z;have:=(L.own j k).mpr (by simp_all);rw[h] at this;cases this
 .intro h;rw[bT b];cases e:owner[j] with|none=>rfl|some k=>exfalso;have:=(L.own j k).mp (by simp_all);exact h (bC this)
theorem QJ{r e:Nat}(hk:e+1=2^r)(L:Lay e hs owner sl)(h:Int)(C:hs.length<e):
  ∃j,layClean.free e owner (turns e) (bits h%(e+1)) (bits h)=aa j/\Lay e (hs++[h]) (owner.setIfInBounds j (aa hs.length)) (sl++[j]):=by
 obtain⟨s,h1,t⟩:=meet hk h sl (by rw[L.len,<-hk];lia)
 have hl:=L.len
 obtain⟨M,_,u,v,w⟩:=Dw L.size (turns e) 0 (bits h%(e+1)) (bits h) Z (Ll e h 0) ⟨12+s,by unfold turns;lia,by
  have:=QI e h (12+s) 0
  rw[i8] at this
  show owner[(itl e (12+s) (ls e h 0)).1]? =aa ae
  rw[this]
  exact(L.free (Ll e h _)).mpr t⟩
 have p:=(L.free (Ue e h M)).mp v
 refine⟨q e h M,u,⟨by rw[Array.size_setIfInBounds];exact L.size,by rw[aG,aG,hl];rfl,?_,fun j z=> ?_,fun j k=> ?_,fun k h' j l f=> ?_⟩⟩
 .refine hG.mpr ⟨L.nd,c8.mpr ⟨by simp,fh⟩,fun a x b y=> ?_⟩
  exact(a0.mp y)▸(fun z=>p (z▸x))
 .rcases cN.mp z with z|z
  .exact L.le j z
  .rw[a0.mp z];exact Ue _ _ _
 .rw[Array.getElem?_setIfInBounds]
  by_cases g:q e h M=j
  .subst g
   rw[ai Z,ai (by rw[L.size];have:=Ue e h M;lia)]
   constructor
   .intro z
    cases z
    rw[<-hl,cM (aQ _),i7]
    rfl
   .intro z
    by_cases i:k<sl.length
    .rw[cH i] at z
     exact az (bC z) p
    .have:k=sl.length:=by
      rw[cM (by lia)] at z
      have:=(aV.mp z).1
      simp at this
      lia
     rw[this,hl]
  .rw[ak g,L.own]
   constructor
   .intro z
    rwa [cH (aV.mp z).1]
   .intro z
    by_cases i:k<sl.length
    .exact(cH i)▸z
    .rw[cM (by lia)] at z
     obtain⟨D,E⟩:=aV.mp z
     simp_all
 .by_cases i:k<sl.length
  .rw[cH i] at f
   rw[cH (by lia)] at l
   obtain⟨m,c,d⟩:=L.path k h' j l f
   exact⟨m,c,fun n o=>gQ _ (d n o)⟩
  .have A:k=sl.length:=by
    have:=(aV.mp f).1
    rw[aG,Kf] at this
    lia
   subst A
   rw[cM (aQ _),i7] at f
   rw[hl,cM (aQ _),i7] at l
   cases l
   cases f
   refine⟨M,Z,fun n o=>gQ _ ?_⟩
   obtain⟨k,B⟩:=w n (cg _) o
   exact bC ((L.own _ k).mp B)
end
section
open PySem.SetTable
theorem vT{g a:Nat}(hk:a+1=2^g):∀(b hs:List Int) (owner:Array (Option Nat)) (c:List Nat),Lay a hs owner c->hs.length+b.length<=a->
  ∃f sl',b.foldl (init:=aa (owner,hs.length)) (fun d h=>do
   let (owner,k)<-d
   let j<-layClean.free a owner (turns a) (bits h%(a+1)) (bits h)
   pure (owner.setIfInBounds j (aa k),k+1))=aa (f,(hs++b).length)/\Lay a (hs++b) f sl'
 |[],hs,owner,c,L,_=>⟨owner,c,by simp,by simpa using L⟩
 |h::b,hs,owner,c,L,i=>by
  have o:hs.length+(b.length+1)<=a:=i
  obtain⟨j,p,l⟩:=QJ hk L h (by lia)
  obtain⟨m,n,e,L2⟩:=vT hk b (hs++[h]) _ _ l (by rw[aG];show hs.length+1+b.length<=a;lia)
  refine⟨m,n,?_,by simp_all⟩
  simp_all
theorem Ui(a:Nat):Lay a [] (Array.replicate (a+1) ae) []:=by refine⟨Array.size_replicate,Z,fh,fun j h=>(nomatch h),fun j k=> ?_,fun k h j e=>(nomatch e)⟩;simp[Array.getElem?_replicate]
theorem Hq{d a:Nat}(hk:a+1=2^d)(hs:Array Int)(f:hs.size<=a):∃owner b,layClean a hs=aa owner/\Lay a hs.toList owner b:=by obtain⟨o,b,e,L⟩:=vT hk hs.toList [] _ _ (Ui a) (by simp_all);refine⟨o,b,?_,by simp_all⟩;unfold layClean;rw[<-Array.foldl_toList];have c:=e;simp only[bQ,dR] at c;rw[c];rfl
theorem Uj{F n u moves:Nat}{led v:Bool}(S:3<=F)(hk:n+1=2^F)(g:Array (Int×bj))(hr:g.size<=n):
  ∃t order,laid n u moves led v (g.map (·.1))=aa (t,order)/\(order.filterMap (g[·]?)).size=g.size/\Tab t (order.filterMap (g[·]?))/\(order.filterMap (g[·]?)).toList.Perm g.toList/\t.mask=n/\t.led=led/\t.moves=moves:=by
 obtain⟨owner,C,e,L⟩:=Hq hk (g.map (·.1)) (by simp_all)
 have s:C.length=g.size:=by rw[L.len];simp
 have N:=fun j k=>L.own j k
 have w:∀j k,(j,k)∈((List.range (n+1)).filterMap fun j=>(owner.getD j ae).map (j,·))↔C[k]? =aa j:=fun j k=>by
  rw[lx]
  constructor
  .rintro⟨O,G,A⟩
   have D:O<owner.size:=by rw[L.size];exact bU.mp G
   rw[fW,bT D,jk] at A
   cases ho:owner[O] with
   |none=>rw[ho] at A;cases A
   |some P=>
    rw[ho] at A
    cases A
    exact(N j k).mp (by simp_all)
  .intro z
   have T:=L.le j (bC z)
   have:=(N j k).mpr z
   exact⟨j,bU.mpr (by lia),by rw[fW,this];rfl⟩
 have H:iC.yy (((List.range (n+1)).filterMap fun j=>(owner.getD j ae).map (j,·)).map (·.1)):=iC.nJ _ (fun j=>owner.getD j ae) (iC.uy _)
 refine⟨_,_,by unfold laid;rw[e];rfl,?_⟩
 generalize U:((List.range (n+1)).filterMap fun j=>(owner.getD j ae).map (j,·))=f at w H
 have y:((f.map (·.2)).toArray.filterMap (g[·]?)).toList=f.map fun p=>(g[p.2]?).getD (0, .none):=by
  rw[Array.toList_filterMap,List.filterMap_map]
  have:∀(l:List (Nat×Nat)),(∀p∈l,p.2<g.size)->l.filterMap ((fun x=>g[x]?)∘(·.2))=l.map fun p=>(g[p.2]?).getD (0, .none):=fun l=>by
   induction l with
   |nil=>intro _;rfl
   |cons p r V=>
    intro o
    have h1:=o p aT
    rw[qb (by show g[p.2]? =_;exact bT h1),b5,V fun x W=>o x (aO _ W),bT h1]
    rfl
  refine this f fun p o=> ?_
  have:=(w p.1 p.2).mp o
  rw[<-s]
  exact(aV.mp this).1
 have I:f.Nodup:=by
  have:(f.map (·.1)).Nodup:=H.imp fun h=>b9 h
  exact(gj.mp this).imp fun h z=>h (by rw[z])
 have J:(f.map (·.2)).Nodup:=by
  refine gj.mpr ((lb.mp I).imp fun{a b} Mz=> ?_)
  grind
 have Q:(f.map (·.2)).Perm (List.range g.size):=by
  refine(oS J dS).mpr fun k=> ?_
  rw[bK,bU]
  constructor
  .rintro⟨p,o,rfl⟩
   have:=(w p.1 p.2).mp o
   rw[<-s]
   exact(aV.mp this).1
  .intro R
   have X:k<C.length:=by lia
   exact⟨(C[k],k),(w _ _).mpr (aP X),Z⟩
 have Tn:f.length=g.size:=by
  have:=Q.length_eq
  rw[aE,bG] at this
  exact this
 have hsz:((f.map (·.2)).toArray.filterMap (g[·]?)).size=g.size:=by rw[<-bO,y,aE,Tn]
 refine⟨hsz,⟨⟨by simpa using H,Z⟩,?_,fun j T=> ?_,⟨F,S,hk⟩,fun i j A h1 E=> ?_⟩,?_,Z,Z,Z⟩
 .rw[hsz]
  simp[Tn]
 .have G:j∈f.map (·.1):=by lia
  obtain⟨p,o,rfl⟩:=bK.mp G
  exact L.le _ (bC ((w p.1 p.2).mp o))
 .have B:(f.map (·.1))[i]? =aa j:=by simp_all
  rw[<-eV,y] at E
  rw[bp] at B E
  cases o:f[i]? with
  |none=>rw[o] at B;cases B
  |some p=>
   rw[o] at B E
   cases B
   cases E
   have hs:=(w p.1 p.2).mp (bC o)
   have D:p.2<g.size:=by rw[<-s];exact(aV.mp hs).1
   have hh:(g.map (·.1)).toList[p.2]? =aa g[p.2].1:=by simp[D]
   obtain⟨m,c,d⟩:=L.path p.2 _ p.1 hh hs
   refine⟨m,?_,fun K Y=> ?_⟩
   .simp_all
   .dsimp only
    rw[bT D]
    obtain⟨P,R,M⟩:=eG.mp (d K Y)
    have:(q n g[p.2].1 K,P)∈f:=(w _ _).mpr (by rw[aP R,M])
    have:q n g[p.2].1 K∈f.map (·.1):=bK.mpr ⟨_,this,Z⟩
    simpa using this
 .rw[y]
  have e1:(f.map fun p=>(g[p.2]?).getD (0,bj.none))=(f.map (·.2)).map fun k=>(g[k]?).getD (0, .none):=by rw[dI];rfl
  rw[e1]
  refine(Q.map _).trans ?_
  have M:(List.range g.size).map (fun k=>(g[k]?).getD (0,bj.none))=g.toList:=by
   apply fF
   intro i
   rw[bp]
   by_cases hi:i<g.size
   .simp_all
   simp_all
  rw[M]
theorem uc:∀(a s n:Nat) (k:Nat),s=2^k->3<=k->∃b,3<=b/\sizeAbove.go n a s=2^b
 |0,s,n,k,e,h=>⟨k,h,e⟩
 |a+1,s,n,k,e,h=>by
  unfold sizeAbove.go;split
  .exact uc a (s*2) n (k+1) (by rw[e,jN]) (by lia)
  .exact⟨k,h,e⟩
theorem vU:∀(a s n:Nat),n<s*2^a->n<sizeAbove.go n a s
 |0,s,n,h=>by simp_all [sizeAbove.go]
 |a+1,s,n,h=>by
  dsimp only[sizeAbove.go];split
  .exact vU a (s*2) n (by simp_all [jN,wI,y3])
  .lia
theorem vW:∀(a s n:Nat),s<=2*n+8->sizeAbove.go n a s<=2*n+8
 |0,s,n,h=>h
 |a+1,s,n,h=>by
  dsimp only[sizeAbove.go];split
  .exact vW a (s*2) n (by lia)
  .exact h
theorem Uk(n:Nat)(hn:n<100000):∃k,3<=k/\sizeAbove n-1+1=2^k/\n<=sizeAbove n-1/\sizeAbove n<=2*n+8:=by obtain⟨k,a,e⟩:=uc 64 8 n 3 rfl (by simp);have h1:=vU 64 8 n (bN hn (by decide));unfold sizeAbove;exact⟨k,a,by rw[<-e];lia,by lia,vW 64 8 n (by simp)⟩
end
section
open PySem.SetTable
section
variable {K:Type} [DecidableEq K] (knd:KeyKind prog w K)
def ent(x:List K×Addr):Int×bj:=(b4 knd x.1, .ref x.2)
structure TS(h:Heap) S(xs:List (List K×Addr)) o es ep t:Prop where
 ho:h.get? S=aa o
 ex:o.ExactSet
 dat:o.data= .set es ep t
 tab:Tab t es
 room:es.size*5<t.mask*3
 qk:es.size<4096
 perm:es.toList.Perm (xs.map (ent knd))
 nd:(xs.map (·.1)).Nodup
 key:∀x∈xs,g9 knd h x.1 x.2
def vn(h:Heap)(S:Addr)(ks:List (List K)):Prop:=∃xs o a b t,xs.map (·.1)=ks/\TS knd h S xs o a b t
end
section
variable {K:Type} [DecidableEq K] {knd:KeyKind prog w K}
theorem TS.fits(x:TS knd h S xs o es ep t):t.fits es.size=true:=by have a:=x.room;unfold U0.fits BA;rw[x.tab.size,x.tab.good.Vu];simp;lia
theorem Hr(hk:g9 knd s.heap k a)(h:Q ag s):bL (model prog w) A (Cw 8 (.ref a)) Q E s:=by
 have g:=hk.typeIs;obtain⟨o,c,n,ho,l,hd,i⟩:=hk;unfold Cw;refine aF (u5 g ?_);dsimp only[beq_self_eq_true,if_true];refine aF (aU ?_);simp only[wy,dG,if_false];refine aF (eY ho hd (aF ?_));rw[<-NJ];refine tT _ (fun b r d=>r.1=ae/\d=s/\∀v∈b,mS v=af) _ ?_ ?_ _ _ ⟨Z,Z,i.byValue⟩
 .rintro v b r d ⟨e,rfl,f⟩;have hv:Cw 7 v=pure false:=by have:=f v aT;cases v with|ref a=>simp[mS] at this|_=>rfl
  rw[hv];refine aF (aU ?_);simp only[dG,if_false];exact aU ⟨Z,Z,fun u j=>f u (aO _ j)⟩
 .rintro⟨m,p⟩ d ⟨e,rfl,_⟩;simp only at e;subst e;exact aU h
theorem Yc{c:List bj}(hk:g9 knd s.heap k a)(hs:∀y∈c,∃e b,y= .ref b/\g9 knd s.heap e b)(h:Q ag s):bL (model prog w) A (ZH (.ref a) c) Q E s:=by
 refine aF ?_;refine tT _ (fun d r f=>r.1=ae/\f=s/\∀y∈d,∃e b,y= .ref b/\g9 knd s.heap e b) _ ?_ ?_ _ _ ⟨Z,Z,hs⟩
 .rintro y d r f ⟨g,rfl,j⟩;obtain⟨e,b,rfl,l⟩:=j y aT;have m:=fun u o=>j u (aO _ o);dsimp only;have i:(mS (bj.ref a)&&mS (bj.ref b))=false:=rfl;rw[i,YW];by_cases n:(a==b)=af
  .rw[ai n];exact aU ⟨Z,Z,m⟩
  .rw[ak n];refine aF (SN hk ?_);simp only[wy,dG,if_false];refine aF (SN l ?_);simp only[wy,dG,if_false];refine aF (Hr hk ?_);simp only[dG,if_false];refine aF (Hr l ?_);simp only[dG,if_false];exact aU ⟨Z,Z,m⟩
 .rintro⟨p,q⟩ f ⟨g,rfl,_⟩;simp only at g;subst g;exact aU h
end
end
section
open PySem.SetTable
section
variable {K:Type} [DecidableEq K] {knd:KeyKind prog w K}
theorem TS.at_(x:TS knd h S xs o es ep t)(c:j∈t.place.toList):
  ∃(i:Nat) (y:List K×Addr),t.place[i]? =aa j/\es[i]? =aa (ent knd y)/\y∈xs:=by
 obtain⟨i,d,e⟩:=eG.mp c
 have b:i<t.place.size:=by exact d
 have a:i<es.size:=by rw[<-x.tab.size];exact b
 obtain⟨y,f,g⟩:=bK.mp (x.perm.mem_iff.mp (fU.mpr (Array.getElem_mem a)))
 exact⟨i,y,by rw[bT b];simpa using e,by simp_all,f⟩
theorem x6(x:TS knd s.heap S xs o es ep t)(hk:g9 knd s.heap k a)(hu:A.units<ly)(T:Nat)
  (hT:∀r<T,q t.mask (b4 knd k) r∈t.place.toList) (J:T<10*turns t.mask)
  (W:(q t.mask (b4 knd k) T∉t.place.toList/\Q (.free (q t.mask (b4 knd k) T) ag) s)\/(∃(i:Nat) (y:List K×Addr),t.place[i]? =aa (q t.mask (b4 knd k) T)/\es[i]? =aa (ent knd y)/\y∈xs/\y.1=k))
  (C5:(∃y∈xs,y.1=k)->Q (.there ae) s):
  ∀(n b m:Nat) (st:Option Probe),st.getD (t.probeStart (b4 knd k))=ps t.mask (b4 knd k) m->T-m=n->m<=T->n<b->
   bL (model prog w) A (oo S (.ref a) (b4 knd k) af b st) Q E s:=by
 intro n
 induction n using WD with
 |ind n ih=>
  intro b m st mW hn hm hf
  obtain⟨b,rfl⟩:∃f,b=f+1:=⟨b-1,by omega⟩
  have L:t.gaveWay=false:=by
   obtain⟨kk,j,e⟩:=x.tab.pow
   unfold U0.gaveWay
   have:2^kk=2*2^(kk-1):=by rw[<-Nat.pow_succ'];congr 1;omega
   have:t.mask%2=1:=by omega
   simp_all
  unfold oo
  refine aF (fg x.ho x.dat x.fits ?_)
  dsimp only
  rw[L,mW]
  simp only[dG,if_false]
  refine aF (aU ?_)
  haveI:DecidablePred fun d=>(m+d=T\/∃(i:Nat) (y:List K×Addr),t.place[i]? =aa (q t.mask (b4 knd k) (m+d))/\es[i]? =aa (ent knd y)/\y∈xs/\b4 knd y.1=b4 knd k):=fun _=>Classical.propDecidable _
  obtain⟨d,hd,M,Mr⟩:=least (⟨T-m,aQ _, .inl (by omega)⟩:∃d,d<=T-m/\(m+d=T\/∃(i:Nat) (y:List K×Addr),t.place[i]? =aa (q t.mask (b4 knd k) (m+d))/\es[i]? =aa (ent knd y)/\y∈xs/\b4 knd y.1=b4 knd k))
  have g:∀r,m<=r->r<m+d->∃(i:Nat) (e:Int×bj),t.place[i]? =aa (q t.mask (b4 knd k) r)/\es[i]? =aa e/\e.1≠b4 knd k:=fun r D B=>by
   obtain⟨i,y,h1,h,j⟩:=x.at_ (hT r (by omega))
   refine⟨i,_,h1,h,fun z=>Mr (r-m) (by omega) (.inr ⟨i,y,?_,h,j,z⟩)⟩
   simp_all
  have u:∀(i:Nat) (e:Int×bj),es[i]? =aa e->(es[i]?.map (·.1)).getD 0=e.1:=fun i e N=>by rw[N];rfl
  have hN:=bo (bY hd (Nat.sub_le _ _)) J
  have F:∀(i:Nat) y,t.place[i]? =aa (q t.mask (b4 knd k) (m+d))->es[i]? =aa (ent knd y)->y∈xs->b4 knd y.1=b4 knd k->(y.1≠k->m+d<T)->
    bL (model prog w) A (do
      if !t.led then
       if<-ZH (.ref a) ((es.filter (·.1==b4 knd k)).toList.map (·.2)) then unsupported "set:the-search-would-show-the-table"
      let aa (_,y):=es[i]? |unsupported "internal:set-entry"
      let c<-holding [y] (eqBool y (.ref a))
      let (CC,_,t')<-setState S
      if af&&c then return .there ae
      let aa same:=t'.sameMemory t.moves t.mask|unsupported "set.changed-during-lookup:is-the-new-block-at-the-old-address"
      let O<-match(if same then t'.slot (q t.mask (b4 knd k) (m+d)) else .empty) with
       | .live l=>match CC[l]? with
        |some (_,p)=>do pure (if<-isSame p y then aa l else ae)
        |none=>pure ae
       |_=>pure ae
      match O with
      |none=>rule "set.search.anew";oo S (.ref a) (b4 knd k) af b ae
      |some l=>if c then return .there (aa l) else oo S (.ref a) (b4 knd k) af b (aa (ps t.mask (b4 knd k) (m+d+1)))) Q E s:=by
   intro i y h1 h j G H
   have X:bL (model prog w) A (do
      let aa (_,y):=es[i]? |unsupported "internal:set-entry"
      let c<-holding [y] (eqBool y (.ref a))
      let (CC,_,t')<-setState S
      if af&&c then return .there ae
      let aa same:=t'.sameMemory t.moves t.mask|unsupported "set.changed-during-lookup:is-the-new-block-at-the-old-address"
      let O<-match(if same then t'.slot (q t.mask (b4 knd k) (m+d)) else .empty) with
       | .live l=>match CC[l]? with
        |some (_,p)=>do pure (if<-isSame p y then aa l else ae)
        |none=>pure ae
       |_=>pure ae
      match O with
      |none=>rule "set.search.anew";oo S (.ref a) (b4 knd k) af b ae
      |some l=>if c then return .there (aa l) else oo S (.ref a) (b4 knd k) af b (aa (ps t.mask (b4 knd k) (m+d+1)))) Q E s:=by
    rw[h]
    refine aF (d4 (wpAny_eqBool_tuple hu (x.key y j) hk (aF (fg x.ho x.dat x.fits ?_))))
    by_cases C:y.1=k
    .rw[au C]
     dsimp only[YZ,if_true]
     exact aU (C5 ⟨y,j,C⟩)
    .rw[aw C]
     dsimp only[eS,dG,if_false]
     have P:t.sameMemory t.moves t.mask=aa true:=by unfold U0.sameMemory;simp
     rw[P]
     simp only[if_true]
     rw[tq x.tab.good h1]
     dsimp only
     rw[h]
     refine aF (wpAny_isSame_ref_self ?_)
     simp only[if_true]
     refine aF (aU ?_)
     refine ih (T-(m+d+1)) ?_ b (m+d+1) _ Z rfl ?_ ?_
     .have:=H C;omega
     .have:=H C;omega
     .have:=H C;omega
   cases aaA:t.led with
   |true=>
    assumption
   |false=>
    dsimp only[DX,if_true]
    refine aF (Yc hk (fun v hv=> ?_) ?_)
    .obtain⟨e,N,rfl⟩:=bK.mp hv
     have Sh:e∈es.toList:=by
      have:=fU.mp N
      exact fU.mpr (Array.mem_filter.mp this).1
     obtain⟨p,R,rfl⟩:=bK.mp (x.perm.mem_iff.mp Sh)
     exact⟨p.1,p.2,Z,x.key p R⟩
    assumption
  have step:∀(i:Nat) (y:List K×Addr),t.place[i]? =aa (q t.mask (b4 knd k) (m+d))->es[i]? =aa (ent knd y)->y∈xs->b4 knd y.1=b4 knd k->y.1≠k->m+d<T:=fun i y h1 h j G H=>by
   rcases Nat.lt_or_ge (m+d) T with z|z
   .exact z
   .exfalso
    have e:=Nat.le_antisymm (Nat.add_le_of_le_sub' hm hd) z
    rw[e] at h1
    rcases W with⟨U,_⟩|⟨l,p,D,B,V,I⟩
    .exact U (fU.mpr (sM h1))
    .have Y:=tq x.tab.good h1
     rw[tq x.tab.good D] at Y
     cases Y
     rw[h] at B
     have e2:y.2=p.2:=by
      have:=congrArg (fun e=>e.map (·.2)) B
      simp only[ent,fI,kY,bj.ref.injEq] at this
      exact this
     have k1:=x.key y j
     rw[e2] at k1
     exact H ((k1.inj (x.key p V)).trans I)
  rcases M with e|⟨i,y,h1,h,j,G⟩
  .rcases W with⟨U,hq⟩|⟨i,y,D,B,V,I⟩
   .unfold probe
    rw[Ho x.tab ?hh d (10*turns t.mask) m g (by rw[e];exact U) hN]
    case hh=>exact u
    rw[e]
    exact aU hq
   .unfold probe
    rw[EV x.tab ?hh d (10*turns t.mask) m g (by rw[e];exact D) B (by show b4 knd y.1=_;rw[I]) hN]
    case hh=>exact u
    exact F i y (by rw[e];exact D) B V (by rw[I]) (fun z=>az I z)
  .unfold probe
   rw[EV x.tab ?hh d (10*turns t.mask) m g h1 h G hN]
   case hh=>exact u
   exact F i y h1 h j G (step i y h1 h j G)
end
end
section
open PySem.SetTable
section
variable {K:Type} [DecidableEq K] {knd:KeyKind prog w K}
theorem xl(x:g9 knd h k a)(e:∀o,h.get? a=aa o->h'.get? a=aa o):g9 knd h' k a:=by obtain⟨o,b,n,ho,r⟩:=x;exact⟨o,b,n,e o ho,r⟩
theorem key_ne(x:g9 knd h k a)(ho:h.get? S=aa o)(hd:o.data= .set es ep t):a≠S:=fun z=>by
 obtain⟨c,b,n,d,_,e,_⟩:=x
 lia
theorem QN(hk:g9 knd s.heap k a)(h:∀b,Q b s):bL (model prog w) A (hashByValue 8 (.ref a)) Q E s:=by
 have g:=hk.typeIs;obtain⟨o,d,n,ho,p,hd,i⟩:=hk;refine aF (pb g PySem.F.slot_tuple_hash.lookup (aF (eY ho hd (aF ?_))));rw[<-NJ];refine tT _ (fun c r e=>e=s/\∀v∈c,mS v=af) _ ?_ ?_ _ _ ⟨Z,i.byValue⟩
 .rintro v c r e ⟨rfl,f⟩;have hv:∃b,hashByValue 7 v=pure b:=by have:=f v aT;cases v with|ref a=>simp[mS] at this|_=>exact⟨_,Z⟩
  obtain⟨b,j⟩:=hv;rw[j];refine aF (aU ?_);cases b with|true=>dsimp only[wy,dG,if_false];exact aU ⟨Z,fun u l=>f u (aO _ l)⟩|false=>dsimp only[DX,if_true];exact aU (aU (h ag))
 .rintro⟨m,q⟩ e ⟨rfl,_⟩;cases m with|none=>exact aU (h af)|some b=>exact aU (h b)
theorem Hs{h:Heap}(ho:h.get? S=aa o)(b:o.ExactSet)(hd:o.data= .set es0 ep t0):
  (h.update S (lQ es t)).get? S=aa {o with data:= .set es (ep+1) t}/\({o with data:= .set es (ep+1) t}:Obj).ExactSet:=by
 refine⟨?_,b⟩
 have:=dc (lQ es t) ho (by rw[N1 es t hd];rfl)
 exact(N1 es t hd)▸this
def vX(ks:List (List K))(k:List K):List (List K):=if k∈ks then ks else ks++[k]
theorem aa2(hS:vn knd s.heap S ks)(hk:g9 knd s.heap k a)(hu:A.units<ly)(t_:ks.length+1<4096)
  (h:∀h' b,d6 S s.heap h'->vn knd h' S (vX ks k)->Q b {s with heap:=h'}):bL (model prog w) A (setAddHashed S (.ref a) (b4 knd k)) Q E s:=by
 obtain⟨xs,o,d,ep,t,rfl,x⟩:=hS
 have hsz:d.size=xs.length:=by rw[<-bO,x.perm.length_eq,aE]
 have R:t.place.toList.length=d.size:=by rw[bO];exact x.tab.size
 have acQ:=x.room
 rw[aE] at t_
 obtain⟨k0,h30,Xi⟩:=x.tab.pow
 refine d4 (aF (fg x.ho x.dat x.fits ?_))
 dsimp only
 have Y:byScan (bj.ref a) d=false:=rfl
 rw[Y]
 simp only[dG,if_false]
 by_cases H:k∈xs.map (·.1)
 ·
  obtain⟨y,D,rfl⟩:=bK.mp H
  obtain⟨i,hi,ei⟩:=eG.mp (x.perm.mem_iff.mpr (bK.mpr ⟨y,D,Z⟩))
  have I:i<d.size:=by simpa using hi
  have J:i<t.place.size:=by rw[x.tab.size];exact I
  have T:d[i]? =aa (ent knd y):=by rw[bT I];simpa using ei
  obtain⟨m,hm,hb⟩:=x.tab.path i t.place[i] _ (bT J) T
  have yx:q t.mask (b4 knd y.1) m=t.place[i]:=hm
  have ex:∃m,m<=10*(12+d.size)/\q t.mask (b4 knd y.1) m∉t.place.toList/\∀m'<m,q t.mask (b4 knd y.1) m'∈t.place.toList:=by
   have:=AF Xi (b4 knd y.1) t.place.toList (by rw[R];lia)
   rw[R] at this
   exact this
  obtain⟨F,K,j,n⟩:=ex
  have hmF:m<F:=by
   rcases Nat.lt_or_ge m F with z|z
   .exact z
   .exfalso
    rcases Nat.eq_or_lt_of_le z with z|z
    .simp_all
    .exact j (hb F z)
  have lH:=x.qk
  refine aF (x6 x hk hu m hb (by unfold turns;lia) (.inr ⟨i,y,by rw[yx];exact bT J,T,D,Z⟩) (fun _=> ?_) m 100000 0 ae Z (by lia) (cg _) (by lia))
  refine aU ?_
  have e:s={s with heap:=s.heap}:=by lia
  rw[e]
  refine h s.heap ag (Fy S s.heap) ⟨xs,o,d,ep,t,?_,x⟩
  unfold vX
  rw[ai H]
 .obtain⟨F,K,j,n⟩:=AF Xi (b4 knd k) t.place.toList (by rw[R];lia)
  rw[R] at K
  refine aF (x6 x hk hu F n (by unfold turns;lia) (.inl ⟨j,?_⟩) (by rintro⟨y,D,e⟩;exact az (bK.mpr ⟨y,D,e⟩) H) F 100000 0 ae Z (by lia) (cg _) (by lia))
  refine aF (fg x.ho x.dat x.fits ?_)
  obtain⟨l,U,M1⟩:=Uh x.tab j n
  generalize V2:t.put (q t.mask (b4 knd k) F)=pt at l U M1
  obtain⟨g,p⟩:=pt
  have acR:∀b:Bool,Tab (if b=af then g else{g with plain:=ag}) (fy d p (b4 knd k, .ref a))/\(if b=af then g else{g with plain:=ag}).mask=t.mask:=fun b=>by
   cases b
   .exact⟨⟨l.good.rise|>fun r=>⟨r,l.good.Vu⟩,l.size,l.le,l.pow,l.path⟩,M1⟩
   .exact⟨l,M1⟩
  have hs1:(fy d p (b4 knd k,bj.ref a)).size=d.size+1:=by
   rw[<-bO,U.length_eq,aK,bO]
  have ji:=key_ne hk x.ho x.dat
  have fin:∀b,bL (model prog w) A (do
    storeSet S (fy d p (b4 knd k, .ref a)) (if b=af then g else{g with plain:=ag})
    if(!ag&&(if b=af then g else{g with plain:=ag}).tooFull)=af then setRelay S (gE (d.size+1))
    pure af) Q E s:=by
   intro b
   obtain⟨B,M2⟩:=acR b
   generalize (if b=af then g else{g with plain:=ag})=t2 at B M2
   generalize adB:fy d p (b4 knd k,bj.ref a)=f at B U hs1
   obtain⟨V,x1⟩:=Hs x.ho x.ex x.dat
   have C:=d6.update s.heap S (lQ f t2)
   refine aF (rE x.ho x.dat ?_ (kJ (by show f.size<4096;lia)))
   have L:vX (xs.map (·.1)) k=(xs++[(k,a)]).map (·.1):=by unfold vX;rw[ak H,a_];rfl
   have V4:∀h':Heap,d6 S s.heap h'->∀y∈xs++[(k,a)],g9 knd h' y.1 y.2:=fun h' sb y D=>by
    have M:g9 knd s.heap y.1 y.2:=by
     rcases cN.mp D with z|z
     .exact x.key y z
     .rw[a0.mp z];exact hk
    exact xl M fun o' e'=>(sb.2 _ (key_ne M x.ho x.dat)).trans e'
   have V5:f.toList.Perm ((xs++[(k,a)]).map (ent knd)):=by
    rw[a_]
    refine U.trans ?_
    refine(List.Perm.cons _ x.perm).trans ?_
    exact(List.perm_append_comm (l₁:=[ent knd (k,a)]))
   have N:((xs++[(k,a)]).map (·.1)).Nodup:=by
    rw[a_]
    refine hG.mpr ⟨x.nd,c8.mpr ⟨by simp,fh⟩,fun u V0 v hv=> ?_⟩
    rw[a0.mp hv]
    exact fun z=>H (by have z':u=k:=z;rw[<-z'];exact V0)
   by_cases aa4:t2.tooFull=af
   .rw[aa4]
    dsimp only[DX,YZ,if_true]
    have hf2:t2.fits f.size=true:=by
     unfold U0.fits BA
     rw[B.size,B.good.Vu]
     simp
     lia
    refine aF ?_
    unfold setRelay
    refine aF (fg V Z hf2 ?_)
    dsimp only
    have Vv:gE (d.size+1)=(d.size+1)*4:=by unfold gE;rw[ak (by lia)]
    rw[Vv]
    obtain⟨k1,h31,T,l1,l2⟩:=Uk ((d.size+1)*4) (by lia)
    rw[ak (by rw[d8];lia)]
    obtain⟨O,order,aa5,W,T3,P3,M3,L3,V3⟩:=Uj h31 T f (by lia)
    have Sv:t2.relaid (f.map (·.1)) ((d.size+1)*4)=aa (O,order):=aa5
    rw[Sv]
    refine aF (jq (a:=(order.filterMap (f[·]?),O)) ?_ ?_)
    .have hc:((order.filterMap (f[·]?)).size !=f.size)=false:=by rw[W];simp
     show(if((order.filterMap (f[·]?)).size !=f.size)=af then(unsupported "internal:set-table-lost-an-element">>=fun _=>pure (order.filterMap (f[·]?),O)) else pure (order.filterMap (f[·]?),O))=_
     rw[hc]
     rfl
    .dsimp only
     refine rE V Z ?_ (kJ (by rw[W];show f.size<4096;lia))
     obtain⟨g2,x2⟩:=Hs V x1 Z
     have P:=C.trans (d6.update (s.heap.update S (lQ f t2)) S (lQ (order.filterMap (f[·]?)) O))
     refine aU (h _ af P ⟨xs++[(k,a)],_,_,_,_,L.symm,⟨g2,x2,Z,T3,?_,by rw[W];lia,P3.trans V5,N,V4 _ P⟩⟩)
     rw[W,M3]
     lia
   .have X:t2.tooFull=false:=by cases e:t2.tooFull<;>simp_all
    rw[X]
    dsimp only[eS,dG,if_false]
    have rm:f.size*5<t2.mask*3:=by
     unfold U0.tooFull BA at X
     rw[B.size,B.good.Vu] at X
     simp at X
     lia
    refine aF (aU (aU (h _ af C ⟨xs++[(k,a)],_,_,_,_,L.symm,⟨V,x1,Z,B,rm,by lia,V5,N,V4 _ C⟩⟩)))
  split
  .refine aF (QN hk fun b=> ?_)
   exact fin b
  .exact aF (aU (fin af))
end
end
section
open PySem.SetTable
section
variable {K:Type} [DecidableEq K] {knd:KeyKind prog w K}
theorem vn.at(x:vn knd h S ks)(k:∀b o,b≠S->h.get? b=aa o->h'.get? b=aa o)(c:∀o,h.get? S=aa o->h'.get? S=aa o):vn knd h' S ks:=by obtain⟨xs,o,d,f,t,e,y⟩:=x;exact⟨xs,o,d,f,t,e,⟨c _ y.ho,y.ex,y.dat,y.tab,y.room,y.qk,y.perm,y.nd,fun z a=>xl (y.key z a) fun g i=>k _ g (key_ne (y.key z a) y.ho y.dat) i⟩⟩
def yI(ks:List (List K)):List (List K):=ks.foldl vX []
theorem QO(ks:List (List K))(k:List K):(vX ks k).length<=ks.length+1:=by unfold vX;split<;>simp
theorem xm:∀(ns ks:List (List K)),(ns.foldl vX ks).length<=ks.length+ns.length
 |[],ks=>by simp
 |a::r,ks=>by have:=xm r (vX ks a);have:=QO ks a;simp only[iT,aK];lia
theorem Ye(W:YR prog w A.in1 I fp wr G n P St)(S:Addr)(U:S∉fp)(ks:List (List K))(hn:ks.length=n)
  (as:List Addr) (B:∀i s,St i s->∀(k:List K) a,g9 knd s.heap k a->a∉wr) (Ph:∀i v,P i v->∃(k:List K) (a:Addr),ks[i]? =aa k/\as[i]? =aa a/\v= .ref a) (C:n+1<4096) (V:A.in1.units<ly):
  ∀(j i:Nat) (s:bH),n-i=j->i<=n->St i s->vn knd s.heap S (yI (ks.take i))->(∀(i:Nat) k a,ks[i]? =aa k->as[i]? =aa a->g9 knd s.heap k a)->
   (∀c,UY (S::wr) G s c->vn knd c.heap S (yI ks)->R (.ok (.ret .none)) c)->
   mM (model prog w) A (.builtin "set.update.loop" ⟨[.ref S, .ref I],[]⟩) R s:=by
 have X:∀{i:Nat} {s c:bH} {g:List (List K)},St i s->UY wr G s c->vn knd s.heap S g->vn knd c.heap S g:=fun{i s c g} f d x=>by
  obtain⟨xs,o,Y,ep,t,e,y⟩:=x
  exact⟨xs,o,Y,ep,t,e,⟨d.heap S _ (fun h=>U (W.sub _ h)) y.ho,y.ex,y.dat,y.tab,y.room,y.qk,y.perm,y.nd,fun z hz=>xl (y.key z hz) fun D E=>d.heap _ D (B i s f _ _ (y.key z hz)) E⟩⟩
 intro j
 induction j with
 |zero=>
  intro i s hj hi f J L hR
  have C5:i=n:=by lia
  subst C5
  refine fC gF ?_
  rw[eA dX _]
  refine aF (W.done s _ _ f fun c d=> ?_)
  rw[b8 (by lia)] at J
  exact aU (hR c (d.mono (fun b C=>aO _ C)) (X f d J))
 |succ j ih=>
  intro i s hj hi f J L hR
  have gm:i<n:=by lia
  refine fC gF ?_
  rw[eA dX _]
  refine aF (W.item i s _ _ gm f fun v c hP Xy d=> ?_)
  obtain⟨k,a,F,M,rfl⟩:=Ph i v hP
  have t9:=X f d J
  have l:=fun m p q r u=>xl (L m p q r u) fun D E=>d.heap _ D (B i s f _ _ (L m p q r u)) E
  have H:=l i k a F M
  refine aF (d4 (d4 (aF (wpAny_pyHash_tuple V H ?_))))
  have t_:(yI (ks.take i)).length+1<4096:=by
   have:=xm (ks.take i) []
   unfold yI
   rw[bA] at this
   simp only[bQ] at this
   lia
  refine aa2 t9 H V t_ fun h' b N fH=> ?_
  have e:ks.take (i+1)=ks.take i++[k]:=by rw[pW,F];rfl
  have O:vn knd h' S (yI (ks.take (i+1))):=by
   rw[e]
   unfold yI
   rwa [iX]
  have ji:∀(i:Nat) k a,ks[i]? =aa k->as[i]? =aa a->a≠S:=fun m p q r u=>by
   obtain⟨xs,o,Y,ep,t,_,y⟩:=t9
   exact key_ne (l m p q r u) y.ho y.dat
  have mv:UY (S::wr) G s {c with heap:=h',toks:=c.toks+(k.length+1)}:=⟨fun b o C e=>N.extBut b o (fun z=>C (by simp[z])) (d.heap b o (fun z=>C (aO _ z)) e),d.gens,d.drawn,d.os,bY d.toks (rn _ _)⟩
  refine aU ⟨iH dX _,ih (i+1) _ (by lia) gm (W.frame (i+1) c _ _ Xy (rn _ _) fun b Q o e=>N.extBut b o (fun z=>U (by rw[<-z];exact Q)) e) O (fun m p q r u=>xl (l m p q r u) fun D E=>N.extBut _ D (ji m p q r u) E) fun T Xz XA=> ?_⟩
  exact hR T (Ki W.gtrans mv Xz) XA
end
end
end kO
namespace D
open PySem PySem.Spec PyProof.Rows L2
section
inductive Lo K(vs:List V) H(Q:VK):Prop|mk:∀a as ks,(vs=[.ref a])->(jD K H a (as.map V.ref))->(Paired (fun b k=>H b=aa (.tup (k.map kV))) as ks)->(ks.length<4000)->(Q (.int ((kO.yI ks).length)) H)->Lo K vs H Q
theorem MY(V:X.calm=af)(hu:X.A.units+64<ly)(hg:Gl X "len")(W:X.mg "len"=ae)(Y:Gl X "set")(yx:X.mg "set"=ae)(ha:PA X [e] ta)
  (hs:bV [e] X.env=[(ag,eval e X.env)]:=by rfl) (Mh:bV [.Call (.Name "set" B) [e] [] q2] X.env=[(ag,eval (.Call (.Name "set" B) [e] [] q2) X.env)]:=by rfl):
  PE X (.Call (.Name "len" p1) [.Call (.Name "set" B) [e] [] q2] [] p2) (fun E H Q=>ta E H fun vs w=>Lo X.K vs w Q):=by
 intro pz s E H Q I h
 refine dM (kE I hg W Cr (lA (fP (NZ (kE I Y yx boot_set (cU (fX (ha q2 pz s E H _ I h) fun us c ⟨vs,w,C,r1,B⟩=> ?_) hs Z)))) Mh Z) (by decide) Z)
 obtain⟨a,as,ks,e,hL,M,hn,q⟩:=B
 subst e
 cases r1 with
 |cons r rr=>
  cases rr
  cases r
  obtain⟨its,N,F,O⟩:=C.list hL
  have y:=N.length
  rw[aE] at y
  have G:=M.length
  have P:=F.lt
  have J:∀(i:Nat) (v:bj),its[i]? =aa v->∃b,as[i]? =aa b/\v=bj.ref b:=fun i v hv=>by
   have D:i<as.length:=by rw[y];exact(aV.mp hv).1
   obtain⟨u,S,ru⟩:=N.get (by rw[bp,aP D];rfl)
   rw[hv] at S
   cases S
   cases ru
   exact⟨as[i],aP D,Z⟩
  have K:∀{l:List Addr} {m:List (List Key)},Paired (fun b k=>w b=aa (.tup (k.map kV))) l m->∀(i:Nat) k b,m[i]? =aa k->l[i]? =aa b->w b=aa (.tup (k.map kV)):=by
   intro l m hp
   induction hp with
   |nil=>intro i k b d;cases d
   |cons f _ ih=>
    intro i k b d g
    cases i with
    |zero=>
     simp at d g
     subst d g
     exact f
    |succ i=>exact ih i k b (by exact d) (by exact g)
  refine iC.xX (Made:=fun h'=>kO.vn (gp X.prog X.w) h' c.heap.objs.size (kO.yI ks)) F.isList (fun R s2 g hR=> ?_) fun h' tk hM hk=> ?_
  .subst g
   have BV:(c.heap.push {cls:= .type "set",dict:=ae,data:= .set #[] 0 (.fresh 0 0 (iC.kF X.w))}).IsList a its.toArray:=F.isList.push _
   have XD:a≠(c.heap.push {cls:= .type "set",dict:=ae,data:= .set #[] 0 (.fresh 0 0 (iC.kF X.w))}).objs.size:=by
    rw[cG];exact b9 (et P)
   have FG:c.heap.objs.size∉[(c.heap.push {cls:= .type "set",dict:=ae,data:= .set #[] 0 (.fresh 0 0 (iC.kF X.w))}).objs.size,a]:=by
    rw[cG];simp only[aZ,a0,dD,or_false,not_or]
    exact⟨b9 (fY _),gN P⟩
   refine kO.Ye (knd:=gp X.prog X.w) ((Walks.list (by simp[(C.ok.hd V)]) _ a XD its.toArray).toS) c.heap.objs.size FG ks ?_ as ?_ ?_ ?_ ?_ (its.toArray.size-0) 0 _ Z (cg _) ⟨⟨_,bc _ Z,Z,Z⟩,(BV.push _)⟩ ?_ ?_ ?_
   .rw[bz];lia
   .rintro i s3 ⟨⟨oi,Io,XG,_⟩,_⟩ k b ⟨ob,L,n,z,A,_⟩ jb
    rw[a0.mp jb,Io] at z
    cases z
    rw[XG] at A
    have:("list_iterator")="tuple":=by injection A
    exact az this (by decide)
   .intro i v hv
    obtain⟨b,h1,h2⟩:=J i v (by simpa using hv)
    have D:i<ks.length:=by rw[<-G];exact(aV.mp h1).1
    exact⟨ks[i],b,aP D,h1,h2⟩
   .rw[bz];lia
   .show X.A.units+1+1+1<ly
    lia
   .have XF:((c.heap.push {cls:= .type "set",dict:=ae,data:= .set #[] 0 (.fresh 0 0 (iC.kF X.w))}).push {cls:= .type "list_iterator",data:= .fields #[.ref a, .int 0 0]}).get? c.heap.objs.size
      =aa {cls:= .type "set",dict:=ae,data:= .set #[] 0 (.fresh 0 0 (iC.kF X.w))}:=aJ _ (bc _ Z)
    refine⟨[],_,#[],0,_,Z,⟨XF,⟨Z,Z,Z⟩,Z,⟨⟨List.Pairwise.nil,Z⟩,Z,fun j hj=> ?_,⟨3,aQ _,Z⟩,fun i j e h1=> ?_⟩,(show 0*5<7*3 by decide),(show 0<4096 by decide),yZ _,fh,fun x hx=> ?_⟩⟩
    .have:j∈([]):=hj
     cases this
    .have:(#[])[i]? =aa j:=h1
     simp at this
    .cases hx
   .intro i k b d g
    exact kO.xl ((fun i k b d g=>wZ C.gT (K M i k b d g)) i k b d g) fun o e=>aJ _ (aJ _ e)
   .intro s' p t9
    obtain⟨h',g',d',Zc,Z7⟩:=s'
    have eg:g'=c.gens:=p.gens
    have ed:d'=c.drawn:=p.drawn
    have eo:Z7=c.os:=p.os
    subst eg;subst ed;subst eo
    refine hR h' Zc t9 fun b o T e=> ?_
    have GI:b≠(c.heap.push {cls:= .type "set",dict:=ae,data:= .set #[] 0 (.fresh 0 0 (iC.kF X.w))}).objs.size:=by
     rw[cG];exact b9 (et T)
    exact p.heap b o (by simp only[aZ,a0,dD,or_false,not_or];exact⟨b9 T,GI⟩) (aJ _ (aJ _ e))
  .refine g_ ?_
   obtain⟨xs,o,es,ep,t,ek,x⟩:=hM
   have hsz:es.size=(kO.yI ks).length:=by rw[<-bO,x.perm.length_eq,aE,<-ek,aE]
   refine call_len_set x.ho x.ex x.dat x.fits ?_ ?_
   .have:=x.qk
    lia
   .rw[hsz]
    exact⟨.int _,w,C.kept (t':=_) fun b u U=>hk b u (bD U) U,⟨_,Z⟩,q⟩
end
variable {P0:b7} {w0:cW} {K:aM} {b0:Heap} {m0:Str->Option bj} (Y:Txt P0 w0 K b0 m0)
section
open Vbpcak (Hole State)
section
theorem vC:∀Q:VK,Q x H->tC x σ H Q:=fun Q h=>h
theorem vV(h:σ[i]? =aa (aa x)):∀Q:VK,Q x H->oV i σ H Q:=fun Q q=>CG h q
theorem kg{p q:Int->Int->Bool}(a:∀Q:VK,Q (.int l) H->ta σ H Q)(b:∀Q:VK,Q (.int x) H->tb σ H Q)(c:∀Q:VK,Q (.int h) H->tc σ H Q)(k:Q (p l x&&q x h) H):
  zI (D9 (IK fun i j=> .bl (p i j)) (IK fun i j=> .bl (q i j)) ta tb tc) σ H Q:=by
 refine a _ (b _ ⟨l,x,Z,Z,_,Z,?_⟩)
 cases e:p l x with
 |true=>
  rw[e] at k
  exact c _ ⟨x,h,Z,Z,_,Z,k⟩
 |false=>
  rw[e] at k
  exact⟨_,Z,k⟩
theorem kh(h:Vbpcak.within a x b=af):a<=x/\x<=b:=by unfold Vbpcak.within at h;rw[bq] at h;exact⟨aq h.1,aq h.2⟩
inductive Lp H(Q:VK):List V->Prop|mk:∀z a g,(0<a+g)->(a+g<4611686018427387904)->(Q (.int (cA z a g)) H)->Lp H Q [.int z, .int a, .int g]
theorem jZ:Ok Y 1 6 Lp:=by
 refine Y.ok ?_;rintro _ H _ Q nd d ⟨z,a,g,h1,b,k⟩;refine⟨_,(aI (da (cK lG (pv 0) (pv 1)) (cy aY) ck) (cy (cu dJ (cu Ai (cu fK (pv 0) (pv 1)) (cu dJ (pv 1) (pv 2))) aY))),?_⟩;unfold cA at k;refine⟨_,_,Z,Z,_,Z,?_⟩;refine e_ (fun c=> ?_) (fun c=> ?_)
 .rw[ai (aq c)] at k;exact k
 .rw[ak (AA c)] at k;exact⟨_,_,Z,Z,_,_,Z,Z,_,_,Z,Z,⟨h1,b⟩,_,_,Z,Z,k⟩
theorem tu{z a g:Int}(h:0<a+g):0<=cA z a g:=by
 unfold cA;split
 .simp
 .have:=Int.ediv_nonneg (show 0<=z-a by lia) (Int.le_of_lt h);lia
theorem Dx{z a g:Int}(h:0<a+g)(b:z<=1000000000)(c:0<=a):cA z a g<=1000000001:=by
 unfold cA;split
 .simp
 .have:(z-a)/(a+g)<=z-a:=Int.ediv_le_self _ (by lia);lia
def nR(c d w h g:Int)(i:Nat):ZI:=((List.range i).map (oq c d w h g)).foldl (fun a b=>if a.total<b.total then b else a) ⟨-1,0,0,0,0⟩
def QP(i:Nat)(f:ZI):List V:=if i=0 then[] else[.int f.total, .int f.k, .int f.cols, .int f.rows2, .int f.cols2]
theorem JE(a b w h g:Int)(i:Nat):nR a b w h g (i+1)=if(nR a b w h g i).total<(oq a b w h g i).total then oq a b w h g i else nR a b w h g i:=by unfold nR;rw[de,a_,iX];rfl
inductive QQ K C H(Q:VK):List V->Prop|mk:∀b dx lh lo s fs as (pw ph g),(BD K H C b s dx fs lh lo as)->(1<=pw)->(pw<=1000000000)->(1<=ph)->(ph<=1000000000)->(0<=g)->(g<=1000000000)->(cA ph s.h g<=1000)->(MV H [(jm pw ph s.w s.h g).total,(jm pw ph s.w s.h g).k,(jm pw ph s.w s.h g).cols,(jm pw ph s.w s.h g).rows2,(jm pw ph s.w s.h g).cols2] Q)->QQ K C H Q [.ref b, .int pw, .int ph, .int g]
theorem Ht:Ok Y 2 7 (QQ K CB):=by
 refine Y.ok ?_;rintro _ H _ Q nd v ⟨b,t,lh,lo,s,fs,as,d,e,g,B,MA,N,Zg,Tz,O,P,R,k⟩;have hw:=B.wf.w1;have hh:=B.wf.h1;have hN:=tu (z:=e) (a:=s.h) (g:=g) (by lia);refine⟨_,(aI (bB 4 (cP (jZ Y) v.mono (aR (pv 1) (aR (bS Y.na (pv 0)) (cO (pv 3)))))) (aI (bB 5 (cP (jZ Y) v.mono (aR (pv 1) (aR (bS Y.na (pv 0)) (cO (pv 3)))))) (aI (bB 6 (cT gW)) (aI (fT (ke Z Y.nn (cO (cu dJ (cP (jZ Y) v.mono (aR (pv 2) (aR (bS Y.na (pv 0)) (cO (pv 3))))) aY))) (cJ 7) (aI (bB 8 (cu fK (pv 2) (cu oX (pv 7) (cu dJ (bS Y.na (pv 0)) (pv 3))))) (aI (bB 9 (cP (jZ Y) v.mono (aR (pv 8) (aR (bS Y.na (pv 0)) (cO (pv 3)))))) (aI (bB 10 (cu dJ (cu oX (pv 7) (pv 4)) (cu oX (pv 9) (pv 5)))) (b6 (da (PW.pt (xQ (gV (je (pv 6) (fun _=>rfl))) (uo (cK mB (pv 10) (bM bP (pv 6) aY))))) (b6 (bB 6 (cT (aR (pv 10) (aR (pv 7) (aR (pv 4) (aR (pv 9) (cO (pv 5))))))))) ck)))))) (cy (pv 6)))))),?_⟩;refine⟨b,CB,t,fs,_,Z,B.at_,Z,B.bf.wd,_,_,_,by lia,by lia,?_⟩;refine⟨b,CB,t,fs,_,Z,B.at_,Z,B.bf.hg,_,_,_,by lia,by lia,?_⟩;refine⟨zl,fun S x=> ?_⟩;refine⟨b,CB,t,fs,_,Z,(B.same (aN (o:= .lst []) x)).at_,Z,B.bf.hg,_,_,_,by lia,by lia,_,_,Z,Z,?_⟩;refine⟨_,Z,by lia,by lia,?_⟩;show∃W,_;rw[show((cA e s.h g+1).toNat)=(cA e s.h g).toNat+1 from(by lia)];generalize T:(cA e s.h g).toNat=m;have yx:m<=1000:=by lia
 have y:=tu (z:=d) (a:=s.h) (g:=g) (by lia);have U:=Dx (z:=d) (a:=s.w) (g:=g) (by lia) (by lia) (by lia);have X:=Dx (z:=d) (a:=s.h) (g:=g) (by lia) (by lia) (by lia);refine iE (lo:=0) (n:=m+1) (fun i A H'=>E5 fun(q:Addr) (C D E h:Option V)=>A4 (cI H H') (H q=ae) (H' q=aa (.lst (QP i (nR d e s.w s.h g i)))) (A=[aa (.ref b),aa (.int d),aa (.int e),aa (.int g),aa (.int (cA d s.w g)),aa (.int (cA d s.h g)),aa (.ref q),C,D,E,h])) ⟨S,ae,ae,ae,ae,aN x,x,aH,Z⟩ ?_ ?_
 .rintro i A H' hi ⟨q,C,D,E,h,j,F,l,rfl⟩;have L:=B.same j;have e0:(0:Int)+(i:Nat)=(i:Int):=by lia
  rw[e0];refine⟨b,CB,t,fs,_,Z,L.at_,Z,B.bf.hg,_,_,Z,Z,_,_,Z,Z, .inl ⟨by lia,by lia⟩,_,_,Z,Z,?_⟩;refine⟨b,CB,t,fs,_,Z,L.at_,Z,B.bf.wd,_,_,_,by lia,by lia,?_⟩;generalize M:cA (e-(i:Int)*(s.h+g)) s.w g=f;have B7:0<=f:=by rw[<-M];exact tu (by lia)
  refine⟨_,_,Z,Z, .inl ⟨by lia,by lia⟩,_,_,Z,Z, .inr ⟨by lia,by lia⟩,_,_,Z,Z,?_⟩;have ef:oq d e s.w s.h g i=⟨(i:Int)*cA d s.w g+f*cA d s.h g,i,cA d s.w g,f,cA d s.h g⟩:=by dsimp only[oq];rw[<-M]
  have TM:0<=(i:Int)*cA d s.w g+f*cA d s.h g:=by have h1:=FC (show(0:Int)<=(i:Int) by lia) (tu (z:=d) (a:=s.w) (g:=g) (by lia));have w:=FC B7 y;lia
  have G:=JE d e s.w s.h g i;rw[ef] at G
  have put:(i=0\/(nR d e s.w s.h g i).total<(i:Int)*cA d s.w g+f*cA d s.h g)->∀p,H' p=ae->cI H (upd H' p (.lst [.int ((i:Int)*cA d s.w g+f*cA d s.h g), .int (i:Int), .int (cA d s.w g), .int f, .int (cA d s.h g)]))/\H p=ae/\
    (upd H' p (.lst [.int ((i:Int)*cA d s.w g+f*cA d s.h g), .int (i:Int), .int (cA d s.w g), .int f, .int (cA d s.h g)])) p=aa (.lst (QP (i+1) (nR d e s.w s.h g (i+1)))):=by
   intro I p r
   refine⟨j.trans (aN r),j.free r,?_⟩
   rw[aH,G,ai]
   .rfl
   .rcases I with rfl|I
    .exact Int.lt_of_lt_of_le (by decide:(-1:Int)<0) TM
    .exact I
  refine⟨_, .inl ⟨_, .of l,Z⟩,?_⟩;rcases xN i with u|u
  .subst u;refine lI (lI ⟨zl,fun p r=> ?_⟩);obtain⟨h1,w,J⟩:=put (.inl rfl) p r;exact⟨p,_,_,_,_,h1,w,J,Z⟩
  .have Jx:QP i (nR d e s.w s.h g i)=[.int (nR d e s.w s.h g i).total, .int (nR d e s.w s.h g i).k, .int (nR d e s.w s.h g i).cols, .int (nR d e s.w s.h g i).rows2, .int (nR d e s.w s.h g i).cols2]:=by unfold QP;rw[ak (by lia)]
   rw[Jx] at l⊢;refine kN ⟨q,_,_,_,Z,Z, .of l,Z,_,_,Z,Z,_,Z,?_⟩;refine e_ (fun c=>⟨zl,fun p r=> ?_⟩) (fun c=> ?_)
   .obtain⟨h1,w,J⟩:=put (.inr (aq c)) p r;exact⟨p,_,_,_,_,h1,w,J,Z⟩
   refine⟨q,_,_,_,_,j,F,?_,Z⟩;rw[l,G,ak (AA c)];unfold QP;rw[ak (by lia)]
 .rintro A H' ⟨q,C,D,E,h,j,F,l,rfl⟩;refine k q H' F j ?_;rw[l];have:jm d e s.w s.h g=nR d e s.w s.h g (m+1):=by unfold jm nR;rw[T]
  rw[this];rfl
inductive V8 K C H(Q:VK):List V->Prop|mk:∀b dx lh lo s fs as (pw ph g),(BD K H C b s dx fs lh lo as)->(MV H (Vbpcak.step s (.fit pw ph g)).2 Q)->V8 K C H Q [.ref b, .int pw, .int ph, .int g]
theorem Ca:Ok Y 3 8 (V8 K CB):=by
 refine Y.ok ?_;rintro _ H _ Q nd m ⟨b,n,lh,lo,s,fs,as,d,a,g,B,k⟩;have hh:=B.wf.h1;refine⟨_,(aI (da (gV (PW.pt (nF (gw gv gv aY (pv 1) (d_ Y.ci)) (lC (gw gv gv aY (pv 2) (d_ Y.ci)))))) (cy (cT (cO (d_ Y.ci)))) ck) (aI (da (gV (gw gv gv aY (pv 3) (d_ Y.ci))) (cy (cT (cO (d_ Y.ci)))) ck) (aI (da (cK mB (cP (jZ Y) m.mono (aR (pv 2) (aR (bS Y.na (pv 0)) (cO (pv 3))))) (d_ Y.ci)) (cy (cT (cO (d_ Y.ci)))) ck) (cy (cP (Ht Y) m.mono (aR (pv 0) (aR (pv 1) (aR (pv 2) (cO (pv 3)))))))))),?_⟩;have j:=fun c p h=>by
  have l:Vbpcak.step s (.fit d a g)=(s,[-1]):=by unfold Vbpcak.step;exact jw c
  rw[l] at k;exact k p _ h (aN h) aH
 refine kg vC (vV Z) vC ?_
 cases c1:Vbpcak.within 1 d eI with
 |false=>rw[show(ah (1<=d)&&ah (d<=1000000000))=ag from c1];exact⟨zl,j (by rw[c1];rfl)⟩
 |true=>
  rw[show(ah (1<=d)&&ah (d<=1000000000))=af from c1];refine lI (kg vC (vV Z) vC ?_)
  cases e:Vbpcak.within 1 a eI with
  |false=>rw[show(ah (1<=a)&&ah (a<=1000000000))=ag from e];exact⟨zl,j (by rw[c1,e];rfl)⟩
  |true=>
   rw[show(ah (1<=a)&&ah (a<=1000000000))=af from e];refine kN ?_;dsimp only[FY,uq,Me,Mc];refine kg vC (vV Z) vC ?_
   cases i:Vbpcak.within 0 g eI with
   |false=>rw[show(ah (0<=g)&&ah (g<=1000000000))=ag from i];exact⟨zl,j (by rw[c1,e,i];rfl)⟩
   |true=>
    rw[show(ah (0<=g)&&ah (g<=1000000000))=af from i];obtain⟨t,o⟩:=kh c1;obtain⟨u,q⟩:=kh e;obtain⟨v,r⟩:=kh i;have l:Vbpcak.step s (.fit d a g)=gG s [(ah (cA a s.h g<=1000),-2)] (fun _=>let f:=jm d a s.w s.h g;(s,[f.total,f.k,f.cols,f.rows2,f.cols2])):=by unfold Vbpcak.step;exact eD (by rw[c1,e,i];rfl)
    rw[l] at k;dsimp only[eI] at o q r;refine kN ⟨b,CB,n,fs,_,Z,B.at_,Z,B.bf.hg,_,_,_,by lia,by lia,_,_,Z,Z,_,Z,?_⟩;refine e_ (fun c=>⟨zl,fun p h=> ?_⟩) (fun c=> ?_)
    .have w:=aq c;rw[jw (aw (by lia))] at k;exact k p _ h (aN h) aH
    .have w:=AA c;rw[eD (au (by lia))] at k;exact⟨b,n,lh,lo,s,fs,as,d,a,g,B,t,o,u,q,v,r,by lia,k⟩
theorem MZ(s:State)(b c g:Int):(Vbpcak.step s (.fit b c g)).1=s:=by
 have e:∀(l:List (Bool×Int)) (a:kc),(gG s l fun _=>(s,a)).1=s:=fun l a=>by unfold gG;split<;>rfl
 exact e _ _
theorem Hu:Ok Y 4 174 (sp3 K CB CR .fit):=by refine Y.ok ?_;rintro _ H _ Q nd g ⟨b,l,r,dr,a,lh,lo,s,fs,as,ns,z,x,y,d,e,n,q,hd,k⟩;have h:=fun z'=>oN a z' (m:=("take":Str)) (by decide+kernel) (by decide+kernel);refine⟨_,(aI (bB 2 (jd (gP Y) g.mono (pv 1))) (aI (bB 3 (jd (gP Y) g.mono (pv 1))) (aI (bB 4 (jd (gP Y) g.mono (pv 1))) (cy (cP (Ca Y) g.mono (aR (pv 0) (aR (pv 2) (aR (pv 3) (cO (pv 4)))))))))),?_⟩;have c:=e.taken (z+1);refine⟨r,dr,_,Z,e.rd,h _,r,dr,a,ns,z,x,e.rd,e.sq,n,?_⟩;have f:=c.taken (z+2);refine⟨r,dr,_,Z,c.rd,h _,r,dr,a,ns,z+1,y,c.rd,c.sq,q,?_⟩;have i:=f.taken (z+3);have j:=((k.taken (z':=z) (o:= .ins CR dr (rf a ((z+1:Nat):Int))) ⟨_,e.rd⟩).taken (z':=z) (o:= .ins CR dr (rf a ((z+2:Nat):Int))) ⟨_,c.rd⟩).taken (z':=z) (o:= .ins CR dr (rf a ((z+3:Nat):Int))) ⟨_,f.rd⟩;refine⟨r,dr,_,Z,f.rd,h _,r,dr,a,ns,z+2,d,f.rd,f.sq,hd,?_⟩;rw[(L7 (MZ s x y d) Z:Vbpcak.step s (.fit x y d)=(s,(Vbpcak.step s (.fit x y d)).2))] at j;exact⟨b,l,lh,lo,s,fs,as,x,y,d,i.bd,fun p H' t u v=>j.pure i t v u⟩
end
end
section
open Vbpcak (Hole State)
theorem gY(f:Str)(v:V):∀fs:List (Str×V),(fx f v fs).length<=fs.length+1
 |[]=>aQ _
 |(g,y)::r=>by
  dsimp only[fx];by_cases e:g=f
  .rw[ai e];exact pZ _
  .rw[ak e];have:=gY f v r;show(fx f v r).length+1<=r.length+1+1;lia
def V9(fs:List (Str×V))(ks:List Str):Prop:=∀k∈ks,∃v,fs.lookup k=aa v
theorem V9.put(h:V9 fs ks)(f:Str)(v:V):V9 (fx f v fs) ks:=fun k hk=>by
 rw[fA]
 by_cases e:k=f
 .exact⟨v,by rw[ai e]⟩
 .rw[ak e]
  exact h k hk
def qz(l:List (Str×V))(fs:List (Str×V)):List (Str×V):=l.foldl (fun fs p=>fx p.1 p.2 fs) fs
theorem x8:∀(l fs:List (Str×V)),(qz l fs).length<=fs.length+l.length|[],fs=>aQ _|p::l,fs=>by have h1:=x8 l (fx p.1 p.2 fs);have a:=gY p.1 p.2 fs;show(qz l (fx p.1 p.2 fs)).length<=fs.length+(l.length+1);lia
theorem AG:∀(l fs:List (Str×V)),V9 fs (l.map gC)->(qz l fs).length=fs.length|[],fs,_=>rfl|p::l,fs,h=>by obtain⟨v,hv⟩:=h p.1 (by simp);have h1:=AG l (fx p.1 p.2 fs) (V9.put (fun k hk=>h k (by simp at hk⊢;exact .inr hk)) _ _);exact(sR _ _ _ _ hv)▸h1
section
def Zo(c r px py al:Int):List (Str×V):=[("columns", .int c),("rows", .int r),("px", .int px),("py", .int py),("alt", .int al)]
inductive QR C H(Q:VK):List V->Prop|mk:∀b dx fs (c r px py al),(H b=aa (.ins C dx fs))->(fs.length<=900)->(Q .rH (upd H b (.ins C dx (qz (Zo c r px py al) fs))))->QR C H Q [.ref b, .int c, .int r, .int px, .int py, .int al]
theorem vY:Om Y 1 6 (QR CB):=by refine Y.om ?_;rintro _ H _ Q nd e ⟨b,a,fs,c,r,px,py,al,d,hl,k⟩;refine⟨_,(aI (eK Y.na (pv 0) (pv 1)) (aI (eK Y.na (pv 0) (pv 2)) (aI (eK Y.na (pv 0) (pv 3)) (aI (eK Y.na (pv 0) (pv 4)) (b6 (eK Y.na (pv 0) (pv 5))))))),?_⟩;have h1:=gY "columns" (.int c) fs;have f:=gY "rows" (.int r) (fx "columns" (.int c) fs);have g:=gY "px" (.int px) (fx "rows" (.int r) (fx "columns" (.int c) fs));have h:=gY "py" (.int py) (fx "px" (.int px) (fx "rows" (.int r) (fx "columns" (.int c) fs)));refine⟨b,CB,a,_,Z,d,Z,by lia,b,CB,a,_,Z,aH,Z,by lia,?_⟩;rw[gq];refine⟨b,CB,a,_,Z,aH,Z,by lia,?_⟩;rw[gq];refine⟨b,CB,a,_,Z,aH,Z,by lia,?_⟩;rw[gq];refine⟨b,CB,a,_,Z,aH,Z,by lia,?_⟩;rwa [gq]
def rfs(w h c:Int)(lh lo:Addr):List (Str×V):=[("width", .int w),("height", .int h),("change_cost", .int c),("holes", .ref lh),("order", .ref lo),("columns", .int 1),("rows", .int 1),("px", .int (w+1)),("py", .int (h+1)),("alt", .int 0)]
def names:List Str:=["width","height","change_cost","holes","order","columns","rows","px","py","alt"]
theorem BF.has{lh lo:Addr}(B:BF fs s lh lo):V9 fs names:=fun k hk=>by
 unfold names at hk
 simp only[aZ,dD,or_false] at hk
 rcases hk with rfl|rfl|rfl|rfl|rfl|rfl|rfl|rfl|rfl|rfl
 .exact⟨_,B.wd⟩
 .exact⟨_,B.hg⟩
 .exact⟨_,B.cc⟩
 .exact⟨_,B.hl⟩
 .exact⟨_,B.od⟩
 .exact⟨_,B.co⟩
 .exact⟨_,B.ro⟩
 .exact⟨_,B.px⟩
 .exact⟨_,B.py⟩
 .exact⟨_,B.al⟩
theorem pP(f:Str):∀(l fs:List (Str×V)),f∉l.map gC->(qz l fs).lookup f=fs.lookup f|[],fs,_=>rfl|p::l,fs,h=>by show(qz l (fx p.1 p.2 fs)).lookup f=_;rw[pP f l _ (fun z=>h (by simp at z⊢;exact .inr z)),fA,ak (fun z=>h (by simp[z]))]
theorem QS(a b fs:List (Str×V)):qz (a++b) fs=qz b (qz a fs):=by unfold qz;rw[iX]
theorem jx(a b fs:List (Str×V))(h:f∉b.map gC):(qz (a++(f,v)::b) fs).lookup f=aa v:=by rw[QS];show(qz b (fx f v (qz a fs))).lookup f=_;rw[pP f b _ h,fA,ai Z]
theorem QT{w h:Int}{c:Nat}{lh lo:Addr}(a:fs.lookup ("renew":Str)=ae)(b:fs.lookup ("set_panel":Str)=ae)(hl:fs.length<=40\/(V9 fs names/\fs.length<=50)):BF (qz (rfs w h c lh lo) fs) (qV w h c) lh lo:=by
 refine⟨jx [] _ _ (show ¬("width":Str)∈names.drop 1 by decide),jx [_] _ _ (show ¬("height":Str)∈names.drop 2 by decide),jx [_,_] _ _ (show ¬("change_cost":Str)∈names.drop 3 by decide),jx [_,_,_] _ _ (show ¬("holes":Str)∈names.drop 4 by decide),jx [_,_,_,_] _ _ (show ¬("order":Str)∈names.drop 5 by decide),jx [_,_,_,_,_] _ _ (show ¬("columns":Str)∈names.drop 6 by decide),jx [_,_,_,_,_,_] _ _ (show ¬("rows":Str)∈names.drop 7 by decide),jx [_,_,_,_,_,_,_] _ _ (show ¬("px":Str)∈names.drop 8 by decide),jx [_,_,_,_,_,_,_,_] _ _ (show ¬("py":Str)∈names.drop 9 by decide),jx [_,_,_,_,_,_,_,_,_] _ _ (show ¬("alt":Str)∈names.drop 10 by decide),?_,?_,?_⟩
 .rwa [pP _ _ _ (show ¬("renew":Str)∈names by decide)]
 .rwa [pP _ _ _ (show ¬("set_panel":Str)∈names by decide)]
 .rcases hl with hl|⟨h1,d⟩
  .have:=x8 (rfs w h c lh lo) fs;have e:(rfs w h c lh lo).length=10:=rfl;lia
  .rwa [AG _ _ h1]
def Lq(K:aM)(C:Addr)(H:Hp)(b a:Addr)(w h:Int)(c:Nat)(Q:VK):Prop:=∀H' fs' (lh lo),H lh=ae->H lo=ae->BD K H' C b (qV w h c) a fs' lh lo []->fk H H' [b]->Q .rH H'
structure Pre(fs:List (Str×V)):Prop where
 nr:fs.lookup ("renew":Str)=ae
 np:fs.lookup ("set_panel":Str)=ae
 ln:fs.length<=40\/(V9 fs names/\fs.length<=50)
theorem QU{w h:Int}(hw:1<=w/\w<=999999999)(hh:1<=h/\h<=999999999)(a:c<=1000000000):Wf (qV w h c):=by
 refine⟨hw,hh,a,cg _,(fun _ z=>nomatch z),(fun _ z=>nomatch z),fh,Z,⟨aQ _,by show 1<=16;decide⟩,⟨aQ _,by show 1<=16;decide⟩,?_,?_,?_,?_,(fun _ z=>nomatch z),cg _⟩
 .show w<w+1/\w+1<=_;lia
 .show h<h+1/\h+1<=_;lia
 .show 1*(w+1)<=_;lia
 .show 1*(h+1)<=_;lia
theorem tM.byB{b f r dr a lh lo g i j:Addr}{st:State×kc}(k:tM K CB CR H b f r dr a lh lo z st Q)(e:CE K CB CR H b f r dr a lh lo s fs as ns z)(l:st.2=[x])
  (h1:g=lh\/H g=ae) (m:i=lo\/H i=ae) (B:BD K H1 CB b st.1 f fs' g i as') (kp:fk H H1 [b]) (n:H1 j=ae):Q (.ref j) (upd H1 j (.lst [.int x])):=by
 have d:∀{q:Addr},q≠b->q∉[b]:=fun h=>by simpa using h
 refine tM.one k l B (kp _ _ e.rd (d (bF e.rb))) h1 m (kp.same fun x c=>by simp at c;simp[c]) (fun x c=> ?_) n
 simp only[aZ,dD,or_false] at c
 rcases c with rfl|rfl|rfl|rfl
 .exact⟨_,B.at_⟩
 .exact⟨_,kp _ _ e.bd.hl.lst (d (bF e.bd.VP))⟩
 .exact⟨_,kp _ _ e.bd.ol (d (bF e.bd.nbo))⟩
 .exact⟨_,kp _ _ e.rd (d (bF e.rb))⟩
theorem cF{H:Hp}(h:H a=aa o)(b:H p=ae):p≠a:=(aS h b).symm
inductive Lr K C H(Q:VK):List V->Prop|mk:∀b dx fs (w h) (c:Nat),(H b=aa (.ins C dx fs))->(Pre fs)->((1<=w/\w<=999999999))->((1<=h/\h<=999999999))->(c<=1000000000)->(Lq K C H b dx w h c Q)->Lr K C H Q [.ref b, .int w, .int h, .int c]
theorem Hv:Om Y 2 5 (Lr K CB):=by
 refine Y.om ?_;rintro _ H _ Q nd r ⟨b,d,fs,w,h,c,s,e,hw,hh,t,k⟩;refine⟨_,(aI (eK Y.na (pv 0) (pv 1)) (aI (eK Y.na (pv 0) (pv 2)) (aI (eK Y.na (pv 0) (pv 3)) (aI (eK Y.na (pv 0) (cT gW)) (aI (eK Y.na (pv 0) (cT gW)) (b6 (cQ (Tx (vY Y) r.mono (pv 0) (aR aY (aR aY (aR (cu dJ (pv 1) aY) (aR (cu dJ (pv 2) aY) (cO aY))))))))))))),?_⟩;have u:fs.length<=50:=by rcases e.ln with z|z<;>lia
 have h1:=gY "width" (.int w) fs;have x:=gY "height" (.int h) (fx "width" (.int w) fs);have y:=gY "change_cost" (.int c) (fx "height" (.int h) (fx "width" (.int w) fs));refine⟨b,CB,d,_,Z,s,Z,by lia,b,CB,d,_,Z,aH,Z,by lia,?_⟩;rw[gq];refine⟨b,CB,d,_,Z,aH,Z,by lia,?_⟩;rw[gq];refine⟨zl,fun lh i=> ?_⟩;have f:=cF aH i;have m:H lh=none:=by rw[aL f] at i;exact i
 refine⟨b,CB,d,_,Z,(aL (bF f)).trans aH,Z,by lia,?_⟩;refine⟨zl,fun lo g=> ?_⟩;have a:=cF aH g;have j:=cF ((aL f).trans aH) g;have n:H lo=none:=by rw[aL a,aL j,aL a] at g;exact g
 have A:=gY "holes" (.ref lh) (fx "change_cost" (.int c) (fx "height" (.int h) (fx "width" (.int w) fs)));refine⟨b,CB,d,_,Z,(aL (bF a)).trans aH,Z,by lia,?_⟩;have B:=gY "order" (.ref lo) (fx "holes" (.ref lh) (fx "change_cost" (.int c) (fx "height" (.int h) (fx "width" (.int w) fs))));refine⟨b,d,_,Z,aH,?_,_,_,Z,Z,_,_,Z,Z,b,d,_,1,1,w+1,h+1,0,aH,by lia,?_⟩
 .rw[fA,ak (by decide),fA,ak (by decide),fA,ak (by decide),fA,ak (by decide),fA,ak (by decide)];exact e.np
 rw[gq];refine k _ _ lh lo m n ⟨aH,QT (w:=w) (h:=h) (c:=c) (lh:=lh) (lo:=lo) e.nr e.np e.ln,⟨?_, .nil⟩,?_,bF j,QU hw hh t⟩ fun q o p v=> ?_
 .rw[aL f,aL (bF j),aL f,aH];rfl
 .rw[aL a,aH];rfl
 .have l:q≠b:=fun z=>v (by simp[z]);rwa [aL l,aL (aS p n),aL l,aL (aS p m),aL l]
inductive Ls K C H(Q:VK):List V->Prop|mk:∀b dx,(H b=aa (.ins C dx []))->(Lq K C H b dx 1000 1000 0 Q)->Ls K C H Q [.ref b]
theorem QX:Om Y 3 4 (Ls K CB):=by refine Y.om ?_;rintro _ H _ Q nd d ⟨b,a,c,k⟩;exact⟨_,(b6 (cQ (Tx (Hv Y) d.mono (pv 0) (aR (d_ Y.ci) (aR (d_ Y.ci) (cO (d_ Y.ci))))))),b,a,_,Z,c,Z,b,a,[],1000,1000,0,c,⟨Z,Z, .inl (by decide)⟩,by decide,by decide,by decide,k⟩
inductive aa6 K C H(Q:VK):List V->Prop|mk:∀b dx lh lo s fs as (w h c),(BD K H C b s dx fs lh lo as)->(∀H' v fs' (mF lu) as',(Vbpcak.step s (.board w h c)).2=[v]->(mF=lh\/H mF=ae)->(lu=lo\/H lu=ae)->BD K H' C b (Vbpcak.step s (.board w h c)).1 dx fs' mF lu as'->fk H H' [b]->Q (.int v) H')->aa6 K C H Q [.ref b, .int w, .int h, .int c]
theorem AH:Ok Y 3 128 (aa6 K CB):=by
 refine Y.ok ?_;rintro _ H _ Q nd i ⟨b,g,lh,lo,s,fs,as,w,h,c,B,k⟩;refine⟨_,(aI (da (gV (PW.pt (nF (gw gv gv aY (pv 1) (d_ Y.ci)) (lC (gw gv gv aY (pv 2) (d_ Y.ci)))))) (cy (d_ Y.ci)) ck) (aI (da (gV (gw gv gv aY (pv 3) (d_ Y.ci))) (cy (d_ Y.ci)) ck) (aI (cQ (Tx (Hv Y) i.mono (pv 0) (aR (pv 1) (aR (pv 2) (cO (pv 3)))))) (cy aY)))),?_⟩;have e:=fun z=>by
  have f:Vbpcak.step s (.board w h c)=(s,[-1]):=by unfold Vbpcak.step;exact jw z
  rw[f] at k;exact k H _ fs lh lo as Z (.inl rfl) (.inl rfl) B (fk.of (cI.refl _))
 refine kg vC (vV Z) vC ?_
 cases c1:Vbpcak.within 1 w (eI-1) with
 |false=>rw[show(ah (1<=w)&&ah (w<=999999999))=ag from c1];exact e (by rw[c1];rfl)
 |true=>
  rw[show(ah (1<=w)&&ah (w<=999999999))=af from c1];refine lI (kg vC (vV Z) vC ?_)
  cases a:Vbpcak.within 1 h (eI-1) with
  |false=>rw[show(ah (1<=h)&&ah (h<=999999999))=ag from a];exact e (by rw[c1,a];rfl)
  |true=>
   rw[show(ah (1<=h)&&ah (h<=999999999))=af from a];refine kN ?_;dsimp only[FY,uq,Me,Mc];refine kg vC (vV Z) vC ?_
   cases d:Vbpcak.within 0 c eI with
   |false=>rw[show(ah (0<=c)&&ah (c<=1000000000))=ag from d];exact e (by rw[c1,a,d];rfl)
   |true=>
    rw[show(ah (0<=c)&&ah (c<=1000000000))=af from d];obtain⟨t,j⟩:=kh c1;obtain⟨u,l⟩:=kh a;obtain⟨v,m⟩:=kh d;simp only[eI] at j l m;obtain⟨n,rfl⟩:∃n:Nat,c=n:=⟨c.toNat,by lia⟩;have f:Vbpcak.step s (.board w h n)=(qV w h n,[0]):=by unfold Vbpcak.step;exact eD (by rw[c1,a,d];rfl)
    rw[f] at k;exact kN ⟨b,g,fs,Z,B.at_,B.bf.nr,b,g,fs,w,h,n,B.at_,⟨B.bf.nr,B.bf.np, .inr ⟨B.bf.has,B.bf.ln⟩⟩,⟨by lia,by lia⟩,⟨by lia,by lia⟩,by lia,fun H' fs' o p h1 q r kp=>k H' _ fs' o p [] rfl (.inr h1) (.inr q) r kp⟩
theorem Cb:Ok Y 4 157 (sp3 K CB CR .board):=by refine Y.ok ?_;rintro _ H _ Q nd g ⟨b,j,r,dr,a,lh,lo,s,fs,as,ns,z,x,y,d,e,l,n,hd,k⟩;have h:=fun z'=>oN a z' (m:=("take":Str)) (by decide+kernel) (by decide+kernel);refine⟨_,(aI (bB 2 (jd (gP Y) g.mono (pv 1))) (aI (bB 3 (jd (gP Y) g.mono (pv 1))) (aI (bB 4 (jd (gP Y) g.mono (pv 1))) (cy (cT (cO (cP (AH Y) g.mono (aR (pv 0) (aR (pv 2) (aR (pv 3) (cO (pv 4)))))))))))),?_⟩;have c:=e.taken (z+1);refine⟨r,dr,_,Z,e.rd,h _,r,dr,a,ns,z,x,e.rd,e.sq,l,?_⟩;have f:=c.taken (z+2);refine⟨r,dr,_,Z,c.rd,h _,r,dr,a,ns,z+1,y,c.rd,c.sq,n,?_⟩;have i:=f.taken (z+3);refine⟨r,dr,_,Z,f.rd,h _,r,dr,a,ns,z+2,d,f.rd,f.sq,hd,?_⟩;refine⟨b,j,lh,lo,s,fs,as,x,y,d,i.bd,fun A v fs' B C p hv q t u kp=>⟨zl,fun D w=> ?_⟩⟩;exact(((k.taken (z':=z) (o:= .ins CR dr (rf a ((z+1:Nat):Int))) ⟨_,e.rd⟩).taken (z':=z) (o:= .ins CR dr (rf a ((z+2:Nat):Int))) ⟨_,c.rd⟩).taken (z':=z) (o:= .ins CR dr (rf a ((z+3:Nat):Int))) ⟨_,f.rd⟩).byB i hv q t u kp w
end
end
section
open Vbpcak (Hole State)
section
theorem vF(h:σ[i]? =aa (aa (.ref b)))(a:H b=aa (.ins C dx fs))(c:Vi.elem (C,f)=af)(l:fs.lookup f=aa v):∀Q:VK,Q v H->W5 (oV i) f σ H Q:=fun Q q=>CG h ⟨b,C,dx,fs,v,Z,a,c,l,q⟩
theorem Lu{p q:Int->Int->Bool}(a:∀Q:VK,Q (.int l) H->ta σ H Q)(b:∀Q:VK,Q (.int x) H->tb σ H Q)(c:∀Q:VK,Q (.int h) H->tc σ H Q)(k:Q (.bl (p l x&&q x h)) H):
  D9 (IK fun i j=> .bl (p i j)) (IK fun i j=> .bl (q i j)) ta tb tc σ H Q:=by
 refine a _ (b _ ⟨l,x,Z,Z,_,Z,?_⟩)
 cases e:p l x with
 |true=>
  rw[e] at k
  exact c _ ⟨x,h,Z,Z,k⟩
 |false=>
  rw[e] at k
  exact k
def Hw(s:State)(c r px py al:Int):Bool:=Vbpcak.within 1 c 16&&(Vbpcak.within 1 r 16&&(Vbpcak.within (s.w+1) px eI&&(Vbpcak.within (s.h+1) py eI&&Vbpcak.within 0 al 1)))
inductive V_ K C H(Q:VK):List V->Prop|mk:∀b dx lh lo s fs as (c r px py al),(BD K H C b s dx fs lh lo as)->(Q (.bl (Hw s c r px py al)) H)->V_ K C H Q [.ref b, .int c, .int r, .int px, .int py, .int al]
theorem Dy(a x b:Int):(ah (a<x)&&ah (x<=b))=Vbpcak.within (a+1) x b:=by congr 1
theorem r9:Ok Y 1 59 (V_ K CB):=by
 refine Y.ok ?_;rintro _ H _ Q nd h ⟨b,i,lh,lo,s,fs,as,c,r,px,py,al,B,k⟩;refine⟨_,(aI (da (gV (PW.pt (nF (gw gv gv aY (pv 1) (d_ Y.ci)) (lC (gw gv gv aY (pv 2) (d_ Y.ci)))))) (cy mV) ck) (aI (da (gV (PW.pt (nF (gw lG gv (bS Y.na (pv 0)) (pv 3) (d_ Y.ci)) (lC (gw lG gv (bS Y.na (pv 0)) (pv 4) (d_ Y.ci)))))) (cy mV) ck) (cy (zJ gv gv aY (pv 5) aY)))),?_⟩;have a:∀v,Hw s c r px py al=v->Q (.bl v) H:=fun v e=>by subst e;exact k
 unfold Hw at a;refine kg vC (vV Z) vC ?_;rw[show(ah (1<=c)&&ah (c<=16))=Vbpcak.within 1 c 16 from rfl];cases c1:Vbpcak.within 1 c 16 with|false=>exact a _ (by rw[c1];rfl)|true=>refine lI (kg vC (vV Z) vC ?_);rw[show(ah (1<=r)&&ah (r<=16))=Vbpcak.within 1 r 16 from rfl];cases d:Vbpcak.within 1 r 16 with|false=>exact a _ (by rw[c1,d];rfl)|true=>refine kN ?_;dsimp only[FY,uq,Me,Mc,Oe];refine kg (vF Z B.at_ Z B.bf.wd) (vV Z) vC ?_;rw[show(ah (s.w<px)&&ah (px<=1000000000))=Vbpcak.within (s.w+1) px eI from Dy _ _ _];cases f:Vbpcak.within (s.w+1) px eI with|false=>exact a _ (by rw[c1,d,f];rfl)|true=>refine lI (kg (vF Z B.at_ Z B.bf.hg) (vV Z) vC ?_);rw[show(ah (s.h<py)&&ah (py<=1000000000))=Vbpcak.within (s.h+1) py eI from Dy _ _ _];cases g:Vbpcak.within (s.h+1) py eI with|false=>exact a _ (by rw[c1,d,f,g];rfl)|true=>refine kN (Lu vC (vV Z) vC ?_);exact a _ (by rw[c1,d,f,g];rfl)
inductive aa7 K C H(Q:VK):List V->Prop|mk:∀b dx lh lo s fs as (c r px py al),(BD K H C b s dx fs lh lo as)->(∀H' v fs',(Vbpcak.step s (.panel c r px py al)).2=[v]->BD K H' C b (Vbpcak.step s (.panel c r px py al)).1 dx fs' lh lo as->fk H H' [b]->Q (.int v) H')->aa7 K C H Q [.ref b, .int c, .int r, .int px, .int py, .int al]
def uF:List Str:=["columns","rows","px","py","alt"]
theorem QY{lh lo:Addr}{c r:Nat}(B:BF fs s lh lo):BF (qz (Zo (c:Int) (r:Int) px py (if al=af then 1 else 0)) fs) {s with panel:=⟨c,r,px,py,al⟩} lh lo:=by have g:∀f:Str,¬f∈uF->(qz (Zo (c:Int) (r:Int) px py (if al=af then 1 else 0)) fs).lookup f=fs.lookup f:=fun f h=>pP f _ _ h;refine⟨(g _ (by decide)).trans B.wd,(g _ (by decide)).trans B.hg,(g _ (by decide)).trans B.cc,(g _ (by decide)).trans B.hl,(g _ (by decide)).trans B.od,jx [] _ _ (show ¬("columns":Str)∈uF.drop 1 by decide),jx [_] _ _ (show ¬("rows":Str)∈uF.drop 2 by decide),jx [_,_] _ _ (show ¬("px":Str)∈uF.drop 3 by decide),jx [_,_,_] _ _ (show ¬("py":Str)∈uF.drop 4 by decide),jx [_,_,_,_] _ _ (show ¬("alt":Str)∈uF.drop 5 by decide),(g _ (by decide)).trans B.nr,(g _ (by decide)).trans B.np,?_⟩;rw[(AG _ _ (fun k hk=>B.has k ((show∀k∈uF,k∈names by decide) k hk)):(qz (Zo (c:Int) (r:Int) px py (if al=af then 1 else 0)) fs).length=fs.length)];exact B.ln
theorem BD.panel{b d lh lo:Addr}(B:BD K H CB b s d fs lh lo as)(wf:Wf {s with panel:=⟨c,r,px,py,al⟩}):
  BD K (upd H b (.ins CB d (qz (Zo (c:Int) (r:Int) px py (if al=af then 1 else 0)) fs))) CB b {s with panel:=⟨c,r,px,py,al⟩} d (qz (Zo (c:Int) (r:Int) px py (if al=af then 1 else 0)) fs) lh lo as:=by
 refine⟨aH,QY B.bf,⟨?_,?_⟩,?_,B.ne,wf⟩
 .exact(aL (bF B.VP))▸B.hl.lst
 .refine B.hl.at_.mono fun a h q=> ?_
  rcases q with(q|⟨o,q⟩)|q
  .refine .inl (.inl ?_)
   rwa [aL (dE q B.at_ (by intro z;cases z))]
  .refine .inl (.inr ⟨o,?_⟩)
   rwa [aL (dE q B.at_ (by intro z;cases z))]
  .exact .inr q
 .exact(aL (bF B.nbo))▸B.ol
theorem yJ:Ok Y 2 60 (aa7 K CB):=by
 refine Y.ok ?_;rintro _ H _ Q nd e ⟨b,d,lh,lo,s,fs,as,c,r,px,py,al,B,k⟩;refine⟨_,(aI (da (gV (jv (cP (r9 Y) e.mono (aR (pv 0) (aR (pv 1) (aR (pv 2) (aR (pv 3) (aR (pv 4) (cO (pv 5)))))))) (fun _=>rfl))) (cy (d_ Y.ci)) ck) (aI (da (PW.pt (xQ (cK mB (cu oX (pv 1) (pv 3)) (d_ Y.ci)) (uo (cK mB (cu oX (pv 2) (pv 4)) (d_ Y.ci))))) (cy (d_ Y.ci)) ck) (aI (da (jv (cP (jY Y) e.mono (aR (dZ Y.nn (bS Y.na (pv 0))) (aR (pv 1) (cO (pv 2))))) (fun _=>rfl)) (cy (d_ Y.ci)) ck) (aI (cQ (Tx (vY Y) e.mono (pv 0) (aR (pv 1) (aR (pv 2) (aR (pv 3) (aR (pv 4) (cO (pv 5)))))))) (cy aY))))),?_⟩;refine⟨b,d,lh,lo,s,fs,as,c,r,px,py,al,B,?_⟩;refine⟨_,Z,?_⟩
 cases c1:Hw s c r px py al with
 |false=>
  have f:Vbpcak.step s (.panel c r px py al)=(s,[-1]):=by unfold Vbpcak.step;exact jw c1
  rw[f] at k;exact k H _ fs Z B (fk.of (cI.refl _))
 |true=>
  have f:Vbpcak.step s (.panel c r px py al)=gG s [(ah (c*px<=eI/\r*py<=eI),-2),(ah (s.holes.length*c*r<=gg),-4)] fun _=>({s with panel:=⟨c.toNat,r.toNat,px,py,al==1⟩},[0]):=by unfold Vbpcak.step;exact eD c1
  rw[f] at k;unfold Hw at c1;rw[bq,bq,bq,bq] at c1;obtain⟨c1,t,u,v,w⟩:=c1;obtain⟨E,F⟩:=kh c1;obtain⟨G,I⟩:=kh t;obtain⟨J,l⟩:=kh u;obtain⟨L,o⟩:=kh v;obtain⟨M,x⟩:=kh w;simp only[eI] at l o;refine kN ⟨_,_,Z,Z, .inl ⟨by lia,by lia⟩,_,_,Z,Z,_,Z,?_⟩;have big:=fun z=>by rw[jw (aw z)] at k;exact k H _ fs Z B (fk.of (cI.refl _))
  refine e_ (fun g=>lI (big fun z=>by have:=aq g;simp only[eI] at z;lia)) (fun g=> ?_);have y:=AA g;refine⟨_,_,Z,Z, .inl ⟨by lia,by lia⟩,_,_,Z,Z,_,Z,?_⟩;refine e_ (fun h=>big fun z=>by have:=aq h;simp only[eI] at z;lia) (fun h=> ?_);have A:=AA h;have i:c*px<=eI/\r*py<=eI:=⟨by show c*px<=1000000000;lia,by show r*py<=1000000000;lia⟩;rw[eD (au i)] at k;obtain⟨m,rfl⟩:∃n:Nat,c=n:=⟨c.toNat,by lia⟩;obtain⟨n,rfl⟩:∃n:Nat,r=n:=⟨r.toNat,by lia⟩;have C:(as.map V.ref).length=s.holes.length:=by rw[aE,B.hl.len]
  have N:=B.wf.qk;refine⟨b,CB,d,fs,_,Z,B.at_,Z,B.bf.hl,lh,_,Z, .inl (.of B.hl.lst),s.holes.length,m,n,?_,by lia,by lia,by lia,_,Z,?_⟩
  .rw[C]
  have p:(s.holes.length*m*(n:Int)<=(gg:Int))↔s.holes.length*m*n<=gg:=by rw[<-Int.ofNat_le];push_cast;exact Iff.rfl
  by_cases a:s.holes.length*m*n<=gg
  .rw[au a];rw[eD (au (p.mpr a))] at k;have D:al=0\/al=1:=by lia
   have j:al=if(al==1)=af then 1 else 0:=by rcases D with rfl|rfl<;>rfl
   have wf:Wf {s with panel:=⟨m,n,px,py,al==1⟩}:=by have W:=B.wf;refine⟨W.w1,W.h1,W.c1,W.qk,W.tools,W.ord,W.nd,W.rY,⟨by show 1<=m;lia,by show m<=16;lia⟩,⟨by show 1<=n;lia,by show n<=16;lia⟩,⟨by show s.w<px;lia,l⟩,⟨by show s.h<py;lia,o⟩,i.1,i.2,W.on,a⟩
   have q:=B.panel wf;refine kN ⟨b,d,fs,Z,B.at_,B.bf.np,b,d,fs,(m:Int),(n:Int),px,py,al,B.at_,by have:=B.bf.ln;lia,?_⟩;rw[<-j] at q;exact k _ _ _ Z q ik
  .rw[aw a];rw[jw (aw fun z=>a (p.mp z))] at k;exact k H _ fs Z B (fk.of (cI.refl _))
inductive sp5 K(CB CR)(c:Int->Int->Int->Int->Int->Vbpcak.Call) H(Q:VK):List V->Prop|mk:∀b dx r dr a lh lo s fs as ns z (x1 x2 x3 x4 x5),(CE K CB CR H b dx r dr a lh lo s fs as ns z)->(ns[z]? =aa x1)->(ns[z+1]? =aa x2)->(ns[z+2]? =aa x3)->(ns[z+3]? =aa x4)->(ns[z+4]? =aa x5)->(tM K CB CR H b dx r dr a lh lo (z+5) (Vbpcak.step s (c x1 x2 x3 x4 x5)) Q)->sp5 K CB CR c H Q [.ref b, .ref r]
theorem Cc:Ok Y 3 171 (sp5 K CB CR .panel):=by refine Y.ok ?_;rintro _ H _ Q nd c ⟨b,u,r,dr,a,lh,lo,s,fs,as,ns,z,j,l,n,p,q,e,w,x,y,A,B,k⟩;have d:=fun z'=>oN a z' (m:=("take":Str)) (by decide+kernel) (by decide+kernel);refine⟨_,(aI (bB 2 (jd (gP Y) c.mono (pv 1))) (aI (bB 3 (jd (gP Y) c.mono (pv 1))) (aI (bB 4 (jd (gP Y) c.mono (pv 1))) (aI (bB 5 (jd (gP Y) c.mono (pv 1))) (aI (bB 6 (jd (gP Y) c.mono (pv 1))) (cy (cT (cO (cP (yJ Y) c.mono (aR (pv 0) (aR (pv 2) (aR (pv 3) (aR (pv 4) (aR (pv 5) (cO (pv 6)))))))))))))))),?_⟩;have f:=e.taken (z+1);refine⟨r,dr,_,Z,e.rd,d _,r,dr,a,ns,z,j,e.rd,e.sq,w,?_⟩;have g:=f.taken (z+2);refine⟨r,dr,_,Z,f.rd,d _,r,dr,a,ns,z+1,l,f.rd,f.sq,x,?_⟩;have h:=g.taken (z+3);refine⟨r,dr,_,Z,g.rd,d _,r,dr,a,ns,z+2,n,g.rd,g.sq,y,?_⟩;have i:=h.taken (z+4);have C:=(((k.taken (z':=z) (o:= .ins CR dr (rf a ((z+1:Nat):Int))) ⟨_,e.rd⟩).taken (z':=z) (o:= .ins CR dr (rf a ((z+2:Nat):Int))) ⟨_,f.rd⟩).taken (z':=z) (o:= .ins CR dr (rf a ((z+3:Nat):Int))) ⟨_,g.rd⟩).taken (z':=z) (o:= .ins CR dr (rf a ((z+4:Nat):Int))) ⟨_,h.rd⟩;refine⟨r,dr,_,Z,h.rd,d _,r,dr,a,ns,z+3,p,h.rd,h.sq,A,?_⟩;have t:=i.taken (z+5);refine⟨r,dr,_,Z,i.rd,d _,r,dr,a,ns,z+4,q,i.rd,i.sq,B,?_⟩;refine⟨b,u,lh,lo,s,fs,as,j,l,n,p,q,t.bd,fun F v fs' hv D kp=>⟨zl,fun G E=> ?_⟩⟩;exact(C.taken (z':=z) (o:= .ins CR dr (rf a ((z+5:Nat):Int))) ⟨_,i.rd⟩).byB t hv (.inl rfl) (.inl rfl) D kp E
end
end
section
open Vbpcak (Hole State)
structure x9(H:Hp) l(as:List Addr) hs:Prop where
 lst:H l=aa (.lst (as.map V.ref))
 at_:Paired (fun a h=>H a=aa (.tup (hv h))) as hs
theorem x9.hl{K:aM}(h:x9 H l as hs):HL K H l as hs:=⟨h.lst,h.at_.mono fun _ _ q=> .of q⟩
theorem x9.same(h:x9 H l as hs)(e:cI H H'):x9 H' l as hs:=⟨e _ _ h.lst,h.at_.mono fun _ _ q=>e _ _ q⟩
theorem x9.len(h:x9 H l as hs):as.length=hs.length:=h.at_.length
theorem j0{a b:Type}{F:a->b->Prop}:∀{l c:List a} {m d:List b},Paired F l m->Paired F c d->Paired F (l++c) (m++d)|_,_,_,_, .nil,h=>h|_,_,_,_, .cons f r,h=> .cons f (j0 r h)
theorem x9.snoc(g:x9 H l as hs)(b:H p=ae):x9 (upd (upd H p (.tup (hv h))) l (.lst (as.map V.ref++[.ref p]))) l (as++[p]) (hs++[h]):=by
 refine⟨by rw[aH,a_];rfl,j0 (g.at_.mono fun a z q=> ?_) (.cons ?_ .nil)⟩
 .rwa [aL (dE q g.lst (by intro z;cases z)),aL (aS q b)]
 .rw[aL ((aS g.lst b).symm),aH]
theorem x9.ext(g:x9 H l as hs)(e:x9 H k bs gs):x9 (upd H l (.lst (as.map V.ref++bs.map V.ref))) l (as++bs) (hs++gs):=by
 have f:∀(a:Addr) (z:Hole),H a=aa (.tup (hv z))->upd H l (.lst (as.map V.ref++bs.map V.ref)) a=aa (.tup (hv z)):=fun a z q=>by rwa [aL (dE q g.lst (by intro z;cases z))]
 exact⟨by rw[aH,a_],j0 (g.at_.mono f) (e.at_.mono f)⟩
theorem Yg(e:(p.alt&&(c+r)%2==1)=af):cE w h p c r g=⟨(c:Int)*p.px+w-g.x,(r:Int)*p.py+h-g.y,g.d⟩:=by
 dsimp only[cE];simp only[e,if_true];have h1:w-g.x+c*p.px=c*p.px+w-g.x:=by lia
 have a:h-g.y+r*p.py=r*p.py+h-g.y:=by lia
 rw[h1,a]
theorem Yh(e:(p.alt&&(c+r)%2==1)=ag):cE w h p c r g=⟨(c:Int)*p.px+g.x,(r:Int)*p.py+g.y,g.d⟩:=by unfold cE;simp only[e];rw[Int.add_comm (c*p.px) g.x,Int.add_comm (r*p.py) g.y];rfl
section
inductive Wb K C H(Q:VK):List V->Prop|mk:∀b dx lh lo s fs as (c r:Nat),(BD K H C b s dx fs lh lo as)->(Q (.bl (s.panel.alt&&(c+r)%2==1)) H)->Wb K C H Q [.ref b, .int c, .int r]
theorem EX:Ok Y 1 61 (Wb K CB):=by
 refine Y.ok ?_;rintro _ H _ Q nd f ⟨b,d,lh,lo,s,fs,as,c,r,B,k⟩;refine⟨_,(cy (D7 (kT jt (bS Y.na (pv 0)) aY) (zE (kT jt (cu W3 (cu dJ (pv 1) (pv 2)) aY) aY)))),b,CB,d,fs,_,Z,B.at_,Z,B.bf.al,Z,_,Z,?_⟩;dsimp only[lF]
 cases a:s.panel.alt with
 |false=>rw[a] at k;exact k
 |true=>
  rw[a] at k;refine lI ⟨_,_,Z,Z,_,_,Z,Z,(by decide),Z,?_⟩;have e:ah (V.int ((c+r)%2)=V.int 1)=(af&&(c+r)%2==1):=by rw[lF,cX,iR];simp only[beq_iff_eq];lia
  rwa [e]
inductive Hx K C H(Q:VK)(vs:List V):Prop|mk:∀b dx lh lo s fs as (c r:Nat),(vs=[.ref b, .int c, .int r])->(BD K H C b s dx fs lh lo as)->(c<16)->(r<16)->(∀p cs H',H p=ae->cI H H'->x9 H' p cs (s.holes.map (cE s.w s.h s.panel c r))->Q (.ref p) H')->Hx K C H Q vs
theorem qS:Ok Y 2 62 (Hx K CB):=by
 refine Y.okN ["board","column","row","left","bottom","right","top","hole"] ?_;rintro _ H _ Q nd w ⟨b,j,lh,lo,s,fs,as,c,r,rfl,B,y,z,k⟩;refine⟨_,(aI (bB 3 (cu oX (pv 1) (bS Y.na (pv 0)))) (aI (bB 4 (cu oX (pv 2) (bS Y.na (pv 0)))) (aI (da (jv (cP (EX Y) w.mono (aR (pv 0) (aR (pv 1) (cO (pv 2))))) (fun _=>rfl)) (aI (bB 5 (cu dJ (pv 3) (bS Y.na (pv 0)))) (aI (bB 6 (cu dJ (pv 4) (bS Y.na (pv 0)))) (cy (Eo [("hole",7)] (eM (bS Y.na (pv 0))) (cJ 7) iu (nG (aR (cu fK (pv 5) (bM i_ (pv 7) aY)) (aR (cu fK (pv 6) (bM i_ (pv 7) aY)) (cO (bM i_ (pv 7) aY))))))))) ck) (cy (Eo [("hole",7)] (eM (bS Y.na (pv 0))) (cJ 7) iu (nG (aR (cu dJ (pv 3) (bM (i_ (K:=K)) (pv 7) aY)) (aR (cu dJ (pv 4) (bM (i_ (K:=K)) (pv 7) aY)) (cO (bM (i_ (K:=K)) (pv 7) aY)))))))))),?_⟩;have v:=B.wf.qk;refine⟨b,CB,j,fs,_,Z,B.at_,Z,B.bf.px,_,_,Z,Z, .inl ⟨by lia,by lia⟩,?_⟩;refine⟨b,CB,j,fs,_,Z,B.at_,Z,B.bf.py,_,_,Z,Z, .inl ⟨by lia,by lia⟩,?_⟩;refine⟨b,j,lh,lo,s,fs,as,c,r,B,_,Z,?_⟩;refine e_ (fun c1=> ?_) (fun c1=> ?_)
 .refine⟨b,CB,j,fs,_,Z,B.at_,Z,B.bf.wd,_,_,Z,Z,?_⟩;refine⟨b,CB,j,fs,_,Z,B.at_,Z,B.bf.hg,_,_,Z,Z,?_⟩;refine⟨b,CB,j,fs,_,Z,B.at_,Z,B.bf.hl,lh,Z,⟨_, .of B.hl.lst⟩,fun D l=> ?_⟩;refine i9 (K:=K) (a:=lh) (xs:=as.map V.ref) (fun i H'=>cI H H'/\∃cs,x9 H' D cs ((s.holes.take i).map (cE s.w s.h s.panel c r))) ⟨aN l,[],aH, .nil⟩ (fun i H' _ q=> .of (q.1 _ _ B.hl.lst)) ?_ ?_
  .rintro i x H' o ⟨f,cs,d⟩;obtain⟨a,t,rfl⟩:=hU o;obtain⟨g,hg,u⟩:=dj B.hl.at_ t;have m:=fj f u;refine⟨Z,?_⟩;refine⟨a,hv g,_,_,Z,Z,m,Z,_,_,Z,Z,a,hv g,_,_,Z,Z,m,Z,_,_,Z,Z,a,hv g,_,_,Z,Z,m,Z,zl,fun p n=> ?_⟩;refine⟨_,(aL (bF ((aS d.lst n).symm))).trans d.lst,?_,cD (f.trans (aN n)) l,cs++[p],?_⟩
   .rw[aE,d.len,aE,bA];exact bo (eU _ _) (bo v (by decide))
   .rw[take_snoc hg,a_];have e:hv (cE s.w s.h s.panel c r g)=[.int ((c:Int)*s.panel.px+s.w-g.x), .int ((r:Int)*s.panel.py+s.h-g.y), .int (g.d:Int)]:=by rw[Yg c1];rfl
    have:=d.snoc (h:=cE s.w s.h s.panel c r g) n;rw[e] at this;exact this
  .rintro H' ⟨f,cs,d⟩;have e:s.holes.take (as.map V.ref).length=s.holes:=b8 (by rw[aE,B.hl.len];exact aQ _);rw[e] at d;exact k D cs H' l f d
 .refine⟨b,CB,j,fs,_,Z,B.at_,Z,B.bf.hl,lh,Z,⟨_, .of B.hl.lst⟩,fun D l=> ?_⟩;refine i9 (K:=K) (a:=lh) (xs:=as.map V.ref) (fun i H'=>cI H H'/\∃cs,x9 H' D cs ((s.holes.take i).map (cE s.w s.h s.panel c r))) ⟨aN l,[],aH, .nil⟩ (fun i H' _ q=> .of (q.1 _ _ B.hl.lst)) ?_ ?_
  .rintro i x H' o ⟨f,cs,d⟩;obtain⟨a,t,rfl⟩:=hU o;obtain⟨g,hg,u⟩:=dj B.hl.at_ t;have m:=fj f u;refine⟨Z,?_⟩;refine⟨a,hv g,_,_,Z,Z,m,Z,_,_,Z,Z,a,hv g,_,_,Z,Z,m,Z,_,_,Z,Z,a,hv g,_,_,Z,Z,m,Z,zl,fun p n=> ?_⟩;refine⟨_,(aL (bF ((aS d.lst n).symm))).trans d.lst,?_,cD (f.trans (aN n)) l,cs++[p],?_⟩
   .rw[aE,d.len,aE,bA];exact bo (eU _ _) (bo v (by decide))
   .rw[take_snoc hg,a_];have e:hv (cE s.w s.h s.panel c r g)=[.int ((c:Int)*s.panel.px+g.x), .int ((r:Int)*s.panel.py+g.y), .int (g.d:Int)]:=by rw[Yh (pY.mpr c1)];rfl
    have:=d.snoc (h:=cE s.w s.h s.panel c r g) n;rw[e] at this;exact this
  .rintro H' ⟨f,cs,d⟩;rw[(b8 (by rw[aE,B.hl.len];exact aQ _))] at d;exact k D cs H' l f d
def qA(s:State)(i:Nat):List Hole:=(List.range i).flatMap fun r=>(List.range s.panel.cols).flatMap fun c=>s.holes.map (cE s.w s.h s.panel c r)
def mJ(s:State)(r j:Nat):List Hole:=(List.range j).flatMap fun c=>s.holes.map (cE s.w s.h s.panel c r)
theorem all_rows(s:State):Vbpcak.all s=qA s s.panel.rows:=by unfold Vbpcak.all Vbpcak.panelHoles Vbpcak.copies qA;rw[List.flatMap_assoc];congr 1;funext r;rw[List.flatMap_map]
theorem uG(s:State)(r:Nat):∀j,(mJ s r j).length=j*s.holes.length
 |0=>by simp[mJ]
 |j+1=>by
  have e:mJ s r (j+1)=mJ s r j++s.holes.map (cE s.w s.h s.panel j r):=by unfold mJ;rw[de,cV];simp
  rw[e,aG,uG s r j,aE,Nat.succ_mul]
theorem Hy(s:State)(r j:Nat):mJ s r (j+1)=mJ s r j++s.holes.map (cE s.w s.h s.panel j r):=by unfold mJ;rw[de,cV];simp
theorem x_(s:State)(i:Nat):qA s (i+1)=qA s i++mJ s i s.panel.cols:=by unfold qA;rw[de,cV];simp[mJ]
theorem uH(s:State):∀i,(qA s i).length=i*(s.panel.cols*s.holes.length)
 |0=>by simp[qA]
 |i+1=>by rw[x_,aG,uH s i,uG,Nat.succ_mul]
theorem Lv(W:Wf s):(Vbpcak.all s).length<=512:=by rw[all_rows,uH];have:=W.full;rwa [y3 s.panel.cols,y3]
inductive aa8 K C H(Q:VK):List V->Prop|mk:∀b dx lh lo s fs as,(BD K H C b s dx fs lh lo as)->(∀p cs H',H p=ae->cI H H'->x9 H' p cs (Vbpcak.all s)->Q (.ref p) H')->aa8 K C H Q [.ref b]
theorem r_:Ok Y 3 63 (aa8 K CB):=by
 refine Y.ok ?_;rintro _ H _ Q nd x ⟨b,h,lh,lo,s,fs,as,B,k⟩;have t:=B.wf.qk;have y:=B.wf.pc;have z:=B.wf.pr;refine⟨_,(aI (bB 1 (cT gW)) (aI (fT (ke Z Y.nn (cO (bS Y.na (pv 0)))) (cJ 2) (b6 (fT (ke Z Y.nn (cO (bS Y.na (pv 0)))) (cJ 3) (b6 (cQ (fV aX eP eQ l6 (pv 1) (cO (cP (qS Y) x.mono (aR (pv 0) (aR (pv 3) (cO (pv 2)))))))))))) (cy (pv 1)))),?_⟩;refine⟨zl,fun p d=> ?_⟩;have u:=B.same (aN (o:= .lst []) d);refine⟨b,CB,h,fs,_,Z,u.at_,Z,u.bf.ro,_,Z,by lia,by lia,?_⟩;rw[show((s.panel.rows:Int)).toNat=s.panel.rows from dw _];refine iE (fun i c H'=>E3 fun l a cs=>A3 (cI H H') (x9 H' p cs (qA s i)) (c=[aa (.ref b),aa (.ref p),l,a])) ⟨ae,ae,[],aN d,⟨aH, .nil⟩,Z⟩ ?_ ?_
 .rintro i c H' D ⟨l,a,cs,e,f,rfl⟩;have v:=B.same e;refine⟨b,CB,h,fs,_,Z,v.at_,Z,v.bf.co,_,Z,by lia,by lia,?_⟩;rw[show((s.panel.cols:Int)).toNat=s.panel.cols from dw _];refine iE (fun j c H'=>E2 fun a cs=>A3 (cI H H') (x9 H' p cs (qA s i++mJ s i j)) (c=[aa (.ref b),aa (.ref p),aa (.int (0+i)),a])) ⟨a,cs,e,by rw[show mJ s i 0=[] from rfl,bZ];exact f,Z⟩ ?_ ?_
  .rintro j c A E ⟨a,m,g,n,rfl⟩;refine⟨.inl ⟨Z,_, .of n.lst⟩,b,h,lh,lo,s,fs,as,j,i,?_,B.same g,by lia,by lia,fun pk C F G w q=> ?_⟩
   .simp only[Int.zero_add]
   have r:=n.same w;refine⟨p,pk,_,_,Z,Z,r.lst,q.lst,?_,?_⟩
   .rw[aE,aE,r.len,q.len,aG,uH,uG,aE];have h1:i*(s.panel.cols*s.holes.length)<=16*(16*48):=u_ (by lia) (u_ (by lia) t);have I:j*s.holes.length<=16*48:=u_ (by lia) t;have:br=16777216:=d8;lia
   .refine⟨_,m++C,cD (g.trans w) d,?_,Z⟩;rw[Hy,<-bJ];exact r.ext q
  .rintro c A ⟨a,m,g,n,rfl⟩;refine⟨_,_,m,g,?_,Z⟩;rwa [x_]
 .rintro c H' ⟨l,a,cs,e,f,rfl⟩;rw[<-all_rows] at f;exact k p cs H' d e f
theorem uI:Ok Y 4 172 (NT K CB CR .panelHoles):=by refine Y.ok ?_;rintro _ H _ Q nd c ⟨b,f,r,dr,a,lh,lo,s,fs,as,ns,z,e,k⟩;have B:=e.bd;have l:=Lv B.wf;exact⟨_,(cy (cP (o9 Y) c.mono (cO (cP (r_ Y) c.mono (cO (pv 0)))))),b,f,lh,lo,s,fs,as,B,fun p cs m n d g=>⟨p,cs,_,g.hl,by lia,fun q o h i j=>k.pure e (d.free h) j (d.trans i)⟩⟩
end
end
section
open Vbpcak (Hole State)
theorem vZ{a d:Type}{f:a->Option d}{z:a}(b:∀x,x≠z->f x=ae):∀{l:List a},z∈l->l.findSome? f=f z
 |[],h=>by simp at h
 |x::r,h=>by
  rw[List.findSome?_cons];by_cases e:x=z
  .subst e
   cases q:f x with
   |some v=>rfl
   |none=>
    rw[DY];intro y g;by_cases c:y=x
    .rw[c,q]
    .exact b y c
  .rw[b x e];have:z∈r:=by
    rcases aZ.mp h with h|h
    .exact az h.symm e
    .exact h
   exact vZ b this
theorem QZ{c:Nat}(b:0<=a)(h1:a<=w)(d:w<p):(a+(c:Int)*p)/p=(c:Int):=by rw[Int.add_mul_ediv_right _ _ (by lia),Int.ediv_eq_zero_of_lt b (by lia)];simp
theorem Um(W:Wf s)(hg:g∈s.holes):(cE s.w s.h s.panel c r g).x/s.panel.px=(c:Int)/\(cE s.w s.h s.panel c r g).y/s.panel.py=(r:Int):=by
 obtain⟨⟨a,b⟩,⟨d,e⟩,_⟩:=W.on g hg;constructor
 .refine QZ ?_ ?_ W.px.1
  .split<;>lia
  .split<;>lia
 .refine QZ ?_ ?_ W.py.1
  .split<;>lia
  .split<;>lia
def findIn(s:State)(x y:Int)(c r:Nat):Option Nat:=(List.range s.holes.length).find? fun i=>ah ((cE s.w s.h s.panel c r (bb s.holes i)).pt=(x,y))
def found(s:State)(x y:Int):Option ((Nat×Nat)×Nat):=(Vbpcak.copies s.panel).findSome? fun z=>(findIn s x y z.1 z.2).map fun i=>(z,i)
theorem ya(W:Wf s){c r:Nat}(h:¬(x/s.panel.px=(c:Int)/\y/s.panel.py=(r:Int))):findIn s x y c r=none:=by unfold findIn;rw[FT];intro i b;rw[gk,aB];intro e;obtain⟨h1,a⟩:=Um W (iO b);have d:(cE s.w s.h s.panel c r (bb s.holes i)).x=x:=congrArg gC e;have f:(cE s.w s.h s.panel c r (bb s.holes i)).y=y:=congrArg oR e;rw[d] at h1;rw[f] at a;exact h ⟨h1,a⟩
theorem AI:(c,r)∈Vbpcak.copies p↔c<p.cols/\r<p.rows:=by
 unfold Vbpcak.copies;simp only[ju,bU,bK,dC];constructor
 .rintro⟨b,h1,d,a,rfl,rfl⟩;exact⟨a,h1⟩
 .rintro⟨h1,a⟩;exact⟨r,a,c,h1,Z,Z⟩
theorem Q0(W:Wf s){c r:Nat}(l:x/s.panel.px=(c:Int))(m:y/s.panel.py=(r:Int))(a:c<s.panel.cols)(b:r<s.panel.rows):found s x y=(findIn s x y c r).map fun i=>((c,r),i):=by
 refine vZ (fun z d=> ?_) (AI.mpr ⟨a,b⟩);rw[ya W (fun h=>d ?_)]
 .rfl
 .obtain⟨h1,e⟩:=h;obtain⟨f,g⟩:=z;have j:f=c:=by simp only at h1;lia
  have k:g=r:=by simp only at e;lia
  rw[j,k]
theorem M4(W:Wf s)(h:¬((0<=x/s.panel.px/\x/s.panel.px<(s.panel.cols:Int))/\(0<=y/s.panel.py/\y/s.panel.py<(s.panel.rows:Int)))):found s x y=none:=by
 unfold found;rw[DY];rintro⟨c,r⟩ a;obtain⟨h1,f⟩:=AI.mp a;rw[ya W (fun e=>h ?_)]
 .rfl
 .obtain⟨b,d⟩:=e;simp only at b d;lia
def Q3(o:Option ((Nat×Nat)×Nat)):List Int:=match o with|some z=>[z.1.1,z.1.2,z.2]|none=>[]
section
inductive Q4 K C H(Q:VK):List V->Prop|mk:∀b dx lh lo s fs as (x y),(BD K H C b s dx fs lh lo as)->(MV H (Q3 (found s x y)) Q)->Q4 K C H Q [.ref b, .int x, .int y]
theorem EY:Ok Y 3 64 (Q4 K CB):=by
 refine Y.ok ?_;rintro _ H _ Q nd hr ⟨b,I,lh,lo,s,fs,as,x,y,B,k⟩;have hpx:=B.wf.px;have hpy:=B.wf.py;have hw:=B.wf.w1;have hh:=B.wf.h1;have hpc:=B.wf.pc;have hpr:=B.wf.pr;have lH:=B.wf.qk;refine⟨_,(aI (bB 3 (cu Ai (pv 1) (bS Y.na (pv 0)))) (aI (bB 4 (cu Ai (pv 2) (bS Y.na (pv 0)))) (aI (da (gV (PW.pt (nF (gw gv lG aY (pv 3) (bS Y.na (pv 0))) (lC (gw gv lG aY (pv 4) (bS Y.na (pv 0))))))) (cy (cT gW)) ck) (aI (fT (KP Z Y.nn (cO (cP (qS Y) hr.mono (aR (pv 0) (aR (pv 3) (cO (pv 4))))))) (D8 Z (kK (cJ 5) (kK (cJ 6) vo))) (b6 (da (PW.pt (nF (cK jt (bM di (pv 6) aY) (pv 1)) (lC (cK jt (bM di (pv 6) aY) (pv 2))))) (cy (cT (aR (pv 3) (aR (pv 4) (cO (pv 5)))))) ck))) (cy (cT gW)))))),?_⟩;refine⟨b,CB,I,fs,_,Z,B.at_,Z,B.bf.px,_,_,Z,Z,⟨by lia,by lia⟩,?_⟩;refine⟨b,CB,I,fs,_,Z,B.at_,Z,B.bf.py,_,_,Z,Z,⟨by lia,by lia⟩,?_⟩;dsimp only[uq,Me,Mc,Oe];have d:=fun h p J=>by rw[M4 B.wf h] at k;exact k p _ J (aN J) aH
 refine kg vC (vV Z) (vF Z B.at_ Z B.bf.co) ?_
 cases c1:(ah (0<=x/s.panel.px)&&ah (x/s.panel.px<s.panel.cols)) with
 |false=>refine⟨zl,d fun h=> ?_⟩;rw[au h.1.1,au h.1.2] at c1;cases c1
 |true=>
  rw[bq] at c1;have a1:=aq c1.1;have a2:=aq c1.2;refine lI (kg vC (vV Z) (vF Z B.at_ Z B.bf.ro) ?_)
  cases f:(ah (0<=y/s.panel.py)&&ah (y/s.panel.py<s.panel.rows)) with
  |false=>refine⟨zl,d fun h=> ?_⟩;rw[au h.2.1,au h.2.2] at f;cases f
  |true=>
   rw[bq] at f;have a3:=aq f.1;have a4:=aq f.2;obtain⟨c,L⟩:∃n:Nat,x/s.panel.px=(n:Int):=⟨(x/s.panel.px).toNat,by lia⟩;obtain⟨r,M⟩:∃n:Nat,y/s.panel.py=(n:Int):=⟨(y/s.panel.py).toNat,by lia⟩;rw[Q0 B.wf L M (by lia) (by lia)] at k;refine kN ⟨b,I,lh,lo,s,fs,as,c,r,?_,B,by lia,by lia,fun p cs U J u w=> ?_⟩
   .rw[<-L,<-M]
   have xS:=w.len;rw[aE] at xS;have Ze:∀(i:Nat),i<s.holes.length->(s.holes.map (cE s.w s.h s.panel c r))[i]? =aa (cE s.w s.h s.panel c r (bb s.holes i)):=fun i A=>by rw[bp,aP A];unfold bb;rw[bh,aP A];rfl
   refine⟨p,_,Z, .of w.lst,PN (K:=K) (a:=p) (xs:=cs.map V.ref) (fun i C H'=>E2 fun(l m:Option V)=>A3 (cI U H') ((∀j<i,(cE s.w s.h s.panel c r (bb s.holes j)).pt≠(x,y))) (C=[aa (.ref b),aa (.int x),aa (.int y),aa (.int (x/s.panel.px)),aa (.int (y/s.panel.py)),l,m])) ⟨ae,ae,cI.refl _,(fun j h=>az h (nZ j)),Z⟩ (by rintro i C H' _ ⟨_,_,e,_,_⟩;exact .of (e _ _ w.lst)) ?_ ?_⟩
   .rintro i v C H' N A ⟨l,m,D,E,rfl⟩ sX;obtain⟨a,W,rfl⟩:=hU A;obtain⟨g,hg,JG⟩:=dj w.at_ W;have X:i<s.holes.length:=by have:=(aV.mp W).1;lia
    rw[Ze i X] at hg;have eg:=aW hg;have F:=D.trans (aN (o:= .tup [.int (i:Nat), .ref a]) sX);have m9:oW K (upd H' N (.tup [.int (i:Nat), .ref a])) a (hv g):= .of (F _ _ JG);refine⟨N,_,Z, .of aH,Z,_,_,Z,_,_,Z,Z,?_⟩;have next:g.pt≠(x,y)->E2 fun(l m:Option V)=>A3 (cI U (upd H' N (.tup [.int (i:Nat), .ref a]))) (∀j<i+1,(cE s.w s.h s.panel c r (bb s.holes j)).pt≠(x,y)) ([aa (.ref b),aa (.int x),aa (.int y),aa (.int (x/s.panel.px)),aa (.int (y/s.panel.py)),aa (.int (i:Nat)),aa (.ref a)]=[aa (.ref b),aa (.int x),aa (.int y),aa (.int (x/s.panel.px)),aa (.int (y/s.panel.py)),l,m]):=fun h=>by
     refine⟨_,_,F,fun j G=> ?_,Z⟩;rcases Nat.lt_succ_iff_lt_or_eq.mp G with z|z
     .exact E j z
     .rw[z,eg];exact h
    refine⟨a,_,_,_,Z,Z,m9,Z,Z,_,Z,?_⟩;refine e_ (fun O=> ?_) (fun O=> ?_)
    .have P:=V.int.inj (aq O);refine⟨a,_,_,_,Z,Z,m9,Z,Z,_,Z,?_⟩;refine e_ (fun R=> ?_) (fun R=> ?_)
     .have S:=V.int.inj (aq R);refine⟨zl,fun q t=> ?_⟩;have T:findIn s x y c r=aa i:=by
       unfold findIn;rw[List.find?_range_eq_some];refine⟨au ?_,bU.mpr X,fun j G=> ?_⟩
       .rw[eg];exact L7 P S
       .rw[gk,aB];exact E j G
      rw[T] at k;refine k q _ ((u.trans F).free t) ((u.trans F).trans (aN t)) ?_;rw[aH,L,M];rfl
     .exact next fun z=>R (au (congrArg V.int (congrArg oR z)))
    .exact next fun z=>O (au (congrArg V.int (congrArg gC z)))
   .rintro C H' ⟨l,m,D,E,rfl⟩;refine⟨zl,fun q t=> ?_⟩;have T:findIn s x y c r=none:=by unfold findIn;rw[FT];intro j G;rw[gk,aB];exact E j (by rw[aE];lia)
    rw[T] at k;exact k q _ ((u.trans D).free t) ((u.trans D).trans (aN t)) aH
inductive sp2 K(CB CR)(c:Int->Int->Vbpcak.Call) H(Q:VK):List V->Prop|mk:∀b dx r dr a lh lo s fs as ns z (x y),(CE K CB CR H b dx r dr a lh lo s fs as ns z)->(ns[z]? =aa x)->(ns[z+1]? =aa y)->(tM K CB CR H b dx r dr a lh lo (z+2) (Vbpcak.step s (c x y)) Q)->sp2 K CB CR c H Q [.ref b, .ref r]
theorem M5(s:State)(x y:Int):Vbpcak.step s (.find x y)=(s,match found s x y with|some _=>1::Q3 (found s x y)|none=>[0]):=by have e:Vbpcak.step s (.find x y)=(s,match found s x y with|some z=>Vbpcak.ints [1,z.1.1,z.1.2,z.2]|none=>[0]):=rfl;rw[e];cases found s x y<;>rfl
theorem EZ:Ok Y 4 173 (sp2 K CB CR .find):=by refine Y.ok ?_;rintro _ H _ Q nd g ⟨b,w,r,dr,a,lh,lo,s,fs,as,ns,z,x,y,e,A,B,k⟩;have l:=fun z'=>oN a z' (m:=("take":Str)) (by decide+kernel) (by decide+kernel);refine⟨_,(aI (bB 2 (jd (gP Y) g.mono (pv 1))) (aI (bB 3 (jd (gP Y) g.mono (pv 1))) (aI (bB 4 (cP (EY Y) g.mono (aR (pv 0) (aR (pv 2) (cO (pv 3)))))) (aI (da (gV (je (pv 4) (fun _=>rfl))) (cy (cT (cO aY))) ck) (cy (cu l7 (cT (cO aY)) (pv 4))))))),?_⟩;have c:=e.taken (z+1);refine⟨r,dr,_,Z,e.rd,l _,r,dr,a,ns,z,x,e.rd,e.sq,A,?_⟩;have h:=c.taken (z+2);have d:=(k.taken (z':=z) (o:= .ins CR dr (rf a ((z+1:Nat):Int))) ⟨_,e.rd⟩).taken (z':=z) (o:= .ins CR dr (rf a ((z+2:Nat):Int))) ⟨_,c.rd⟩;refine⟨r,dr,_,Z,c.rd,l _,r,dr,a,ns,z+1,y,c.rd,c.sq,B,?_⟩;rw[M5] at d;refine⟨b,w,lh,lo,s,fs,as,x,y,h.bd,fun p H' C i j=> ?_⟩;refine⟨_, .inl ⟨_, .of j,Z⟩,?_⟩;cases n:found s x y with|none=>rw[n] at d;refine⟨zl,fun q f=> ?_⟩;exact d.pure h (i.free f) aH (i.trans (aN f))|some z=>rw[n] at d j;refine⟨zl,fun q f=> ?_⟩;have u:=i.trans (aN (o:= .lst [.int 1]) f);refine⟨q,p,_,_,Z,Z,aH,(aN f) _ _ j,zl,fun t v=> ?_⟩;exact d.pure h (u.free v) aH (u.trans (aN v))
end
end
section
open Vbpcak (Hole State)
def hk(h:Hole):List Key:=[.inl h.x, .inl h.y, .inl h.d]
theorem Yj(e:hk h=hk g):h=g:=by
 injection e with d e;injection e with f e;injection e with i e;have a:=oP d;have b:=oP f;have c:h.d=g.d:=by lia
 cases h
 cases g
 simp only at a b c;rw[a,b,c]
theorem Dz(h:Hole):∀(a hs:List Hole),a.foldl (fun(l:List Hole) g=>l.erase g) (h::hs)=if h∈a then(a.erase h).foldl (fun(l:List Hole) g=>l.erase g) hs else h::a.foldl (fun(l:List Hole) g=>l.erase g) hs
 |[],hs=>rfl
 |g::r,hs=>by
  rw[iT];by_cases e:h=g
  .subst e;rw[ai aT,kB,kB]
  .rw[(iW (by simpa using e)),Dz h r (hs.erase g),(iW (by simpa using bF e))];by_cases c:h∈r
   .rw[ai c,ai (aO _ c)];rfl
   .rw[ak c,ak (by simp[e,c])];rfl
theorem E0(h:Hole)(hs a:List Hole):gM (h::hs) a=if h∈a then gM hs (a.erase h) else gM hs a+1:=by unfold gM;rw[Dz];split<;>rfl
theorem yb:∀a:List Hole,gM [] a=0|[]=>rfl|g::r=>yb r
def Cnt(a:List (List Key×V))(b:List Hole):Prop:=∀h,(jc a (hk h)).getD (.int 0)= .int ((b.count h:Nat))
theorem v_{a:Type}[DecidableEq a](b:List (a×V))(k:a)(v:V):(putK b k v).length<=b.length+1:=by
 unfold putK;split
 .rw[aE];simp
 .rw[aG];exact aQ _
theorem M6{a:Type}[DecidableEq a](b:List (a×V))(k:a)(v:V)(h:(jc b k).isSome=af):(putK b k v).length=b.length:=by unfold putK;rw[ai (by rw[mC];exact h),aE]
theorem Cnt.put(c:Cnt cw gs)(h:Hole)(a:∀g,gs'.count g=if g=h then gs'.count h else gs.count g):Cnt (putK cw (hk h) (.int ((gs'.count h:Nat):Int))) gs':=fun g=>by
 rw[pJ,a g]
 by_cases e:g=h
 .subst e
  rw[ai Z,ai Z]
  rfl
 .rw[ak (fun z=>e (Yj z)),ak e]
  exact c g
section
inductive aa9 H(Q:VK):List V->Prop|mk:∀l t as bs hs gs,(x9 H l as hs)->(x9 H t bs gs)->(hs.length<=10000)->(gs.length<=10000)->(∀H',cI H H'->Q (.int ((gM hs gs:Nat))) H')->aa9 H Q [.ref l, .ref t]
theorem ud:Ok Y 1 28 aa9:=by
 refine Y.ok ?_;rintro _ H _ Q nd L ⟨l,t,as,bs,hs,p,hl,A,M,N,k⟩;have B:=L.u1;refine⟨_,(aI (bB 2 O0) (aI (fT (eM (pv 1)) (cJ 3) (b6 (y9 B (pv 2) (pv 3) (cu dJ (Gq B (pv 2) (pv 3) aY ⟨Z,Z,Z,Z⟩) aY) Z))) (aI (bB 4 aY) (aI (fT (eM (pv 0)) (cJ 3) (b6 (da (cK mB (Gq B (pv 2) (pv 3) aY ⟨Z,Z,Z,Z⟩) aY) (b6 (Tf B (pv 2) (pv 3) aY W7 (fun _ _ _=>rfl))) (b6 (ur 4 aY wL))))) (cy (pv 4)))))),?_⟩;intro d hd;have O:10000<br:=by decide
 refine⟨t,Z,⟨_, .of ((aN hd) _ _ A.lst)⟩,iJ (fun i q H'=>E2 fun v f=>A5 (cI H H') (H' d=aa (.dT f)) (f.length<=i) (Cnt f (p.take i)) (q=[aa (.ref l),aa (.ref t),aa (.ref d),v,ae])) ⟨ae,[],aN hd,aH,aQ _,(fun h=>rfl),Z⟩ (by rintro i q H' _ ⟨_,_,e,_,_,_,_⟩;exact .of (e _ _ A.lst)) ?_ ?_⟩
 .rintro i v q H' D ⟨C,f,o,j,s,m,rfl⟩;obtain⟨a,E,rfl⟩:=hU D;obtain⟨g,hg,F⟩:=dj A.at_ E;have K:=(aV.mp hg).1;have y:H' a=aa (.tup ((hk g).map kV)):=o _ _ F;have G:∀x,(p.take (i+1)).count x=if x=g then(p.take (i+1)).count g else(p.take i).count x:=fun x=>by
   by_cases e:x=g
   .rw[ai e,e]
   .rw[ak e,take_snoc hg,R7,List.count_cons_of_ne (bF e),WE];lia
  have w:(p.take (i+1)).count g=(p.take i).count g+1:=by rw[take_snoc hg,R7,List.count_cons_self,WE]
  refine⟨d,Z, .inr ⟨_, .inl j⟩,_, .t j y,_,_,m g,Z,d,_,Z, .t j y (by lia),?_⟩;refine⟨_,_,cD o hd,aH,bY (v_ _ _ _) (by lia),?_,Z⟩;have:=m.put g G;rw[w] at this;exact this
 .rintro q S ⟨C,f,o,j,s,m,rfl⟩;rw[aE,A.len] at s m;rw[cR] at m;refine⟨l,Z,⟨_, .of (o _ _ hl.lst)⟩,iJ (fun i q H'=>E4 fun v f b n=>A6 (cI H H') (H' d=aa (.dT f)) (f.length<=p.length) (Cnt f b) (n+gM (hs.drop i) b=gM hs p) (q=[aa (.ref l),aa (.ref t),aa (.ref d),v,aa (.int n)])) ⟨C,f,p,0,o,j,s,m,by rw[i8];rfl,Z⟩ (by rintro i q H' _ ⟨_,_,_,_,e,_,_,_,_,_⟩;exact .of (e _ _ hl.lst)) ?_ ?_⟩
  .rintro i v q H' D ⟨C,f,b,n,o,j,s,m,hn,rfl⟩;obtain⟨a,E,rfl⟩:=hU D;obtain⟨g,hg,F⟩:=dj hl.at_ E;obtain⟨K,P⟩:=aV.mp hg;have y:H' a=aa (.tup ((hk g).map kV)):=o _ _ F;have I:hs.drop i=g::hs.drop (i+1):=by rw[c_ K,P]
   rw[I,E0] at hn;refine⟨d,Z, .inr ⟨_, .inl j⟩,_, .t j y,_,_,m g,Z,_,Z,?_⟩;refine e_ (fun c=> ?_) (fun c=> ?_)
   .have J:0<b.count g:=by have:=aq c;lia
    rw[ai (N7.mp J)] at hn;have hv:=m g;have w:(b.erase g).count g=b.count g-1:=by rw[List.count_erase_self]
    have G:∀x,(b.erase g).count x=if x=g then(b.erase g).count g else b.count x:=fun x=>by
     by_cases e:x=g
     .rw[ai e,e]
     .rw[ak e,List.count_erase_of_ne e]
    cases r:jc f (hk g) with
    |none=>rw[r] at hv;have:=V.int.inj hv;lia
    |some u=>
     rw[r] at hv;subst hv;refine⟨d,_,Z,by have:=tK.t j y;rw[r] at this;exact this,_,_,Z,Z,_, .t j y (by lia),?_⟩;refine⟨_,_,b.erase g,n,cD o hd,aH,?_,?_,hn,Z⟩
     .rw[M6 _ _ _ (by rw[r];rfl)];exact s
     .have:=m.put (gs':=b.erase g) g G;rw[w] at this;have R:((b.count g-1:Nat))=((b.count g:Nat):Int)-1:=by lia
      rw[R] at this;exact this
   .have J:¬g∈b:=fun z=>c (au (by have:=N7.mpr z;lia));rw[ak J] at hn;refine⟨_,Z,_,_,Z,Z,?_⟩;exact⟨_,f,b,n+1,o,j,s,m,by lia,Z⟩
  .rintro q H' ⟨C,f,b,n,o,j,s,m,hn,rfl⟩;rw[aE,hl.len,qU,yb,sL] at hn;rw[hn];exact k H' o
end
end
section
open Vbpcak (Hole State)
theorem yc:∀(ks d:List (List Key)),d.Nodup->((ks.foldl kO.vX d).length=d.length+ks.length↔(d++ks).Nodup)
 |[],d,h=>by simp[h]
 |k::r,d,h=>by
  dsimp only[iT];by_cases c:k∈d
  .have e:kO.vX d k=d:=by unfold kO.vX;rw[ai c]
   rw[e];have:=kO.xm r d;constructor
   .intro z;dsimp only[aK] at z;lia
   .intro z;exact az Z ((hG.mp z).2.2 k c k aT)
  .have e:kO.vX d k=d++[k]:=by unfold kO.vX;rw[ak c]
   have f:=yc r (d++[k]) (hG.mpr ⟨h,by simp,fun a g b i e=>c (by rw[a0.mp i] at e;rw[<-e];exact g)⟩);rw[e];rw[bJ,Ko,aG] at f;rw[<-f,aK];simp only[aK,bQ];lia
theorem JH(ks:List (List Key)):(kO.yI ks).length=ks.length↔ks.Nodup:=by have:=yc ks [] fh;rw[bQ,i8,dR] at this;exact this
def pk(h:Hole):List Key:=[.inl h.x, .inl h.y]
theorem Q5:pk h=pk g↔h.pt=g.pt:=by
 constructor
 .intro e;injection e with a e;injection e with b e;exact L7 (oP a) (oP b)
 .intro e;have a:h.x=g.x:=congrArg gC e;have b:h.y=g.y:=congrArg oR e;unfold pk;rw[a,b]
theorem M7(hs:List Hole):ah ((kO.yI (hs.map pk)).length=hs.length)=pE hs:=by
 refine decide_eq_decide.mpr ?_;have:=JH (hs.map pk);rw[aE] at this;rw[this];unfold List.Nodup;rw[gj,gj];constructor
 .exact fun h=>h.imp fun z e=>z (Q5.mpr e)
 .exact fun h=>h.imp fun z e=>z (Q5.mp e)
structure TL(H:Hp) l(as:List Addr)(ks:List (List Key)):Prop where
 lst:H l=aa (.lst (as.map V.ref))
 at_:Paired (fun a k=>H a=aa (.tup (k.map kV))) as ks
theorem TL.snoc(g:TL H l as ks)(b:H p=ae):TL (upd (upd H p (.tup (k.map kV))) l (.lst (as.map V.ref++[.ref p]))) l (as++[p]) (ks++[k]):=by
 refine⟨by rw[aH,a_];rfl,j0 (g.at_.mono fun a z q=> ?_) (.cons ?_ .nil)⟩
 .rwa [aL (dE q g.lst (by intro z;cases z)),aL (aS q b)]
 .rw[aL ((aS g.lst b).symm),aH]
section
inductive Wd K H(Q:VK):List V->Prop|mk:∀l as hs,(HL K H l as hs)->(hs.length<4000)->(∀H',cI H H'->Q (.bl (pE hs)) H')->Wd K H Q [.ref l]
theorem qZ:Ok Y 1 22 (Wd K):=by
 refine Y.okN ["holes","hole"] ?_;rintro _ H _ Q nd j ⟨l,as,hs,hl,b,k⟩;refine⟨_,(cy (kT jt (MY Z j.units Z Y.nn Z Y.nn (cO (Eo [("hole",1)] (eM (pv 0)) (cJ 1) iu (nG (aR (bM i_ (pv 1) aY) (cO (bM i_ (pv 1) aY))))))) (dZ Y.nn (pv 0)))),l,Z,⟨_, .of hl.lst⟩,fun D f=> ?_⟩;refine i9 (fun i H'=>cI H H'/\∃cs,TL H' D cs ((hs.take i).map pk)) ⟨aN f,[],aH, .nil⟩ (fun i H' _ q=> .of (q.1 _ _ hl.lst)) ?_ ?_
 .rintro i x H' m ⟨d,cs,c⟩;obtain⟨a,n,rfl⟩:=hU m;obtain⟨g,hg,o⟩:=dj hl.at_ n;have h:=fj d o;refine⟨Z,?_⟩;refine⟨a,hv g,_,_,Z,Z,h,Z,a,hv g,_,_,Z,Z,h,Z,zl,fun p e=> ?_⟩;refine⟨_,(aL (bF ((aS c.lst e).symm))).trans c.lst,?_,cD (d.trans (aN e)) f,cs++[p],?_⟩
  .rw[aE,c.at_.length,aE,bA];exact bo (eU _ _) (sI b (by decide))
  .rw[take_snoc hg,a_];exact c.snoc (k:=pk g) e
 .rintro H' ⟨d,cs,c⟩;rw[(b8 (by rw[aE,hl.len];exact aQ _))] at c;refine⟨D,cs,_,Z, .of c.lst,c.at_,by rw[aE];exact b,?_⟩;refine⟨l,_,Z, .inl (.of (d _ _ hl.lst)),Z,?_⟩;have r:ah (V.int ((kO.yI (hs.map pk)).length)=V.int ((as.map V.ref).length))=pE hs:=by
   rw[<-M7];refine decide_eq_decide.mpr ?_;rw[aE,hl.len];constructor
   .intro z;have:=V.int.inj z;lia
   .intro z;rw[z]
  exact r▸(k H' d)
inductive Lw K C H(Q:VK):List V->Prop|mk:∀b dx lh lo l s fs (as cs) hs,(BD K H C b s dx fs lh lo as)->(HL K H l cs hs)->(hs.length<=4096)->(∀H',cI H H'->Q (.bl (hs.all fun h=>FJ s h.x h.y h.d)) H')->Lw K C H Q [.ref b, .ref l]
theorem tO:Ok Y 2 21 (Lw K CB):=by
 refine Y.okN ["board","holes","hole"] ?_;rintro _ H _ Q nd m ⟨b,n,lh,lo,l,s,fs,as,cs,hs,B,hl,c,k⟩;refine⟨_,(cy (ja (OQ Z) Z Y.nn (by rfl) (cO (Eo [("hole",2)] (eM (pv 1)) (cJ 2) iu (cP (rZ Y) m.mono (aR (pv 0) (aR (bM i_ (pv 2) aY) (aR (bM i_ (pv 2) aY) (cO (bM i_ (pv 2) aY)))))))))),l,Z,⟨_, .of hl.lst⟩,fun D j=> ?_⟩;refine i9 (fun i H'=>cI H H'/\H' D=aa (.lst (((hs.take i).map fun h=>FJ s h.x h.y h.d).map V.bl))) ⟨aN j,aH⟩ (fun i H' _ q=> .of (q.1 _ _ hl.lst)) ?_ ?_
 .rintro i x H' o ⟨d,e⟩;obtain⟨a,p,rfl⟩:=hU o;obtain⟨g,hg,r⟩:=dj hl.at_ p;have f:=fj d r;refine⟨Z,a,hv g,_,_,Z,Z,f,Z,a,hv g,_,_,Z,Z,f,Z,a,hv g,_,_,Z,Z,f,Z,b,n,lh,lo,s,fs,as,g.x,g.y,g.d,B.same d,?_⟩;refine⟨_,e,?_,cD d j,?_⟩
  .rw[aE,aE,bA];exact bo (eU _ _) (bo c (by decide))
  .rw[aH,take_snoc hg,a_,a_];rfl
 .rintro H' ⟨d,e⟩;rw[(b8 (by rw[aE,hl.len];exact aQ _))] at e;refine⟨D,_,Z, .of e,?_⟩;exact yo▸(k H' d)
def xn(s:State)(l:List Hole):State×kc:=gG s [(l.all fun h=>ot s h&&ah (h.d<=iM),-1),(pE l,-2),(ah (l.length<=jC),-3),(ah (l.length*s.panel.cols*s.panel.rows<=gg),-4)] fun _=>
  ({s with holes:=l,order:=List.range l.length},[l.length])
theorem Q6:∀{l:List Hole},jQ l->(l.all fun h=>FJ s h.x h.y (h.d:Int))=l.all fun h=>ot s h&&ah ((h.d:Int)<=iM)|[],_=>rfl|h::r,t=>by rw[jU,jU,Q6 (fun x a=>t x (aO _ a))];congr 1;unfold FJ ot;rw[Bool.and_assoc];congr 2;unfold Vbpcak.within;have h1:=t h aT;rw[au (show 1<=(h.d:Int) by lia),cX]
theorem HL.put(h:HL K H l as hs)(c:H b=aa (.ins C dx fs)):HL K (upd H b (.ins C dx fs')) l as hs:=by
 refine⟨?_,h.at_.mono fun a z q=> ?_⟩
 .exact(aL (dE h.lst c (by intro z;cases z)))▸h.lst
 .rcases q with(q|⟨o,q⟩)|q
  .refine .inl (.inl ?_);rwa [aL (dE q c (by intro z;cases z))]
  .refine .inl (.inr ⟨o,?_⟩);rwa [aL (dE q c (by intro z;cases z))]
  .exact .inr q
theorem BF.holes{lh lo:Addr}(B:BF fs s lh lo)(a:Addr)(l:List Hole):BF (fx "holes" (.ref a) fs) {s with holes:=l} a lo:=by
 have g:∀f:Str,f≠"holes"->(fx "holes" (.ref a) fs).lookup f=fs.lookup f:=fun f h=>by rw[fA,ak h]
 refine⟨(g _ (by decide)).trans B.wd,(g _ (by decide)).trans B.hg,(g _ (by decide)).trans B.cc,?_,(g _ (by decide)).trans B.od,(g _ (by decide)).trans B.co,(g _ (by decide)).trans B.ro,(g _ (by decide)).trans B.px,(g _ (by decide)).trans B.py,(g _ (by decide)).trans B.al,(g _ (by decide)).trans B.nr,(g _ (by decide)).trans B.np,?_⟩
 .rw[fA,ai Z]
 .exact(sR _ _ _ fs B.hl)▸B.ln
inductive Q7 K C H(Q:VK):List V->Prop|mk:∀b dx lh lo l s fs (as cs) hs,(BD K H C b s dx fs lh lo as)->(HL K H l cs hs)->(hs.length<4000)->(jQ hs)->(∀H' v fs' (mF lu) as',(xn s hs).2=[v]->(mF=lh\/H mF=ae)->(lu=lo\/H lu=ae)->BD K H' C b (xn s hs).1 dx fs' mF lu as'->fk H H' [b]->Q (.int v) H')->Q7 K C H Q [.ref b, .ref l]
theorem Cd:Ok Y 3 23 (Q7 K CB):=by
 refine Y.ok ?_;rintro _ H _ Q nd C ⟨b,j,lh,lo,l,s,fs,as,cs,hs,B,hl,m,J,k⟩;refine⟨_,(aI (da (gV (jv (cP (tO Y) C.mono (aR (pv 0) (cO (pv 1)))) (fun _=>rfl))) (cy (d_ Y.ci)) ck) (aI (da (gV (jv (cP (qZ Y) C.mono (cO (pv 1))) (fun _=>rfl))) (cy (d_ Y.ci)) ck) (aI (da (cK mB (dZ Y.nn (pv 1)) (d_ Y.ci)) (cy (d_ Y.ci)) ck) (aI (da (jv (cP (jY Y) C.mono (aR (dZ Y.nn (pv 1)) (aR (bS Y.na (pv 0)) (cO (bS Y.na (pv 0)))))) (fun _=>rfl)) (cy (d_ Y.ci)) ck) (aI (eK Y.na (pv 0) (sP vt Z Y.nn (by rfl) (cO (pv 1)))) (aI (eK Y.na (pv 0) (qp Z rfl Y.nn Z Y.nn (cO (dZ Y.nn (pv 1))))) (cy (dZ Y.nn (pv 1))))))))),?_⟩;have u:(cs.map V.ref).length=hs.length:=by rw[aE,hl.len]
 have S:=B.wf.pc;have T:=B.wf.pr;have c:∀{H':Hp} {x:Int},cI H H'->xn s hs=(s,[x])->Q (.int x) H':=fun a e=>by rw[e] at k;exact k _ _ fs lh lo as Z (.inl rfl) (.inl rfl) (B.same a) (fk.of a)
 refine⟨b,j,lh,lo,l,s,fs,as,cs,hs,B,hl,by lia,fun H1 D=>⟨_,Z,?_⟩⟩;rw[Q6 J]
 cases c1:(hs.all fun h=>ot s h&&ah (h.d<=iM)) with
 |false=>exact c D (jw c1)
 |true=>
  refine kN ⟨l,cs,hs,hl.same D,m,fun H2 U=>⟨_,Z,?_⟩⟩;have a:=D.trans U
  cases v:pE hs with
  |false=>exact c a ((eD c1).trans (jw v))
  |true=>
   have w:=hl.same a;have i:=B.same a;refine kN ⟨l,_,Z, .inl (.of w.lst),_,_,Z,Z,_,Z,?_⟩;rw[u];refine e_ (fun E=> ?_) (fun E=> ?_)
   .have F:=aq E;exact c a ((eD c1).trans ((eD v).trans (jw (aw (by unfold jC;lia)))))
   have F:=AA E;have L:ah (hs.length<=jC)=true:=au (by unfold jC;lia);refine⟨l,_,Z, .inl (.of w.lst),b,CB,j,fs,_,Z,i.at_,Z,i.bf.co,b,CB,j,fs,_,Z,i.at_,Z,i.bf.ro,hs.length,s.panel.cols,s.panel.rows,by rw[u],by lia,by lia,by lia,_,Z,?_⟩;by_cases n:hs.length*s.panel.cols*s.panel.rows<=gg
   .rw[au n];have X:xn s hs=({s with holes:=hs,order:=List.range hs.length},[((hs.length:Nat):Int)]):=by unfold xn;rw[eD c1,eD v,eD L,eD (au n)];rfl
    rw[X] at k;refine kN ⟨l,_,Z, .inl (.of w.lst),fun f y=> ?_⟩;have M:=i.same (aN (o:= .lst (cs.map V.ref)) y);have ZR:=B.bf.ln;refine⟨b,CB,j,fs,Z,M.at_,Z,by lia,?_⟩;have N:=(w.same (aN (o:= .lst (cs.map V.ref)) y)).put (fs':=fx "holes" (.ref f) fs) M.at_;refine⟨l,_,Z, .inl (.of N.lst),hs.length,by rw[u],by lia,fun p r=> ?_⟩;have d:=cF aH r;have adF:=gY "holes" (.ref f) fs;refine⟨b,CB,j,_,Z,(aL (bF d)).trans aH,Z,by lia,?_⟩;have t:HL K _ l cs hs:=(N.same (aN (o:= .lst (nv (List.range hs.length))) r)).put (fs':=fx "order" (.ref p) (fx "holes" (.ref f) fs)) ((aL (bF d)).trans aH);refine⟨l,_,Z, .inl (.of t.lst),?_⟩;rw[u];have G:f≠b:=cF i.at_ y;have O:H f=none:=a.free y;have g:p≠f:=cF ((aL G).trans aH) r;have P:H p=none:=a.free (by rw[aL d,aL g] at r;exact r);have on:∀h∈hs,(0<=h.x/\h.x<=s.w)/\(0<=h.y/\h.y<=s.h)/\h.d<=10000000:=fun h hh=>by have:=gD.mp c1 h hh;rw[bq] at this;obtain⟨A,z2⟩:=this;unfold ot at A;rw[bq] at A;refine⟨kh A.1,kh A.2,?_⟩;have:=aq z2;unfold iM at this;lia
    have W:=B.wf;have wf:Wf {s with holes:=hs,order:=List.range hs.length}:=⟨W.w1,W.h1,W.c1,by show hs.length<=48;lia,J,pO hs,dS,bG,W.pc,W.pr,W.px,W.py,W.cx,W.ry,on,n⟩;refine k _ _ _ f p cs Z (.inr O) (.inr P) ⟨aH,(B.bf.holes f hs).order p (List.range hs.length),⟨?_,t.at_⟩,?_,bF g,wf⟩ fun q o I hx=> ?_
    .rw[aL G,aL (bF g),aL G,aH]
    .rw[aL d,aH];rfl
    .have R:q≠b:=fun z=>hx (by simp[z]);rw[aL R,aL (aS I P),aL R,aL (aS I O)];exact a _ _ I
   .rw[aw n];exact c a ((eD c1).trans ((eD v).trans ((eD L).trans (jw (aw n)))))
end
end
section
inductive Q8 K(Q:VK) x H1:Prop|mk:∀k,(SX K x H1 k)->(Q (.bl (!k)) H1)->Q8 K Q x H1
def aa_(K:aM)(a:TE):TE:=fun b H Q=>a b H fun x c=>Q8 K Q x c
theorem Uo(i:PE X a ta):PE X (.UnaryOp .Not a pos) (aa_ X.K ta):=by intro f s g H Q I h;refine UnaryOp_ (fX (i f s g H _ I h) ?_);rintro v j ⟨x,l,m,n,d⟩;obtain⟨k,hk,d⟩:=d;exact not_of (fX (Oz f j g l x v (fun b e=>Q (.bl (!b)) e) m n ⟨k,hk,d⟩) (by rintro c q ⟨e,o,p⟩;exact⟨.bl (!c),e,o,Z,p⟩))
end
section
open VbpcText
def known(n:Nat):Bool:=n==10||n==32||n==35||n==45||(ah (48<=n)&&ah (n<=57))||(ah (97<=n)&&ah (n<=122))
def Up(n:Nat):Nat:=if known n=af then n else if 33<=n/\n<=126 then 63 else 33
def sg(c:UInt8):Nat:=Up c.toNat
def og(l:Bytes):List Nat:=l.map sg
def strOf(l:Bytes):Str:=⟨(og l).toArray⟩
theorem AJ(l:Bytes):TL.tl (strOf l)=og l:=rfl
theorem M8(h:known k=af):∀n,Up n=k↔n=k:=fun n=>by
 unfold Up
 by_cases c:known n=af
 .rw[ai c]
 .rw[ak c]
  have hk:k≠63/\k≠33:=by
   constructor
   .rintro rfl
    exact az h (by decide)
   .rintro rfl
    exact az h (by decide)
  constructor
  .intro z
   split at z
   .exact az z.symm hk.1
   .exact az z.symm hk.2
  .rintro rfl
   exact az h c
theorem Q9{a b:UInt8}:a.toNat=b.toNat↔a=b:=⟨fun h=>UInt8.toNat_inj.mp h,fun h=>by rw[h]⟩
theorem sf(h:known k.toNat=af)(c:UInt8):sg c=k.toNat↔c=k:=(M8 h c.toNat).trans Q9
theorem aba(c:UInt8):sg c=10↔c=10:=sf (k:=10) Z c
theorem abb(c:UInt8):sg c=32↔c=32:=sf (k:=32) Z c
theorem xo:∀{k:Bytes},(∀c∈k,known c.toNat=af)->∀l:Bytes,og l=k.map kx↔l=k
 |[],_,[]=>⟨fun _=>rfl,fun _=>rfl⟩
 |[],_,_::_=>⟨fun h=>by simp[og] at h,fun h=>by simp at h⟩
 |_::_,_,[]=>⟨fun h=>by simp[og] at h,fun h=>by simp at h⟩
 |a::k,h,c::l=>by
  have e:=xo (fun x f=>h x (aO _ f)) l;constructor
  .intro z;injection z with b d;rw[(sf (h a aT) c).mp b,e.mp d]
  .intro z;injection z with b d;show sg c::og l=a.toNat::k.map kx;rw[((sf (h a aT) c).mpr b),(e.mpr d)]
def il(k:UInt8):Bytes->Bytes->List Bytes|a,[]=>[a.reverse]|a,c::r=>if c=k then a.reverse::il k [] r else il k (c::a) r
theorem abc(k c:Nat)(r:List Nat):TL.pre [k] (c::r)=ah (c=k):=by unfold TL.pre;rw[iR];simp
theorem uJ(hk:∀c,sg c=k.toNat↔c=k):∀(l a:Bytes),TL.Aa [k.toNat] 0 (og a.reverse) (og l)=(il k a l).map og
 |[],a=>rfl
 |c::r,a=>by
  have e:og (c::r)=sg c::og r:=rfl;unfold il;by_cases h:c=k
  .rw[e,TL.KQ (by rw[abc];exact au ((hk c).mpr h)),ai h];show _::TL.Aa [k.toNat] 0 (og ([]).reverse) (og r)=_;rw[uJ hk r []];rfl
  .rw[e,TL.Gs (by rw[abc];exact aw fun z=>h ((hk c).mp z)),ak h,<-uJ hk r (c::a)];congr 1;unfold og;rw[dW,a_];rfl
theorem xp(k:UInt8):∀(l a:Bytes),il k a l≠[]
 |[],a=>by simp[il]
 |c::r,a=>by
  dsimp only[il];split
  .simp
  .exact xp k r _
def Zp(ls:List Bytes):List Bytes:=if ls.getLast? =aa [] then ls.dropLast else ls
theorem Q_(h:ls≠[]):Zp (x::ls)=x::Zp ls:=by
 unfold Zp;have e:(x::ls).getLast? =ls.getLast? :=by cases ls with|nil=>exact az Z h|cons a r=>simp_all
 rw[e];split
 .rw[List.dropLast_cons_of_ne_nil h]
 .rfl
theorem qB:∀(l b:Bytes),Zp (il 10 b l)=linesFrom b l
 |[],[]=>rfl
 |[],a::b=>by unfold il Zp linesFrom;rw[ak];simp_all
 |c::r,b=>by
  dsimp only[il];have e:linesFrom b (c::r)=if c=10 then b.reverse::linesFrom [] r else linesFrom (c::b) r:=by cases b<;>rfl
  rw[e];by_cases h:c=10
  .rw[ai h,ai h,Q_ (xp _ _ _),qB r []]
  .rw[ak h,ak h,qB r (c::b)]
theorem m_:∀(l b:Bytes),(il 32 b l).filter (fun w=> !w.isEmpty)=wordsFrom b l
 |[],[]=>rfl
 |[],a::b=>by
  unfold il wordsFrom;rw[du]
  .rfl
  .simp_all
 |c::r,b=>by
  dsimp only[il];have e:wordsFrom b (c::r)=if c=32 then(if b.isEmpty=af then wordsFrom [] r else b.reverse::wordsFrom [] r) else wordsFrom (c::b) r:=by cases b<;>rfl
  rw[e];by_cases h:c=32
  .rw[ai h,ai h]
   cases b with
   |nil=>rw[dq (by simp),m_ r []];rfl
   |cons a b=>
    rw[du,m_ r []]
    .rfl
    simp_all
  .rw[ak h,ak h,m_ r (c::b)]
theorem wa:og l=[]↔l=[]:=by unfold og;rw[NC]
theorem uK:∀(l b:Bytes),(∀c∈b,c≠10)->∀x∈linesFrom b l,∀c∈x,c≠10
 |[],[],_,x,f=>by simp[linesFrom] at f
 |[],a::b,h,x,f=>by
  have e:x=(a::b).reverse:=by simpa [linesFrom] using f
  intro c g;rw[e] at g;exact h c (zu.mp g)
 |c::r,b,h,x,f=>by
  have e:linesFrom b (c::r)=if c=10 then b.reverse::linesFrom [] r else linesFrom (c::b) r:=by cases b<;>rfl
  rw[e] at f;by_cases q:c=10
  .rw[ai q] at f;rcases aZ.mp f with z|z
   .intro d hd;rw[z] at hd;exact h d (zu.mp hd)
   .exact uK r [] (fun _ z=>nomatch z) x z
  .rw[ak q] at f;refine uK r (c::b) (fun d hd=> ?_) x f;rcases aZ.mp hd with z|z
   .rwa [z]
   .exact h d z
theorem JI(h:∀c∈l,c≠10):ah ((33:Nat)∈og l)= !(l.all VbpcText.plain):=by
 have key:∀c:UInt8,c≠10->(sg c=33↔VbpcText.plain c=ag):=fun c a=>by
  have hn:c.toNat≠10:=fun z=>a (Q9.mp z);have b:VbpcText.plain c=(ah (32<=c.toNat)&&ah (c.toNat<=126)):=by rfl
  rw[b];unfold sg Up known;generalize c.toNat=n at hn;split
  .rename_i q;simp only[iS,bq,beq_iff_eq,aA] at q;constructor
   .intro z;lia
   .intro z;rw[tI,aB,aB] at z;lia
  .rename_i q;simp only[iS,bq,beq_iff_eq,aA] at q;rw[tI,aB,aB];split<;>lia
 rw[iR,aA,gk,<-Bool.not_eq_true,gD];unfold og;rw[bK];constructor
 .rintro⟨c,a,e⟩ z;have:=z c a;rw[(key c (h c a)).mp e] at this;cases this
 .intro z;apply fu;intro n;refine z fun c a=> ?_;cases q:VbpcText.plain c with|true=>rfl|false=>exact az ⟨c,a,(key c (h c a)).mpr q⟩ n
end
section
open VbpcText
theorem Yk:∀n:Nat,n<127->mT n=(ah (48<=n)&&ah (n<=57)):=by decide+kernel
theorem abd(c:UInt8):sg c<127:=by
 unfold sg Up;split
 .rename_i q;unfold known at q;simp only[iS,bq,beq_iff_eq,aA] at q;lia
 .split<;>simp
theorem Yl(c:UInt8):mT (sg c)=digit c:=by
 rw[Yk _ (abd c)];have hd:digit c=(ah (48<=c.toNat)&&ah (c.toNat<=57)):=by rfl
 rw[hd];unfold sg Up;generalize c.toNat=n;split
 .rfl
 .rename_i q;unfold known at q;simp only[iS,bq,beq_iff_eq,aA] at q;rw[iR];simp only[bq,aA];split<;>lia
theorem E8(hk:known k.toNat=af)(b:Bytes):Txt.startswith (strOf b) ⟨#[k.toNat]⟩=ah (b.head? =aa k):=by unfold Txt.startswith;rw[PySem.StrLaws.subAt_eq];show(ah (0+1<=(og b).toArray.size)&&(((og b).toArray.toList.drop 0).take 1==[k.toNat]))=_;dsimp only[bz,lZ];cases b with|nil=>rfl|cons c r=>show(ah (0+1<=(sg c::og r).length)&&([sg c]==[k.toNat]))=ah (aa c=aa k);rw[au (by simp),cX,iR,beq_iff_eq,aA];have:=sf hk c;simp_all
theorem ki(b:Bytes):(strOf b).length=b.length:=by show(og b).toArray.size=_;exact bz▸(aE ..)
theorem abe(b:Bytes):O9 (strOf b) (aa 1) ae=strOf b.tail:=by unfold O9;rw[ki,HT.vq,show HT.nu b.length 0 (aa 1)=min 1 b.length from HT.qj _ _ 1];cases b with|nil=>rfl|cons c r=>have e:min 1 (c::r).length=1:=rfl;rw[e];show(⟨((og r).take (r.length+1-1)).toArray⟩:Str)=⟨(og r).toArray⟩;simp[b8,og,aE]
theorem Hz(b:Bytes):Txt.isdigit (strOf b)=(!b.isEmpty&&b.all digit):=by
 show(ah ((og b).toArray.size>0)&&(og b).toArray.all mT)=_;rw[show(og b).toArray.all mT=(og b).all mT by simp,bz];congr 1
 .cases b<;>rfl
 simp[og,yo,congr,funext,Yl]
theorem JJ(h:digit c=af):sg c=c.toNat/\48<=c.toNat/\c.toNat<=57:=by
 have hd:digit c=(ah (48<=c.toNat)&&ah (c.toNat<=57)):=by rfl
 simp_all [bq,aA,sg,Up,known,ai,iS,beq_iff_eq]
theorem uL:∀(b:Bytes) (n:Nat),b.all digit=af->(og b).foldl (fun a c=>a*10+(c-48)) n=b.foldl (fun n c=>10*n+(c.toNat-48)) n|[],n,_=>rfl|c::r,n,h=>by rw[jU,bq] at h;show(og r).foldl _ (n*10+(sg c-48))=r.foldl _ (10*n+(c.toNat-48));rw[(JJ h.1).1,y3 n 10];exact uL r _ h.2
theorem AK(h:b.all digit=af):NumText.AllDigits (og b):=fun x a=>by
 obtain⟨c,d,rfl⟩:=bK.mp a
 have:=JJ (gD.mp h c d)
 lia
def ky(b:Bytes):Bool:=(!b.isEmpty&&b.all digit)&&(ah (b.length<=10)&& !ah (b.head? =aa 48))
theorem nc:natural b=if b=[48] then aa 0 else if ky b=af then aa (value b) else none:=by
 unfold natural;by_cases c:b=[48]
 .rw[ai c,ai c]
 .rw[ak c,ak c];by_cases d:ky b=af
  .rw[ai d,ak];unfold ky at d;simp only[bq,gk,aA,aB] at d;rintro(z|z|z|z)
   .rw[z] at d;cases d.1.1
   .lia
   .rw[z] at d;cases d.1.2
   .exact d.2.2 z
  .rw[ak d,ai];apply fu;intro n;refine d ?_;simp only[not_or] at n;obtain⟨a,g,e,f⟩:=n;unfold ky;simp only[bq,gk,aA,aB];refine⟨⟨pY.mpr a,?_⟩,by lia,f⟩;cases q:b.all digit with|true=>rfl|false=>exact az q e
theorem JK(h:ky b=af):intText? (strOf b)=aa ((value b:Nat):Int):=by unfold ky at h;simp only[bq,gk,aA,aB] at h;obtain⟨⟨h1,a⟩,c,d⟩:=h;rw[(Kq (x:=strOf b) (AK a) (fun z=>by rw[wa.mp z] at h1;cases h1) (by rw[ki];lia))];have:wz (og b)=value b:=uL b 0 a;show aa ((wz (og b):Nat):Int)=_;rw[this]
theorem M9(h:ky b=af):intText? (strOf (45::b))=aa (-((value b:Nat):Int)):=by unfold ky at h;simp only[bq,gk,aA,aB] at h;obtain⟨⟨h1,a⟩,c,d⟩:=h;rw[(PySem.intText_neg (x:=strOf (45::b)) (cs:=og b) Z (AK a) (fun z=>by rw[wa.mp z] at h1;cases h1) (by rw[ki,aK];lia))];have:wz (og b)=value b:=uL b 0 a;rw[this]
def isNum(b:Bytes):Bool:=if b=[48] then af else if b.head? =aa 45 then ky b.tail else ky b
theorem DA:∀{b:Bytes},ky b=af->value b≠0
 |[],h=>by simp[ky] at h
 |c::r,h=>by
  unfold ky at h;simp only[bq,gk,aA,aB,jU,List.head?_cons,kY] at h;obtain⟨⟨_,h1,f⟩,_,a⟩:=h;have g:=JJ h1;have i:c.toNat≠48:=fun z=>a (Q9.mp z);have mono:∀(l:Bytes) n,n≠0->l.foldl (fun n c=>10*n+(c.toNat-48)) n≠0:=by intro l;induction l with|nil=>exact fun n h=>h|cons d l e=>exact fun n h=>e _ (show 10*n+(d.toNat-48)≠0 by lia)
  exact mono r _ (show 10*0+(c.toNat-48)≠0 by lia)
theorem sh(b:Bytes):(integer b).isSome=isNum b:=by
 unfold isNum;by_cases c:b=[48]
 .subst c;rfl
 .rw[ak c];unfold integer;set_option tactic.hygienic true in split
  .rename_i r;rw[ai (show(45::r).head? =aa 45 from rfl),nc];show _=ky r;by_cases d:r=[48]
   .subst d;rfl
   .rw[ak d];by_cases e:ky r=af
    .rw[ai e,e];show(if value r=0 then ae else aa _).isSome=af;rw[ak (DA e)];rfl
    simp_all
  .rename_i hn;rw[ak]
   .rw[nc,ak c];by_cases e:ky b=af
    .simp_all
    .simp_all
   .intro z
    cases b with
    |nil=>cases z
    |cons x r=>exact hn r (by rw[aW z])
theorem yd(h:integer b=aa z):intText? (strOf b)=aa z:=by
 by_cases c:b=[48]
 .subst c;have e:=(aW h).symm;subst e;have:=Kq (x:=strOf [48]) (fun x a=>by have:x=48:=a0.mp a;lia) (fun z=>by cases z) (by decide);exact this
 .unfold integer at h;set_option tactic.hygienic true in split at h
  .rename_i r;rw[nc] at h;by_cases d:r=[48]
   .simp_all
   .rw[ak d] at h;by_cases e:ky r=af
    .rw[ai e] at h;have h':(if value r=0 then ae else aa (-((value r:Nat):Int)))=aa z:=h;rw[ak (DA e)] at h';rwa [M9 e]
    simp_all
  .rw[nc,ak c] at h;by_cases e:ky b=af
   .rw[ai e] at h;rwa [JK e]
   .simp_all
theorem DB(h:isNum b=af):b.length<=11:=by
 unfold isNum at h;split at h
 .simp_all
 .split at h
  .unfold ky at h;simp only[bq,aA] at h;have:=h.2.1;rw[SO] at this;lia
  .unfold ky at h;simp only[bq,aA] at h;lia
end
section
open Vbpcak (Hole State)
open VbpcText (Bytes)
section
def We:List Nat:=[10,32,35,45,48,49,50,51,52,53,54,55,56,57,97,98,99,100,101,102,103,104,105,106,107,108,109,110,111,112,113,114,115,116,117,118,119,120,121,122]
theorem Wg:(cq "\n #-0123456789abcdefghijklmnopqrstuvwxyz").cps=We.toArray:=by decide+kernel
theorem Ra:∀n:Nat,n<256->ah (n∈We)=known n:=by decide+kernel
theorem abf:∀n∈We,n<256:=by decide
def AL(n:Nat):V:= .str ⟨#[n]⟩
def tab(j n:Nat):V:=if n∈We.take j then AL n else if 33<=n/\n<=126 then AL 63 else AL 33
def signs:List V:=(List.range 256).map fun n=>AL (Up n)
theorem set_range{v:V}:((List.range m).map f).set k v=(List.range m).map fun n=>if n=k then v else f n:=by
 apply fF;intro i;rw[yt,bp,bp,aE,bG];by_cases h:i<m
 .rw[d7 h];by_cases e:k=i
  .subst e;rw[ai Z,ai h];simp
  .rw[ak e];simp[bF e]
 .rw[dH (by rw[bG];lia)];by_cases e:k=i
  .subst e;rw[ai Z,ak h];rfl
  .rw[ak e];rfl
theorem Uq:(List.range 256).map (tab 40)=signs:=by
 refine fD fun n hn=> ?_;have hk:=Ra n (bU.mp hn);unfold tab Up;rw[show We.take 40=We from rfl];by_cases c:n∈We
 .rw[au c] at hk;rw[ai c,ai hk.symm]
 .rw[aw c] at hk;have a:¬known n=true:=by rw[<-hk];exact fQ
  rw[ak c,ak a];by_cases d:33<=n/\n<=126
  .rw[ai d,ai d]
  .rw[ak d,ak d]
def Ym(H:Hp)(l:List V)(Q:VK):Prop:=∀p H',H p=ae->cI H H'->H' p=aa (.lst l)->Q (.ref p) H'
def Ur:Sp:=fun H Q vs=>vs=[]/\Ym H signs Q
theorem Ce:Ok Y 1 76 Ur:=by
 refine Y.ok ?_;rintro _ H _ Q nd o ⟨rfl,k⟩;refine⟨_,(aI (bB 0 (cT gW)) (aI (fT (ke Z Y.nn (cO (d_ Y.ci))) (cJ 1) (b6 (cQ (fV aX bu bw df (pv 0) (cO (FX (gw gv gv (d_ Y.ci) (pv 1) (d_ Y.ci)) (Ah Y.cs) (Ah Y.cs))))))) (aI (fT (O2 (Ah Y.cs)) (cJ 2) (b6 (Oj (pv 2) (Oi (pv 0) (ja zL Z Y.nn (by rfl) (cO (pv 2))) set_list (fun _=>rfl))))) (cy (pv 0))))),?_⟩;refine⟨zl,fun p f=> ?_⟩;refine⟨_,Z,by decide,by decide,iE (fun i b H'=>∃v:Option V,cI H H'/\H' p=aa (.lst ((List.range i).map (tab 0)))/\b=[aa (.ref p),v,ae]) ⟨ae,aN f,aH,Z⟩ ?_ ?_⟩
 .rintro i b H' g ⟨v,d,a,rfl⟩;have l:0+i=(i:Int):=by lia
  rw[l];refine⟨.inl ⟨Z,_, .of a⟩,?_⟩;have fin:∀u,u=tab 0 i->∃v:Option V,cI H (upd H' p (.lst ((List.range i).map (tab 0)++[u])))/\(upd H' p (.lst ((List.range i).map (tab 0)++[u]))) p=aa (.lst ((List.range (i+1)).map (tab 0)))/\[aa (.ref p),aa (.int (i:Int)),ae]=[aa (.ref p),v,ae]:=fun u m=>by refine⟨_,cD d f,?_,Z⟩;rw[aH,de,a_,m];rfl
  have h:((List.range i).map (tab 0)).length<br:=by rw[aE,bG];exact sI g (by decide)
  refine kg vC (vV Z) vC ?_;cases c:(ah (33<=(i:Int))&&ah ((i:Int)<=126)) with|true=>refine lI ⟨p,_,_,Z,Z,a,h,fin _ ?_⟩;rw[bq,aA,aA] at c;unfold tab;rw[ak (by simp),ai (by lia)];rfl|false=>refine kN ⟨p,_,_,Z,Z,a,h,fin _ ?_⟩;rw[tI,aB,aB] at c;unfold tab;rw[ak (by simp),ak (by lia)];rfl
 .rintro b q ⟨v,d,a,rfl⟩;refine⟨_,Z,TQ (fun i b H'=>∃u:Option V,cI H H'/\H' p=aa (.lst ((List.range 256).map (tab i)))/\b=[aa (.ref p),v,u]) ⟨ae,d,a,Z⟩ ?_ ?_⟩
  .rintro i c b H' g ⟨u,d,a,rfl⟩;rw[Wg] at g;have j:We[i]? =aa c:=by rw[<-g];exact(tH).symm
   refine⟨_,Z,Z,p,_,_,c,Z,Z,a,?_,?_⟩
   .have:=abf c (bC j);unfold NO;rw[aE,bG];show(if(0:Int)<=((c:Nat):Int) then(if((c:Nat):Int)<((256:Nat):Int) then aa ((c:Nat):Int).toNat else ae) else _)=aa c;rw[ai (by lia),ai (by lia),dw]
   .refine⟨_,cD d f,?_,Z⟩;rw[aH,set_range];congr 2;refine fD fun n hn=> ?_;unfold tab;rw[take_snoc j];by_cases e:n=c
    .rw[ai e,ai (by simp[e]),e];rfl
    .rw[ak e];simp only[cN,a0,e,or_false]
  .rintro b H' ⟨u,d,a,rfl⟩;rw[show(cq "\n #-0123456789abcdefghijklmnopqrstuvwxyz").cps.size=40 by rw[Wg];rfl,Uq] at a;exact k p H' f d a
theorem kj(e:cI H H')(h:jD K H a xs):jD K H' a xs:=by
 rcases h with(h|⟨o,h⟩)|h
 .exact .inl (.inl (e _ _ h))
 .exact .inl (.inr ⟨o,e _ _ h⟩)
 .exact .inr h
theorem signs_at(c:UInt8):signs[c.toNat]? =aa (AL (sg c)):=by unfold signs;rw[bp,d7 (by have:=c.toNat_lt;assumption)];rfl
theorem HA:∀l:List Nat,((l.map fun n=>(⟨#[n]⟩:Str)).map fun x=>x.length).sum=l.length|[]=>rfl|_::r=>by rw[b5,b5,wA,HA r,aK];show 1+_=_;lia
theorem join_ones:∀l:List Nat,TL.tl (Txt.join (cq "") (l.map fun n=>(⟨#[n]⟩:Str)))=l:=fun l=>by
 rw[show Txt.join (cq "") (l.map fun n=>(⟨#[n]⟩))=Str.join (cq "") (l.map fun n=>(⟨#[n]⟩)) from TL.join_eq _ _,TL.KR]
 have e:TL.tl (cq "")=[]:=by decide+kernel
 rw[e]
 have key:∀m,TL.Gv [] (m.map fun n=>[n])=m:=by
  intro m
  induction m with
  |nil=>rfl
  |cons a r c=>
   cases r with
   |nil=>rfl
   |cons b r=>
    show[a]++([]++TL.Gv [] ((b::r).map fun n=>[n]))=_
    rw[c]
    rfl
 rw[dI]
 exact key l
inductive Lx K H(Q:VK):List V->Prop|mk:∀a t,(jD K H a (t.map fun c=>V.int c.toNat))->(t.length<=100000)->(Ym H ((VbpcText.lines t).map fun l=>V.str (strOf l)) Q)->Lx K H Q [.ref a]
theorem ye(k:UInt8)(hk:∀c,sg c=k.toNat↔c=k)(hs:known k.toNat=af)(b:Bytes)(y:Str)(a:TL.tl y=[k.toNat]):Txt.split (strOf b) y=(il k [] b).map strOf:=by
 apply TL.z_;rw[TL.Mu _ _ (by rw[a];simp) (TL.To ?_),a,AJ]
 .have:=uJ hk b [];rwa [dI]
 .have e:y.cps= #[k.toNat]:=by apply RZ.mp;exact a
  rw[e];have:=k.toNat_lt;simp[this]
theorem HB:Ok Y 2 77 (Lx K):=by
 refine Y.okN ["text","signs","byte","lines"] ?_;rintro _ H _ Q nd C ⟨a,t,E,d,k⟩;refine⟨_,(aI (bB 1 (aaC (Ce Y) C.mono)) (aI (bB 3 (Gx (Tr gU (Eo [("byte",2)] (eM (pv 0)) (cJ 2) iu (bM (GS (K:=K)) (pv 1) (pv 2)))) gU)) (aI (da (cK jt (bM bP (pv 3) (CH wN aY)) gU) (b6 (cQ (Ee aX jL jM Ef (pv 3)))) ck) (cy (pv 3))))),?_⟩;refine⟨Z,fun ps s F h G=> ?_⟩;have u:jD K s a _:=kj h E;refine⟨⟨_,Z⟩,a,Z,⟨_,u⟩,fun D v=> ?_⟩;refine i9 (K:=K) (a:=a) (xs:=t.map fun c=>V.int (c.toNat:Int)) (fun i H'=>cI s H'/\H' D=aa (.lst ((og (t.take i)).map AL))) ⟨aN v,aH⟩ (fun i H' _ q=>kj q.1 u) ?_ ?_
 .rintro i x H' g ⟨w,j⟩;rw[bp] at g
  cases l:t[i]? with
  |none=>rw[l] at g;cases g
  |some c=>
   rw[l] at g;have I:x=V.int (c.toNat:Int):=(aW g).symm;subst I;refine⟨Z,?_⟩;refine⟨ps,_,_,_,Z,Z, .of (w _ _ G),cB (signs_at c),?_⟩;refine⟨_,j,?_,cD w v,?_⟩
   .rw[aE];unfold og;rw[aE,bA];exact bo (eU _ _) (bo d (by decide))
   .rw[aH,take_snoc l];unfold og;rw[a_,a_];rfl
 .rintro J ⟨m,y⟩;rw[aE,cR] at y;have L:(og t).map AL=((og t).map fun n=>(⟨#[n]⟩:Str)).map V.str:=by rw[dI];rfl
  have M:(Txt.join (cq "") ((og t).map fun n=>(⟨#[n]⟩:Str))).length=t.length:=by rw[TL.rP,join_ones];unfold og;rw[aE]
  have o:Txt.join (cq "") ((og t).map fun n=>(⟨#[n]⟩:Str))=strOf t:=TL.w8 (join_ones _);refine⟨_,D,_,Z,Z, .inl (by rw[<-L];exact .of y),?_,?_⟩
  .rw[HA,aE];unfold og;rw[aE];show _+_*0<=_;lia
  rw[o];refine⟨⟨_,Z⟩,_,_,Z,Z,Z,by rw[ki];exact bY (va d 2) (by decide),fun q j=> ?_⟩;rw[ye 10 aba (by decide) t _ (by decide+kernel)];have e:cI H (upd J q (.lst (((il 10 [] t).map strOf).map V.str))):=(h.trans m).trans (aN j);have p:H q=none:=(h.trans m).free j;have f:=qB t [];obtain⟨init,b,N⟩:∃init b,il 10 [] t=init++[b]:=⟨_,_,(nE (xp 10 t [])).symm⟩;rw[N] at e f⊢;unfold Zp at f;rw[List.getLast?_concat,gS] at f;have A:((init++[b]).map strOf).map V.str=(init.map strOf).map V.str++[.str (strOf b)]:=by rw[a_,a_];rfl
  rw[A] at e⊢;refine⟨_,Z,q,_,_,_,Z,Z, .of aH,zU _ _,Z,_,Z,?_⟩;refine e_ (fun c=> ?_) (fun c=> ?_)
  .have r:b=[]:=by have:=V.str.inj (aq c);have B:=congrArg TL.tl this;rw[AJ,show TL.tl (cq "")=[] by decide+kernel] at B;exact wa.mp B
   rw[r,ai Z] at f;refine⟨.inl ⟨Z,_, .of aH⟩,q,_, .str (strOf b),Z,Z,aH,?_,?_⟩
   .rw[aG];show((init.map strOf).map V.str++[V.str (strOf b)])[((init.map strOf).map V.str).length+1-1]? =_;rw[pB,ou]
   .rw[gq,gS];refine k q _ p (cD ((h.trans m)) p) ?_;rw[aH,f,dI];rfl
  .have r:¬b=[]:=fun z=>c (au (by rw[z];decide+kernel));rw[ak (fun z=>r (aW z))] at f;refine k q _ p e ?_;rw[aH,<-A,f,dI];rfl
inductive abg H(Q:VK):List V->Prop|mk:∀l,((∀c∈l,c≠10))->(Q (.bl (!(l.all VbpcText.plain))) H)->abg H Q [.str (strOf l)]
theorem wb:Ok Y 1 78 abg:=by
 refine Y.ok ?_;rintro _ H _ Q nd b ⟨l,a,k⟩;refine⟨_,(cy (kT I_ (Ah Y.cs) (pv 0) Z)),?_⟩;refine⟨33,_,?_,Z,?_⟩
 .exact congrArg V.str (by decide+kernel)
 .exact(JI a)▸k
def wv(a:List Bytes):List V:=a.map fun x=>V.str (strOf x)
inductive Ly H(Q:VK):List V->Prop|mk:∀l,(l.length<=100000)->(Ym H (wv (dh [] l)) Q)->Ly H Q [.str (strOf l)]
theorem HC:Ok Y 1 79 Ly:=by
 refine Y.okN ["line","word"] ?_;rintro _ H _ Q nd B ⟨l,f,k⟩;refine⟨_,(cy (Eo [("word",1)] (eM (Gx (pv 0) gU)) (cJ 1) (y8 (cK CI (pv 1) gU)) (pv 1))),?_⟩;refine⟨⟨_,Z⟩,_,_,Z,Z,Z,by rw[ki];exact bY (va f 2) (by decide),fun q p=> ?_⟩;rw[ye 32 abb Z l _ (by decide+kernel)];have y:((il 32 [] l).map strOf).map V.str=wv (il 32 [] l):=by rw[dI];rfl
 have s:∀m d,(il 32 d m).length<=m.length+1:=by
  intro m
  induction m with
  |nil=>exact fun d=>aQ _
  |cons c r u=>
   intro d;dsimp only[il];split
   .have:=u [];simp only[aK];lia
   .have:=u (c::d);simp only[aK];lia
 have C:=s l [];rw[y];refine⟨q,Z,⟨_, .of aH⟩,fun D g=> ?_⟩;refine i9 (fun i H'=>cI H H'/\H' q=aa (.lst (wv (il 32 [] l)))/\H' D=aa (.lst (wv (((il 32 [] l).take i).filter fun x=> !x.isEmpty)))) ⟨(aN p).trans (aN g),(aN g) _ _ aH,aH⟩ (fun i H' _ z=> .of z.2.1) ?_ ?_
 .rintro i x H' e ⟨j,v,h⟩;unfold wv at e;rw[bp] at e
  cases o:(il 32 [] l)[i]? with
  |none=>rw[o] at e;cases e
  |some b=>
   rw[o] at e;have A:=(aW e).symm;subst A;refine⟨Z,Z,_,Z,?_⟩;refine e_ (fun c=> ?_) (fun c=> ?_)
   .have t:¬b=[]:=fun z=>by rw[z] at c;exact az c (by decide+kernel)
    refine⟨_,h,?_,cD j ((aN p).free g),?_,?_⟩
    .unfold wv;rw[aE];refine bo (dz _ _) ?_;rw[bA];have:br=16777216:=d8;lia
    .rwa [aL (aS aH g)]
    .rw[aH,take_snoc o,fi,du (by cases b with|nil=>exact az Z t|cons a r=>rfl)];unfold wv;rw[a_];rfl
   .have t:b=[]:=by
     apply fu;intro n;refine c ?_;have:¬(V.str (strOf b)=V.str (cq "")):=fun z=>by have w:=congrArg TL.tl (V.str.inj z);rw[AJ,show TL.tl (cq "")=[] by decide+kernel] at w;exact n (wa.mp w)
     rw[aw this];rfl
    refine⟨j,v,?_⟩;rw[h,take_snoc o,fi,t,dq (by simp),List.filter_nil,bZ]
 .rintro H' ⟨j,v,h⟩;rw[(b8 (by unfold wv;rw[aE];exact aQ _)),m_] at h;exact k D H' ((aN p).free g) j h
inductive Rb K H(Q:VK):List V->Prop|mk:∀a ws,(jD K H a (wv ws))->(Q (.bl (NK ws)) H)->Rb K H Q [.ref a]
theorem wc:Ok Y 1 80 (Rb K):=by
 refine Y.ok ?_;rintro _ H _ Q nd f ⟨a,d,c,k⟩;refine⟨_,(cy (Vf (Uo (pv 0)) (zE (L2.Gw nk nq oY (bM bP (pv 0) aY) (Ah Y.cs))))),_, .inl ⟨_,c,Z⟩,_,Z,?_⟩
 cases d with
 |nil=>exact k
 |cons b r=>
  refine kN ⟨a,_,_, .str (strOf b),Z,Z,c,cB Z,⟨_,Z⟩,_,_,Z,Z,?_⟩;have e:Txt.startswith (strOf b) (cq "#")=NK (b::r):=by rw[show cq "#"=⟨#[(35:UInt8).toNat]⟩ by decide+kernel,E8 Z];show _=(b.head? ==aa 35);rw[iR,aA,beq_iff_eq]
  rwa [e]
inductive Rc H(Q:VK):List V->Prop|mk:∀b,(b.length<=100000)->(Q (.bl (isNum b)) H)->Rc H Q [.str (strOf b)]
theorem Wh(hk:known k.toNat=af):strOf b=⟨#[k.toNat]⟩↔b=[k]:=by
 have:=xo (fun c a=>by rw[a0.mp a];exact hk) b;rw[<-this];constructor
 .intro z;exact congrArg TL.tl z
 .intro z;exact TL.w8 z
theorem E9:Ok Y 1 81 Rc:=by
 refine Y.ok ?_;rintro _ H _ Q nd q ⟨b,e,k⟩;refine⟨_,(aI (da (cK jt (pv 0) gU) (cy mV) ck) (aI (bB 1 (FX (jv (L2.Gw nk nq oY (pv 0) gU) (fun _=>rfl)) (ig Xw (pv 0) (ir aY) kU) (pv 0))) (cy (D7 (L2.jd PySem.F.slot_str_isdigit PySem.F.type_str_isdigit IZ (pv 1)) (D7 (kT gv (ja Ed Z Y.nn Cr (cO (pv 1))) (d_ Y.ci)) (zE (WT (L2.Gw nk nq oY (pv 1) gU)))))))),?_⟩;have g:cq "0"=⟨#[(48:UInt8).toNat]⟩:=by decide+kernel
 have p:cq "-"=⟨#[(45:UInt8).toNat]⟩:=by decide+kernel
 have m:∀b:Bytes,b.length<=100000->(strOf b).length<=br:=fun b h=>by rw[ki];exact bY h (by decide)
 have n:∀(d:Bytes) (l:VK),d.length<=100000->l (.bl (ky d)) H->
   Og (tM0 (fun x xs H Q=>∃a,x=V.str a/\xs=[]/\True/\Q (V.bl (Txt.isdigit a)) H) (oV 1)) (Og (SV (IK fun i j=>V.bl (ah (i<=j))) (W_ (fun xs H Q=>∃z,xs=[V.str z]/\z.length<=br/\Q (V.int ((z.length:Nat):Int)) H) (tY (oV 1) uv)) (tC (V.int 10)))
    (Ve (tM1 (fun x xs H Q=>∃a b,x=V.str a/\xs=[V.str b]/\Q (V.bl (Txt.startswith a b)) H) (oV 1) (tC (V.str (cq "0")))))) [aa (V.str (strOf b)),aa (V.str (strOf d))] H l:=fun d l hd f=>by
  unfold ky at f
  refine⟨⟨_,Z⟩,_,Z,Z,trivial,_,Z,?_⟩
  rw[Hz]
  cases c1:(!d.isEmpty&&d.all VbpcText.digit) with
  |false=>
   rw[c1,eR] at f
   exact kN f
  |true=>
   rw[c1,cX] at f
   refine lI ⟨_,Z,m d hd,_,_,Z,Z,_,Z,?_⟩
   rw[ki]
   by_cases o:d.length<=10
   .rw[au o,cX] at f
    rw[au (show((d.length:Nat):Int)<=10 by lia)]
    refine lI ⟨⟨_,Z⟩,_,_,Z,Z,_,Z,?_⟩
    rwa [g,E8 Z]
   .rw[aw o,eR] at f
    rw[aw (show ¬((d.length:Nat):Int)<=10 by lia)]
    exact kN f
 refine⟨Z,_,Z,?_⟩;refine e_ (fun c=> ?_) (fun c=> ?_)
 .unfold isNum at k;rw[ai ((Wh Z).mp ((V.str.inj (aq c)).trans g))] at k;exact k
 .unfold isNum at k;rw[ak (fun z=>c (au (congrArg V.str (((Wh Z).mpr z).trans g.symm))))] at k;refine⟨⟨_,Z⟩,_,_,Z,Z,_,Z,?_⟩;rw[p,E8 Z];refine e_ (fun d=> ?_) (fun d=> ?_)
  .rw[ai (aq d)] at k;refine⟨_,Z,_,Z,m b e,?_⟩;rw[abe];exact n b.tail Q (by rw[SO];lia) k
  .rw[ak (AA d)] at k;exact n b Q e k
def inR(b:Bytes)(lo a:Int):Bool:=(NL lo a b).isSome
inductive Wi K H(Q:VK):List V->Prop|mk:∀b a lo hi,(b.length<=100000)->(oW K H a [.int lo, .int hi])->(Q (.bl (inR b lo hi)) H)->Wi K H Q [.str (strOf b), .ref a]
theorem AM:Ok Y 2 87 (Wi K):=by
 refine Y.ok ?_;rintro _ H _ Q nd i ⟨b,a,lo,g,f,h,k⟩;refine⟨_,(cy (D7 (cP (E9 Y) i.mono (cO (pv 0))) (zE (zJ gv gv (bM di (pv 1) aY) (sP vy Z Y.nn (by rfl) (cO (pv 0))) (bM di (pv 1) aY))))),b,f,_,Z,?_⟩;unfold inR NL at k;rw[<-sh]
 cases e:VbpcText.integer b with
 |none=>rw[e] at k;exact kN k
 |some z=>
  rw[e] at k;have hl:=DB (by rw[<-sh,e];rfl);refine lI (Lu (fun Q q=>⟨a,_,_,_,Z,Z,h,Z,q⟩) (fun Q q=>⟨_,z,Z,yd e,by rw[ki];lia,q⟩) (fun Q q=>⟨a,_,_,_,Z,Z,h,Z,q⟩) ?_);have j:((aa z).bind fun z=>if lo<=z/\z<=g then aa z else ae).isSome=(ah (lo<=z)&&ah (z<=g)):=by
   show(if lo<=z/\z<=g then aa z else ae).isSome=_;by_cases c:lo<=z/\z<=g
   .rw[ai c,au c.1,au c.2];rfl
   .rw[ak c];by_cases d:lo<=z
    .rw[au d,aw fun y=>c ⟨d,y⟩];rfl
    .rw[aw d];rfl
  exact j▸k
end
end
end D
namespace D
open PySem
section
open Vbpcak (Hole State Ins Reading)
abbrev FL:=List (Str×List Int)
abbrev Us:Str×List Int:=("end",[])
abbrev Lz(n:Nat):Str×List Int:=("rep",[n])
mutual
def fb:Ins->FL| .tool d=>[("tool",[(d:Int)])]| .to x y=>[("to",[x,y])]| .go x y=>[("go",[x,y])]| .here=>[("here",[])]| .at_ x y=>[("at",[x,y])]| .by_ x y=>[("by",[x,y])]| .run n x y=>[("run",[(n:Int),x,y])]| .rep n b=>Lz n::(dk b++[Us])
def dk:List Ins->FL|[]=>[]|i::r=>fb i++dk r
end
theorem xq:∀(a b:List Ins),dk (a++b)=dk a++dk b|[],b=>rfl|i::r,b=>by rw[iy,dk,dk,xq r b,bJ]
theorem DC(i:Ins):dk [i]=fb i:=by simp[dk]
theorem pQ:dk []=[]:=rfl
theorem j4(i:Ins)(r:List Ins):dk (i::r)=fb i++dk r:=rfl
theorem si(n:Nat)(b:List Ins):fb (.rep n b)=Lz n::(dk b++[Us]):=by simp[fb]
mutual
def lg(R:Nat->Nat->Prop):Ins->Nat->Prop| .rep _ b,o=>R o (o+1+(dk b).length)/\R (o+1+(dk b).length) o/\oA R b (o+1)| .tool _,_=>True| .to _ _,_=>True| .go _ _,_=>True| .here,_=>True| .at_ _ _,_=>True| .by_ _ _,_=>True| .run _ _ _,_=>True
def oA(R:Nat->Nat->Prop):List Ins->Nat->Prop|[],_=>True|i::r,o=>lg R i o/\oA R r (o+(fb i).length)
end
theorem nz{R:Nat->Nat->Prop}{i:Ins}{r:List Ins}{o:Nat}:oA R (i::r) o↔lg R i o/\oA R r (o+(fb i).length):=by simp[oA]
theorem pR{R:Nat->Nat->Prop}{o:Nat}:oA R [] o:=by simp[oA]
theorem AN{R:Nat->Nat->Prop}{n:Nat}{b:List Ins}{o:Nat}:lg R (.rep n b) o↔R o (o+1+(dk b).length)/\R (o+1+(dk b).length) o/\oA R b (o+1):=by simp[lg]
theorem AO{R:Nat->Nat->Prop}:∀{a b:List Ins} {o:Nat},oA R (a++b) o↔oA R a o/\oA R b (o+(dk a).length)
 |[],b,o=>by simp[pR,pQ]
 |i::r,b,o=>by rw[iy,nz,nz,AO (a:=r),j4,aG,and_assoc,wH]
mutual
theorem M_{R a:Nat->Nat->Prop}:∀(i:Ins) (o:Nat),(∀x y,o<=x->x<o+(fb i).length->R x y->a x y)->lg R i o->lg a i o
 | .rep n b,o,h,m=>by rw[si,aK,aG] at h;simp only[aK,bQ] at h;rw[AN] at m⊢;exact⟨h _ _ (by simp) (by simp) m.1,h _ _ (by lia) (by lia) m.2.1,pS b (o+1) (fun x y h1 c=>h x y (by lia) (by lia)) m.2.2⟩
 | .tool _,_,_,_=>by simp[lg]
 | .to _ _,_,_,_=>by simp[lg]
 | .go _ _,_,_,_=>by simp[lg]
 | .here,_,_,_=>by simp[lg]
 | .at_ _ _,_,_,_=>by simp[lg]
 | .by_ _ _,_,_,_=>by simp[lg]
 | .run _ _ _,_,_,_=>by simp[lg]
theorem pS{R a:Nat->Nat->Prop}:∀(l:List Ins) (o:Nat),(∀x y,o<=x->x<o+(dk l).length->R x y->a x y)->oA R l o->oA a l o|[],_,_,_=>pR|i::r,o,h,m=>by rw[j4,aG] at h;rw[nz] at m⊢;exact⟨M_ i o (fun x y h1 b=>h x y h1 (by lia)) m.1,pS r _ (fun x y h1 b=>h x y (by lia) (by lia)) m.2⟩
end
def jg:List (Nat×List Ins)->FL|[]=>[]|(n,a)::r=>jg r++dk a.reverse++[Lz n]
def mD(s:ib):FL:=jg s.open_++dk s.now.reverse
def qC:List (Nat×List Ins)->List Nat|[]=>[]|(_,a)::r=>qC r++[(jg r++dk a.reverse).length]
def Ut(R:Nat->Nat->Prop):List (Nat×List Ins)->Prop|[]=>True|(_,a)::r=>Ut R r/\oA R a.reverse (jg r).length
def JN(R:Nat->Nat->Prop)(s:ib):Prop:=Ut R s.open_/\oA R s.now.reverse (jg s.open_).length
theorem qD:∀l:List (Nat×List Ins),(qC l).length=l.length|[]=>rfl|(_,_)::r=>by unfold qC;rw[aG,qD r];rfl
theorem DD{R b:Nat->Nat->Prop}:∀(l:List (Nat×List Ins)),(∀x y,x<(jg l).length->R x y->b x y)->Ut R l->Ut b l
 |[],_,_=>trivial
 |(n,a)::r,h,m=>by
  have e:(jg ((n,a)::r)).length=(jg r).length+(dk a.reverse).length+1:=by show(jg r++dk a.reverse++[Lz n]).length=_;rw[aG,aG];rfl
  exact⟨DD r (fun x y c=>h x y (by lia)) m.1,pS _ _ (fun x y h1 d=>h x y (by lia)) m.2⟩
theorem Rf{s:ib}{i:Ins}{b:Bool}:mD {s with now:=i::s.now,begun:=b}=mD s++fb i:=by show jg s.open_++dk (i::s.now).reverse=jg s.open_++dk s.now.reverse++fb i;rw[dW,xq,DC,bJ]
theorem Uu{R:Nat->Nat->Prop}{s:ib}{i:Ins}{b:Bool}(h:JN R s)(a:∀o,lg R i o):JN R {s with now:=i::s.now,begun:=b}:=by refine⟨h.1,?_⟩;show oA R (i::s.now).reverse _;rw[dW,AO];exact⟨h.2,nz.mpr ⟨a _,pR⟩⟩
theorem Na{s:ib}{n:Nat}:mD {s with open_:=(n,s.now)::s.open_,now:=[]}=mD s++[Lz n]:=by show jg s.open_++dk s.now.reverse++[Lz n]++dk ([]:List Ins).reverse=_;rw[List.reverse_nil,pQ,bZ];rfl
theorem Rg{R:Nat->Nat->Prop}{s:ib}{n:Nat}(h:JN R s):JN R {s with open_:=(n,s.now)::s.open_,now:=[]}:=⟨⟨h.1,h.2⟩,pR⟩
theorem JO{s:ib}{n:Nat}{a:List Ins}{r:List (Nat×List Ins)}(e:s.open_=(n,a)::r):mD {s with open_:=r,now:= .rep n s.now.reverse::a}=mD s++[Us]:=by show jg r++dk (.rep n s.now.reverse::a).reverse=jg s.open_++dk s.now.reverse++[Us];rw[dW,xq,DC,si,e];show _=jg r++dk a.reverse++[Lz n]++dk s.now.reverse++[Us];simp only[bJ,iy,dR]
def jy(a:List Ins)(r:List (Nat×List Ins)):Nat:=(jg r++dk a.reverse).length
theorem Nb{R c:Nat->Nat->Prop}{s:ib}{n:Nat}{a:List Ins}{r:List (Nat×List Ins)}(e:s.open_=(n,a)::r)(h:JN R s)(d:∀x y,x≠jy a r->x<(mD s).length->R x y->c x y)(h1:c (jy a r) (mD s).length)(k:c (mD s).length (jy a r)):
  JN c {s with open_:=r,now:= .rep n s.now.reverse::a}:=by
 have j:(mD s).length=jy a r+1+(dk s.now.reverse).length:=by
  unfold mD
  rw[e]
  show(jg r++dk a.reverse++[Lz n]++dk s.now.reverse).length=_
  rw[aG,aG]
  rfl
 have b:jy a r=(jg r).length+(dk a.reverse).length:=aG
 obtain⟨g,i⟩:=h
 rw[e] at g i
 have l:(jg ((n,a)::r)).length=jy a r+1:=by
  show(jg r++dk a.reverse++[Lz n]).length=_
  rw[aG]
  rfl
 rw[l] at i
 refine⟨DD r (fun x y p=>d x y (by lia) (by lia)) g.1,?_⟩
 show oA c (.rep n s.now.reverse::a).reverse (jg r).length
 rw[dW,AO]
 refine⟨pS _ _ (fun x y m o=>d x y (by lia) (by lia)) g.2,nz.mpr ⟨AN.mpr ⟨?_,?_,?_⟩,pR⟩⟩
 .rw[<-b,<-j]
  exact h1
 .rw[<-b,<-j]
  exact k
 .exact b▸(pS _ _ (fun x y m o=>d x y (by lia) (by lia)) i)
end
section
open Vbpcak (Hole State Ins Reading programLine pair)
open VbpcText (Bytes text number integer)
def zg:Int×Int:=(-2000000000,2000000000)
def kP(k:Bytes):Option (List (Int×Int)):=
 if k=text "tool" then aa [(1,10000000)] else if k=text "to" then aa [zg,zg] else if k=text "go" then aa [zg,zg] else if k=text "at" then aa [zg,zg] else if k=text "by" then aa [zg,zg]
 else if k=text "here" then aa [] else if k=text "run" then aa [(1,1000),zg,zg] else if k=text "rep" then aa [(0,1000)] else if k=text "end" then aa [] else ae
def lM(k:Bytes)(r:List Bytes):Bool:=match kP k with|none=>ag|some a=>ah (r.length=a.length)&&(r.zip a).all fun x=>inR x.1 x.2.1 x.2.2
def placeOk(s:ib)(k:Bytes):Bool:=if s.begun=ag then ah (k=text "tool") else if k=text "rep" then ah (s.open_.length<8) else if k=text "end" then ah (0<s.open_.length) else af
def gJ(b:Bytes):Int:=(integer b).getD 0
def LA(k:Bytes)(ns:List Int):Ins:=if k=text "tool" then .tool (ns.getD 0 0).toNat else if k=text "to" then .to (ns.getD 0 0) (ns.getD 1 0) else if k=text "go" then .go (ns.getD 0 0) (ns.getD 1 0) else if k=text "at" then .at_ (ns.getD 0 0) (ns.getD 1 0)
 else if k=text "by" then .by_ (ns.getD 0 0) (ns.getD 1 0) else if k=text "here" then .here else .run (ns.getD 0 0).toNat (ns.getD 1 0) (ns.getD 2 0)
def after(s:ib)(k:Bytes)(ns:List Int):ib:=if k=text "rep" then{s with open_:=((ns.getD 0 0).toNat,s.now)::s.open_,now:=[]} else if k=text "end" then(match s.open_ with|(n,a)::r=>{s with open_:=r,now:= .rep n s.now.reverse::a}|[]=>s) else{s with now:=LA k ns::s.now,begun:=af}
theorem j5(h:inR b lo hi=af):number lo hi b=aa (gJ b)/\lo<=gJ b/\gJ b<=hi/\integer b=aa (gJ b):=by unfold inR number at h;dsimp only[number,gJ];cases e:integer b with|none=>simp_all|some z=>simp_all
theorem sj(h:inR b lo hi=ag):number lo hi b=none:=by unfold inR at h;simp_all
def sk(s:ib)(k:Bytes)(r:List Bytes):Option ib:=if(lM k r&&placeOk s k)=af then aa (after s k (r.map gJ)) else ae
theorem HD(a b:Bytes):pair a b=if(inR a (-2000000000) 2000000000&&inR b (-2000000000) 2000000000)=af then aa (gJ a,gJ b) else none:=by unfold pair Vbpcak.FAR;cases c1:inR a (-2000000000) 2000000000 with|false=>rw[sj c1];rfl|true=>rw[(j5 c1).1];cases c:inR b (-2000000000) 2000000000 with|false=>rw[sj c];rfl|true=>rw[(j5 c).1];rfl
theorem E_(s:ib)(k:Bytes)(i:Int->Int->Ins)(hk:kP k=aa [zg,zg])(e:placeOk s k=s.begun)(f:∀ns:List Int,after s k ns={s with now:=i (ns.getD 0 0) (ns.getD 1 0)::s.now,begun:=af})
  (h1:d9 s [k]=ae) (g:∀a,d9 s [k,a]=ae) (h:∀a b,d9 s [k,a,b]=(pair a b).bind fun p=>if s.begun=af then aa {s with now:=i p.1 p.2::s.now} else ae) (j:∀c a b,d9 s [k,c,a,b]=ae) (r:List Bytes):d9 s (k::r)=sk s k r:=by
 unfold sk lM
 rw[hk,e,f]
 match r with
 |[]=>rw[h1];rfl
 |[a]=>rw[g];rfl
 |[a,b]=>
  rw[h,HD]
  show _=if((af&&(inR a (-2000000000) 2000000000&&(inR b (-2000000000) 2000000000&&af)))&&s.begun)=af then _ else ae
  rw[cX,fq]
  cases inR a (-2000000000) 2000000000&&inR b (-2000000000) 2000000000 with
  |false=>rfl
  |true=>
   cases l:s.begun with
   |false=>rfl
   |true=>
    rfl
 |[a,b,c]=>rw[j];rfl
 |_::_::_::_::_=>rfl
theorem km(hk:¬k=text "run")(s:ib)(c a b:Bytes):d9 s [k,c,a,b]=none:=by show((number 1 mH c).bind fun n=>(pair a b).bind fun p=>if k=text "run" then _ else ae)=ae;simp_all
theorem l9(h1:¬k=text "to")(c:¬k=text "go")(d:¬k=text "at")(e:¬k=text "by")(s:ib)(a b:Bytes):d9 s [k,a,b]=none:=by show((pair a b).bind fun p=>if k=text "to" then _ else if k=text "go" then _ else if k=text "at" then _ else if k=text "by" then _ else ae)=ae;simp_all
theorem ko(h1:¬k=text "tool")(a:¬k=text "rep")(b:¬k=text "end"):placeOk s k=s.begun:=by unfold placeOk;rw[ak a,ak b,aw h1];cases s.begun<;>rfl
theorem Uv(s:ib)(k:Bytes)(r:List Bytes)(A:s.begun=ag->s.open_=[]):d9 s (k::r)=sk s k r:=by
 by_cases i:k=text "to"
 .subst i;exact E_ s (text "to") .to rfl (ko (by decide) (by decide) (by decide)) (fun ns=>rfl) Z (fun a=>rfl) (fun a b=>rfl) (km (by decide) s) r
 by_cases j:k=text "go"
 .subst j;exact E_ s (text "go") .go Z (ko (by decide) (by decide) (by decide)) (fun ns=>rfl) Z (fun a=>rfl) (fun a b=>rfl) (km (by decide) s) r
 by_cases l:k=text "at"
 .subst l;exact E_ s (text "at") .at_ Z (ko (by decide) (by decide) (by decide)) (fun ns=>rfl) Z (fun a=>rfl) (fun a b=>rfl) (km (by decide) s) r
 by_cases m:k=text "by"
 .subst m;exact E_ s (text "by") .by_ Z (ko (by decide) (by decide) (by decide)) (fun ns=>rfl) Z (fun a=>rfl) (fun a b=>rfl) (km (by decide) s) r
 by_cases o:k=text "here"
 .subst o;unfold sk;rw[ko (by decide) (by decide) (by decide)]
  match r with
  |[]=>
   show(if s.begun=af then aa {s with now:= .here::s.now} else ae)=if(af&&s.begun)=af then aa {s with now:= .here::s.now,begun:=af} else ae
   rw[cX];cases e:s.begun with|false=>rfl|true=>rfl
  |[a]=>rfl
  |[a,b]=>exact l9 (by decide) (by decide) (by decide) (by decide) s a b
  |[a,b,c]=>exact km (by decide) s a b c
  |_::_::_::_::_=>rfl
 by_cases t:k=text "end"
 .subst t
  match r with
  |[]=>
   show(match s.open_ with|(n,f)::r=>aa {s with open_:=r,now:= .rep n s.now.reverse::f}|[]=>ae)=if(af&&placeOk s (text "end"))=af then aa (match s.open_ with|(n,f)::r=>{s with open_:=r,now:= .rep n s.now.reverse::f}|[]=>s) else ae
   rw[cX]
   cases e:s.open_ with
   |nil=>
    have:placeOk s (text "end")=false:=by unfold placeOk;rw[e];cases s.begun<;>rfl
    rw[this];rfl
   |cons x y=>
    have B:s.begun=true:=by cases q:s.begun with|true=>rfl|false=>rw[A q] at e;cases e
    have:placeOk s (text "end")=true:=by unfold placeOk;rw[e,B];rfl
    rw[this];rfl
  |[a]=>rfl
  |[a,b]=>exact l9 (by decide) (by decide) (by decide) (by decide) s a b
  |[a,b,c]=>exact km (by decide) s a b c
  |_::_::_::_::_=>rfl
 by_cases u:k=text "tool"
 .subst u;unfold sk;have v:placeOk s (text "tool")=true:=by unfold placeOk;cases s.begun<;>rfl
  rw[v,fq]
  match r with
  |[]=>rfl
  |[a]=>
   show(number 1 iM a).map _=if(af&&(inR a 1 10000000&&af))=af then _ else ae
   rw[cX,fq];cases c:inR a 1 10000000 with|false=>rw[show number 1 iM a=ae from sj c];rfl|true=>rw[show number 1 iM a=aa (gJ a) from(j5 c).1];rfl
  |[a,b]=>exact l9 (by decide) (by decide) (by decide) (by decide) s a b
  |[a,b,c]=>exact km (by decide) s a b c
  |_::_::_::_::_=>rfl
 by_cases w:k=text "rep"
 .subst w
  match r with
  |[]=>rfl
  |[a]=>
   show(if s.begun=af/\s.open_.length<y4 then(number 0 mH a).map fun n=>{s with open_:=(n.toNat,s.now)::s.open_,now:=[]} else ae)=if((af&&(inR a 0 1000&&af))&&placeOk s (text "rep"))=af then aa {s with open_:=((gJ a).toNat,s.now)::s.open_,now:=[]} else ae
   rw[cX,fq];have v:placeOk s (text "rep")=ah (s.begun=af/\s.open_.length<y4):=by unfold placeOk y4;simp_all
   rw[v];by_cases d:s.begun=af/\s.open_.length<y4
   .rw[ai d,au d,fq];cases c:inR a 0 1000 with|false=>rw[show number 0 mH a=ae from sj c];rfl|true=>rw[show number 0 mH a=aa (gJ a) from(j5 c).1];rfl
   .rw[ak d,aw d,eS];rfl
  |[a,b]=>exact l9 (by decide) (by decide) (by decide) (by decide) s a b
  |[a,b,c]=>exact km (by decide) s a b c
  |_::_::_::_::_=>rfl
 by_cases z:k=text "run"
 .subst z;unfold sk;rw[ko (by decide) (by decide) (by decide)]
  match r with
  |[]=>rfl
  |[a]=>rfl
  |[a,b]=>exact l9 (by decide) (by decide) (by decide) (by decide) s a b
  |[c,a,b]=>
   show((number 1 mH c).bind fun n=>(pair a b).bind fun p=>if s.begun=af then aa {s with now:= .run n.toNat p.1 p.2::s.now} else ae)=if((af&&(inR c 1 1000&&(inR a (-2000000000) 2000000000&&(inR b (-2000000000) 2000000000&&af))))&&s.begun)=af then aa {s with now:= .run (gJ c).toNat (gJ a) (gJ b)::s.now,begun:=af} else ae
   rw[cX,fq];cases d:inR c 1 1000 with|false=>rw[show number 1 mH c=ae from sj d];rfl|true=>rw[show number 1 mH c=aa (gJ c) from(j5 d).1,cX,HD];cases inR a (-2000000000) 2000000000&&inR b (-2000000000) 2000000000 with|false=>rfl|true=>cases A:s.begun with|false=>rfl|true=>rfl
  |_::_::_::_::_=>rfl
 have C:lM k r=false:=by unfold lM kP;rw[ak u,ak i,ak j,ak l,ak m,ak o,ak z,ak w,ak t]
 unfold sk;rw[C];match r with|[]=>exact(ak o).trans (ak t)|[a]=>exact(ak u).trans (ak w)|[a,b]=>exact l9 i j l m s a b|[a,b,c]=>exact km z s a b c|_::_::_::_::_=>rfl
end
end D
namespace D
open Vbpcak (Hole Ins Machine line drill goBy rounds does doesAll)
abbrev Frame:=Nat×List Ins×List Ins
def DE:List Frame->jr->Option jr|[],m=>aa m|(k,b,r)::fs,m=>(line m).bind fun m=>(rounds k (fun m=>(iZ b m).bind line) m).bind fun m=>(iZ r m).bind (DE fs)
def ni(l:List Ins)(fs:List Frame)(m:jr):Option jr:=(iZ l m).bind (DE fs)
theorem all_nil(m:jr):iZ [] m=aa m:=by simp[iZ]
theorem all_cons(i:Ins)(r:List Ins)(m:jr):iZ (i::r) m=(does i m).bind (iZ r):=by rfl
theorem AQ(n:Nat)(b:List Ins)(m:jr):does (.rep n b) m=(line m).bind (rounds n fun m=>(iZ b m).bind line):=by simp[does]
theorem sm(i:Ins)(r:List Ins)(fs:List Frame)(m:jr):ni (i::r) fs m=(does i m).bind (ni r fs):=by unfold ni;rw[all_cons,iN]
theorem Uw(m:jr):ni [] [] m=aa m:=by rfl
theorem Rh(b r:List Ins)(fs:List Frame)(m:jr):ni (.rep 0 b::r) fs m=(line m).bind (ni r fs):=by rw[sm,AQ,iN];congr 1
theorem Ri(n:Nat)(b r:List Ins)(fs:List Frame)(m:jr):ni (.rep (n+1) b::r) fs m=(line m).bind (ni b ((n,b,r)::fs)):=by rw[sm,AQ,iN];congr 1;funext m;show(((iZ b m).bind line).bind (rounds n fun m=>(iZ b m).bind line)).bind (ni r fs)=(iZ b m).bind (DE ((n,b,r)::fs));rw[iN,iN];congr 1
theorem Rj(b r:List Ins)(fs:List Frame)(m:jr):ni [] ((0,b,r)::fs) m=(line m).bind (ni r fs):=by unfold ni;rw[all_nil];rfl
theorem Rk(k:Nat)(b r:List Ins)(fs:List Frame)(m:jr):ni [] ((k+1,b,r)::fs) m=(line m).bind (ni b ((k,b,r)::fs)):=by
 have e:ni [] ((k+1,b,r)::fs) m=(line m).bind fun m=>(rounds (k+1) (fun m=>(iZ b m).bind line) m).bind fun m=>(iZ r m).bind (DE fs):=by unfold ni;rw[all_nil];rfl
 rw[e];congr 1;funext m;show(((iZ b m).bind line).bind (rounds k fun m=>(iZ b m).bind line)).bind (fun m=>(iZ r m).bind (DE fs))=(iZ b m).bind (DE ((k,b,r)::fs));rw[iN,iN];congr 1
structure PM where
 x:Int
 y:Int
 d:Nat
 hs:List Hole
 n:Nat
def xr(p:PM):jr:=⟨(p.x,p.y),p.d,p.hs.reverse,8192-p.n,2048-p.hs.length⟩
def tooMuch(p:PM):Bool:=ah (8192<p.n)||decide (2048<p.hs.length)
def fw(p:PM):PM:={p with n:=p.n+1}
def iP(p:PM):PM:={p with hs:=p.hs++[⟨p.x,p.y,p.d⟩]}
def Iq(x y:Int)(p:PM):PM:={p with x:=p.x+x,y:=p.y+y}
def yK(x y:Int):Nat->PM->PM|0,p=>p|n+1,p=>iP (Iq x y (yK x y n p))
theorem AR(x y:Int):∀(n:Nat) (p:PM),yK x y (n+1) p=yK x y n (iP (Iq x y p))|0,p=>rfl|n+1,p=>by show iP (Iq x y (yK x y (n+1) p))=iP (Iq x y (yK x y n (iP (Iq x y p))));rw[AR x y n p]
theorem AS(x y:Int):∀(n:Nat) (p:PM),(yK x y n p).hs.length=p.hs.length+n|0,p=>rfl|n+1,p=>by show((yK x y n p).hs++[_]).length=_;rw[aG,AS x y n p];rfl
theorem JP(x y:Int):∀(n:Nat) (p:PM),(yK x y n p).n=p.n|0,p=>rfl|n+1,p=>JP x y n p
theorem AU(p:PM):line (xr p)=if p.n+1<=8192 then aa (xr (fw p)) else none:=by
 dsimp only[line,xr,fw];by_cases c:p.n+1<=8192
 .rw[ai c,ak (by show ¬8192-p.n=0;lia)];have e:8192-p.n-1=8192-(p.n+1):=rfl;rw[e]
 .rw[ak c,ai (by show 8192-p.n=0;lia)]
theorem DF(p:PM):drill (xr p)=if p.hs.length+1<=2048 then aa (xr (iP p)) else none:=by
 dsimp only[drill,xr,iP];by_cases c:p.hs.length+1<=2048
 .rw[ai c,ak (by show ¬2048-p.hs.length=0;lia)];have e:2048-p.hs.length-1=2048-(p.hs++[Hole.mk p.x p.y p.d]).length:=by rw[aG];simp only[aK,bQ];lia
  have a:(p.hs++[Hole.mk p.x p.y p.d]).reverse=Hole.mk p.x p.y p.d::p.hs.reverse:=by simp
  rw[e,<-a]
 .rw[ak c,ai (by show 2048-p.hs.length=0;lia)]
theorem AV(x y:Int):∀(k:Nat) (p:PM),p.hs.length<=2048->rounds k (fun m=>drill (goBy x y m)) (xr p)=if p.hs.length+k<=2048 then aa (xr (yK x y k p)) else ae
 |0,p,h=>by rw[ai (by assumption)];rfl
 |k+1,p,h=>by
  have e:rounds (k+1) (fun m=>drill (goBy x y m)) (xr p)=(drill (xr (Iq x y p))).bind (rounds k fun m=>drill (goBy x y m)):=rfl;rw[e,DF];have hl:(Iq x y p).hs.length=p.hs.length:=rfl;rw[hl];by_cases c:p.hs.length+1<=2048
  .rw[ai c];show rounds k _ (xr (iP (Iq x y p)))=_;have a:(iP (Iq x y p)).hs.length=p.hs.length+1:=by show(p.hs++[_]).length=_;rw[aG];rfl
   rw[AV x y k _ (by rw[a];exact c),a,AR];by_cases b:p.hs.length+1+k<=2048
   .rw[ai b,ai (by lia)]
   .rw[ak b,ak (by lia)]
  .rw[ak c,ak (by lia)];rfl
def HE:Ins->PM->PM| .tool d,p=>{fw p with d:=d}| .to x y,p=>{fw p with x:=x,y:=y}| .go x y,p=>Iq x y (fw p)| .here,p=>iP (fw p)| .at_ x y,p=>iP {fw p with x:=x,y:=y}| .by_ x y,p=>iP (Iq x y (fw p))| .run n x y,p=>yK x y n (fw p)| .rep _ _,p=>p
def DG:Ins->Bool| .rep _ _=>af|_=>ag
theorem j6(h:tooMuch p=ag):p.n<=8192/\p.hs.length<=2048:=by unfold tooMuch at h;rw[Bool.or_eq_false_iff,aB,aB] at h;lia
theorem AW(h:tooMuch (fw p)=af):8192<p.n+1\/2048<p.hs.length:=by unfold tooMuch at h;rw[iS,aA,aA] at h;exact h
theorem so(h:tooMuch p=ag):line (xr p)=if tooMuch (fw p)=af then ae else aa (xr (fw p)):=by
 rw[AU];have a:=j6 h;unfold tooMuch fw;by_cases c:p.n+1<=8192
 .rw[ai c,ak];simp;lia
 .rw[ak c,ai];simp;lia
theorem Rm(o:DG i=ag)(h:tooMuch p=ag):does i (xr p)=if tooMuch (HE i p)=af then ae else aa (xr (HE i p)):=by
 have hl:=so h;have key:∀(q:PM),q.n=p.n+1->q.hs.length=p.hs.length->(tooMuch q=tooMuch (fw p)):=fun q h1 a=>by dsimp only[tooMuch,fw];rw[h1,a]
 have dr:∀(q:PM),q.n=p.n+1->q.hs.length=p.hs.length->tooMuch (fw p)=ag->drill (xr q)=if tooMuch (iP q)=af then ae else aa (xr (iP q)):=fun q h1 a j=>by
  rw[DF];have f:=j6 j;have e:(iP q).hs.length=p.hs.length+1:=by show(q.hs++[_]).length=_;rw[aG,a];rfl
  have g:(iP q).n=p.n+1:=h1;have l:p.n+1<=8192:=f.1;unfold tooMuch;rw[e,g,a];by_cases c:p.hs.length+1<=2048
  .rw[ai c,ak (by simp;lia)]
  .rw[ak c,ai (by simp;lia)]
 have k:∀(q:PM),q.n=p.n+1->tooMuch (fw p)=af->tooMuch (iP q)=true:=fun q h1 a=>by have j:=AW a;have f:(iP q).n=p.n+1:=h1;have l:=j6 h;unfold tooMuch;rw[f];simp;lia
 cases i with
 |rep n b=>cases o
 |tool d=>rw[does,hl,key (HE (.tool d) p) Z rfl];split<;>rfl
 |to x y=>rw[does,hl,key (HE (.to x y) p) Z rfl];split<;>rfl
 |go x y=>rw[does,hl,key (HE (.go x y) p) Z rfl];split<;>rfl
 |here=>rw[does,hl];cases c:tooMuch (fw p) with|true=>rw[show tooMuch (HE .here p)=af from k (fw p) Z c];rfl|false=>exact dr (fw p) Z rfl c
 |at_ x y=>rw[does,hl];cases c:tooMuch (fw p) with|true=>rw[show tooMuch (HE (.at_ x y) p)=af from k {fw p with x:=x,y:=y} rfl c];rfl|false=>exact dr {fw p with x:=x,y:=y} rfl rfl c
 |by_ x y=>rw[does,hl];cases c:tooMuch (fw p) with|true=>rw[show tooMuch (HE (.by_ x y) p)=af from k (Iq x y (fw p)) Z c];rfl|false=>exact dr (Iq x y (fw p)) Z rfl c
 |run n x y=>
  rw[does,hl];have m:(HE (.run n x y) p).hs.length=p.hs.length+n:=AS x y n (fw p);have g:(HE (.run n x y) p).n=p.n+1:=JP x y n (fw p)
  cases c:tooMuch (fw p) with
  |true=>
   have:tooMuch (HE (.run n x y) p)=true:=by have j:=AW c;unfold tooMuch;rw[m,g];simp;lia
   rw[this];rfl
  |false=>
   have f:=j6 c;have l:p.n+1<=8192:=f.1;show rounds n _ (xr (fw p))=_;rw[AV x y n (fw p) f.2];show(if p.hs.length+n<=2048 then aa (xr (HE (.run n x y) p)) else ae)=_;unfold tooMuch;rw[m,g];by_cases d:p.hs.length+n<=2048
   .rw[ai d,ak (by simp;lia)]
   .rw[ak d,ai (by simp;lia)]
end D
namespace D
open PySem PySem.Spec PyProof.Rows L2
variable {P0:b7} {w0:cW} {K:aM} {b0:Heap} {m0:Str->Option bj} (Y:Txt P0 w0 K b0 m0)
section
open Vbpcak (Hole State Ins Reading)
open VbpcText (Bytes text)
theorem lN(b:Bytes)(h:∀c∈b,known c.toNat=af)(x:Str)(a:TL.tl x=b.map kx):strOf k=x↔k=b:=by
 rw[<-xo h k];constructor
 .intro z;rw[<-a,<-z];rfl
 .intro z;exact TL.w8 (z.trans a.symm)
def zh(x:Str):Option (List (Int×Int)):=
 if x="tool" then aa [(1,10000000)] else if x="to" then aa [zg,zg] else if x="go" then aa [zg,zg] else if x="at" then aa [zg,zg] else if x="by" then aa [zg,zg]
 else if x="here" then aa [] else if x="run" then aa [(1,1000),zg,zg] else if x="rep" then aa [(0,1000)] else if x="end" then aa [] else ae
theorem Fb:strOf k=cq "tool"↔k=text "tool":=lN _ (by decide) _ (by decide+kernel)
theorem acU:strOf k=cq "to"↔k=text "to":=lN _ (by decide) _ (by decide+kernel)
theorem acV:strOf k=cq "go"↔k=text "go":=lN _ (by decide) _ (by decide+kernel)
theorem acW:strOf k=cq "at"↔k=text "at":=lN _ (by decide) _ (by decide+kernel)
theorem acX:strOf k=cq "by"↔k=text "by":=lN _ (by decide) _ (by decide+kernel)
theorem Yn:strOf k=cq "here"↔k=text "here":=lN _ (by decide) _ (by decide+kernel)
theorem Rn:strOf k=cq "run"↔k=text "run":=lN _ (by decide) _ (by decide+kernel)
theorem LB:strOf k=cq "rep"↔k=text "rep":=lN _ (by decide) _ (by decide+kernel)
theorem w_end:strOf k=cq "end"↔k=text "end":=lN _ (by decide) _ (by decide+kernel)
theorem JQ(k:Bytes):zh (strOf k)=kP k:=by unfold zh kP;simp only[Fb,acU,acV,acW,acX,Yn,Rn,LB,w_end]
section
theorem AX(x:V)(xs:List V):tJ (x::xs) (aa 1) ae=xs:=by unfold tJ;rw[HT.vq,show HT.nu (x::xs).length 0 (aa 1)=min 1 (x::xs).length from HT.qj _ _ 1];have e:min 1 (x::xs).length=1:=rfl;rw[e];show xs.take (xs.length+1-1)=xs;rw[pB,cR]
structure NR P w K(mg:Str->Option bj) a:Prop where
 XK:∃cw,Js P w K a cw/\∀x,match zh x with
  |none=>jc cw (.inr x)=ae
  |some rg=>∃ta ls,jc cw (.inr x)=aa (.ref ta)/\(∀H,oW K H ta (ls.map V.ref))/\Paired (fun l q=>∀H,oW K H l [.int q.1, .int q.2]) ls rg
include Y in
theorem Txt.nr:NR P0 w0 K m0 aNR:=by
 refine⟨nrL,Y.kn,fun x=> ?_⟩;unfold zh;by_cases a:x="tool"
 .rw[ai a,a];exact⟨370,[369],Z,Y.t2, .cons Y.t2 (.nil)⟩
 rw[ak a];by_cases b:x="to"
 .rw[ai b,b];exact⟨373,[371,372],Z,Y.t2, .cons Y.t2 (.cons Y.t2 (.nil))⟩
 rw[ak b];by_cases c:x="go"
 .rw[ai c,c];exact⟨376,[374,375],Z,Y.t2, .cons Y.t2 (.cons Y.t2 (.nil))⟩
 rw[ak c];by_cases d:x="at"
 .rw[ai d,d];exact⟨379,[377,378],Z,Y.t2, .cons Y.t2 (.cons Y.t2 (.nil))⟩
 rw[ak d];by_cases e:x="by"
 .rw[ai e,e];exact⟨382,[380,381],Z,Y.t2, .cons Y.t2 (.cons Y.t2 (.nil))⟩
 rw[ak e];by_cases f:x="here"
 .rw[ai f,f];exact⟨383,[],Z,Y.t2, .nil⟩
 rw[ak f];by_cases g:x="run"
 .rw[ai g,g];exact⟨387,[384,385,386],Z,Y.t2, .cons Y.t2 (.cons Y.t2 (.cons Y.t2 (.nil)))⟩
 rw[ak g];by_cases h:x="rep"
 .rw[ai h,h];exact⟨389,[388],Z,Y.t2, .cons Y.t2 (.nil)⟩
 rw[ak h];by_cases i:x="end"
 .rw[ai i,i];exact⟨390,[],Z,Y.t2, .nil⟩
 rw[ak i];show jc nrL (.inr x)=ae;unfold jc nrL;simp only[jR,List.find?_nil,N8];rw[aw (bF a),aw (bF b),aw (bF c),aw (bF d),aw (bF e),aw (bF f),aw (bF g),aw (bF h),aw (bF i)];rfl
inductive Ro K H(Q:VK):List V->Prop|mk:∀a k r,(jD K H a (wv (k::r)))->((∀b∈r,b.length<=100000))->(r.length<=100000)->(∀H',cI H H'->Q (.bl (lM k r)) H')->Ro K H Q [.ref a]
theorem we:Ok Y 3 88 (Ro K):=by
 refine Y.okN ["words","ranges","word","limits"] ?_;rintro _ H _ Q nd F ⟨a,k,r,t,L,W,q⟩;refine⟨_,(aI (bB 1 (PH F.u1 (pK Y.rr) (bM bP (pv 0) aY) ⟨Z,Z,Z,Z⟩)) (aI (da (PW.pt (xQ (Od (WR (pv 1))) (uo (cK CI (dZ Y.nn (pv 0)) (cu dJ aY (dZ Y.nn (pv 1))))))) (cy mV) ck) (cy (ja (OQ Z) Z Y.nn (by rfl) (cO (Eo [("word",2),("limits",3)] (TH Z Y.nn (aR (ig jP (pv 0) (ir aY) kU) (cO (pv 1)))) (KY (n:=2) Z (kK (cJ 2) (kK (cJ 3) vo))) iu (cP (AM Y) F.mono (aR (pv 2) (cO (pv 3)))))))))),?_⟩;obtain⟨M,N,hv⟩:=Y.nr.XK;refine⟨aNR,M,Z,N,a,_,_, .str (strOf k),Z,Z,t,cB Z, .inr (strOf k),Z,?_⟩;have hk:=hv (strOf k);rw[JQ] at hk;unfold lM at q;have O:(wv (k::r)).length=r.length+1:=by unfold wv;rw[aE];rfl
 cases g:kP k with
 |none=>rw[g] at hk q;rw[hk];exact⟨_,Z,lI (lI (q H (cI.refl _)))⟩
 |some d=>
  rw[g] at hk q;obtain⟨u,ls,h1,v,G⟩:=hk;have q:∀H',cI H H'->Q (.bl (ah (r.length=d.length)&&(r.zip d).all fun x=>inR x.1 x.2.1 x.2.2)) H':=q;rw[h1];have h:=G.length;refine⟨_,Z,kN ⟨a,_,Z, .inl t,u,_,Z, .inr (v _),_,_,Z,Z,Z,_,Z,?_⟩⟩;rw[O,aE,h];by_cases c:r.length=d.length
  .have w:(!ah (V.int ((r.length+1:Nat))=V.int (1+d.length)))=false:=by rw[au (congrArg V.int (by lia))];rfl
   rw[w];refine kN ⟨1,Z,a,_,Z,t,fun p I=>⟨p,u,_,_,Z, .of aH,v _,fun D j=> ?_⟩⟩;have P:tJ (wv (k::r)) (aa 1) ae=wv r:=AX _ _;rw[P] at j⊢;refine TJ (K:=K) (a:=p) (b:=u) (xs:=wv r) (ys:=ls.map V.ref) (fun i H'=>cI H H'/\H' p=aa (.lst (wv r))/\H' D=aa (.lst ((((r.zip d).take i).map fun x=>inR x.1 x.2.1 x.2.2).map V.bl))) ⟨(aN I).trans (aN j),(aN j) _ _ aH,aH⟩ (by unfold wv;rw[aE,aE,h,c]) (fun i H' _ z=>⟨.of z.2.1,v _⟩) ?_ ?_
   .rintro i x y R H' f S A ⟨B,C,m⟩;unfold wv at f;rw[bp] at f
    cases s:r[i]? with
    |none=>rw[s] at f;cases f
    |some b=>
     rw[s] at f;have ex:x=V.str (strOf b):=(aW f).symm;subst ex;obtain⟨l,hl,rfl⟩:=hU S;obtain⟨e,T,E⟩:=dj G hl;have U:(r.zip d)[i]? =aa (b,e):=by rw[List.getElem?_zip_eq_some];exact⟨s,T⟩
     refine⟨R,_,Z, .of aH,Z,_,_,Z,_,_,Z,Z,Z,?_⟩;refine⟨b,l,e.1,e.2,L b (bC s),E _,?_⟩;refine⟨_,(aL (aS m A)).trans m,?_,cD (B.trans (aN (o:= .tup [.str (strOf b), .ref l]) A)) ((aN I).free j),?_,?_⟩
     .rw[aE,aE,bA];refine bo (eU _ _) ?_;rw[BB];have:br=16777216:=d8;lia
     .rw[aL (aS aH j),aL (aS C A)];exact C
     .rw[aH,take_snoc U,a_,a_];rfl
   .rintro H' ⟨B,C,m⟩;rw[(b8 (by unfold wv;rw[aE,BB];lia))] at m;refine⟨D,_,Z, .of m,?_⟩;rw[yo];have J:=q H' B;rw[au c,cX] at J;exact J
  .have w:(!ah (V.int ((r.length+1:Nat):Int)=V.int (1+(d.length:Int))))=true:=by rw[aw (fun z=>c (by have:=V.int.inj z;lia))];rfl
   rw[w];rw[aw c,eR] at q;exact lI (q H (cI.refl _))
def pf(l pt lp:Addr)(a:Int):List (Str×V):=[("lines", .ref l),("partners", .ref pt),("loops", .ref lp),("wrong_line", .int a)]
structure PL(F:Addr->Prop)(H:Hp)(l lp)(as:List Addr)(L:FL):Prop where
 lst:H l=aa (.lst (as.map V.ref))
 at_:Paired (fun a x=>F a/\∃n,F n/\H a=aa (.tup [.str x.1, .ref n])/\H n=aa (.lst (x.2.map V.int))/\n≠l/\n≠lp) as L
structure PD F(H:Hp)(C p dp l pt lp) wl as L cw hV:Prop where
 at_:H p=aa (.ins C dp (pf l pt lp wl))
 ln:PL F H l lp as L
 Nc:H pt=aa (.dK cw)
 JR:H lp=aa (.lst (nv hV))
 ne:l≠lp
 fp:F p
 fl:F l
 Yo:F pt
 Yp:F lp
theorem PD.keep(D:PD F H C p dp l pt lp wl as L cw hV)(k:fk H H' xs)(c:∀x∈xs,¬F x):PD F H' C p dp l pt lp wl as L cw hV:=by have g:=fun a h z=>c a z h;refine⟨k _ _ D.at_ (g _ D.fp),⟨k _ _ D.ln.lst (g _ D.fl),D.ln.at_.mono fun a x q=> ?_⟩,k _ _ D.Nc (g _ D.Yo),k _ _ D.JR (g _ D.Yp),D.ne,D.fp,D.fl,D.Yo,D.Yp⟩;obtain⟨h1,n,b,d,e,f⟩:=q;exact⟨h1,n,b,k _ _ d (g _ h1),k _ _ e (g _ b),f⟩
theorem PD.same(D:PD F H C p dp l pt lp wl as L cw hV)(e:cI H H'):PD F H' C p dp l pt lp wl as L cw hV:=D.keep (xs:=[]) (fk.of e) (fun _ z=>nomatch z)
inductive LG C H(Q:VK):List V->Prop|mk:∀F p dp l pt lp wl as L cw hV k,(PD F H C p dp l pt lp wl as L cw hV)->(Q (.bl (if L=[] then ah (k=text "tool") else if k=text "rep" then ah (hV.length<8) else if k=text "end" then ah (0<hV.length) else af)) H)->LG C H Q [.ref p, .str (strOf k)]
theorem oE[Decidable p](h:x=y↔p):ah (V.str x=V.str y)=ah p:=decide_eq_decide.mpr ⟨fun z=>h.mp (V.str.inj z),fun z=>congrArg V.str (h.mpr z)⟩
theorem uM:Ok Y 1 89 (LG CP):=by
 refine Y.ok ?_;rintro _ H _ Q nd h ⟨F,p,dp,l,pt,lp,i,as,L,j,b,k,D,q⟩;refine⟨_,(aI (da (gV (je (bS Y.na (pv 0)) (fun _=>rfl))) (cy (kT jt (pv 1) gU)) ck) (aI (da (cK jt (pv 1) gU) (cy (kT lG (dZ Y.nn (bS Y.na (pv 0))) (d_ Y.ci))) ck) (aI (da (cK jt (pv 1) gU) (cy (kT mB (dZ Y.nn (bS Y.na (pv 0))) aY)) ck) (cy mV)))),?_⟩;have g:=D.ln.at_.length;refine⟨p,CP,dp,_,_,Z,D.at_,Z,Z,_, .inl ⟨_, .of D.ln.lst,Z⟩,?_⟩;by_cases c:L=[]
 .rw[ai c] at q;have d:=bX.mp (by rw[g,c];rfl);rw[d];refine⟨Z,?_⟩;rwa [oE Fb]
 .rw[ak c] at q;have d:(!(as.map V.ref).isEmpty)=true:=by cases as with|nil=>exact az (bX.mp (by rw[<-g];rfl)) c|cons a r=>rfl
  rw[d];refine kN ⟨Z,_,Z,?_⟩;rw[oE LB];refine e_ (fun c1=> ?_) (fun c1=> ?_)
  .rw[ai (aq c1)] at q;refine⟨p,CP,dp,_,_,Z,D.at_,Z,Z,lp,_,Z, .inl (.of D.JR),_,_,Z,Z,?_⟩;rw[cZ];have e:ah (((b.length:Nat):Int)<8)=ah (b.length<8):=decide_eq_decide.mpr (by lia);rw[<-e] at q;exact q
  .rw[ak (AA c1)] at q;refine⟨Z,_,Z,?_⟩;rw[oE w_end];refine e_ (fun f=> ?_) (fun f=> ?_)
   .rw[ai (aq f)] at q;refine⟨p,CP,dp,_,_,Z,D.at_,Z,Z,lp,_,Z, .inl (.of D.JR),_,_,Z,Z,?_⟩;rw[cZ];rw[<-(decide_eq_decide.mpr (by simp):ah ((0:Int)<((b.length:Nat):Int))=ah (0<b.length))] at q;exact q
   .rw[ak (AA f)] at q;exact q
inductive LH C H(Q:VK):List V->Prop|mk:∀p dp,(H p=aa (.ins C dp []))->(∀H' l pt lp,H l=ae->H pt=ae->H lp=ae->l≠lp->H' p=aa (.ins C dp (pf l pt lp 0))->H' l=aa (.lst [])->H' pt=aa (.dK [])->H' lp=aa (.lst [])->fk H H' [p]->Q .rH H')->LH C H Q [.ref p]
theorem Rq:Om Y 1 7 (LH CP):=by
 refine Y.om ?_;rintro _ H _ Q nd t ⟨p,dp,n,k⟩;refine⟨_,(aI (eK Y.na (pv 0) (cT gW)) (aI (eK Y.na (pv 0) Gp) (aI (eK Y.na (pv 0) (cT gW)) (b6 (eK Y.na (pv 0) aY))))),?_⟩;refine⟨zl,fun l hl=> ?_⟩;have a:=cF n hl;refine⟨p,CP,dp,_,Z,(aL (bF a)).trans n,Z,zk,?_⟩;refine fun pt f=> ?_;have b:=cF aH f;have h:=cF ((aL a).trans aH) f;refine⟨p,CP,dp,_,Z,(aL (bF b)).trans aH,Z,zk,?_⟩;refine⟨zl,fun lp c=> ?_⟩;have g:=cF aH c;have r:=cF ((aL b).trans aH) c;have i:=cF (by rw[aL a,aL (bF h),aL a,aH]) c;refine⟨p,CP,dp,_,Z,(aL (bF g)).trans aH,Z,zk,?_⟩;refine⟨p,CP,dp,_,Z,aH,Z,zk,?_⟩;rw[gq];have d:H pt=none:=by rw[aL b,aL h] at f;exact f
 have e:H lp=none:=by rw[aL g,aL r,aL g,aL i] at c;exact c
 refine k _ l pt lp hl d e (bF i) aH ?_ ?_ ?_ fun q o j s=> ?_
 .rw[aL a,aL (bF i),aL a,aL (bF h),aL a,aH]
 .rw[aL b,aL (bF r),aL b,aH]
 .rw[aL g,aH]
 .have m:q≠p:=fun z=>s (by simp[z]);rwa [aL m,aL (aS j e),aL m,aL (aS j d),aL m,aL (aS j hl)]
end
end
section
open Vbpcak (Hole State Ins Reading)
open VbpcText (Bytes text integer)
section
theorem PD.nep(D:PD F H C p dp l pt lp wl as L cw hV):p≠l/\p≠pt/\p≠lp/\pt≠l/\pt≠lp:=
 ⟨dE D.at_ D.ln.lst (by intro z;cases z),dE D.at_ D.Nc (by intro z;cases z),dE D.at_ D.JR (by intro z;cases z),dE D.Nc D.ln.lst (by intro z;cases z),dE D.Nc D.JR (by intro z;cases z)⟩
theorem PD.Wj(D:PD F H C p dp l pt lp wl as L cw hV)(b:List Nat):PD F (upd H lp (.lst (nv b))) C p dp l pt lp wl as L cw b:=by obtain⟨h1,k,e,m,f⟩:=D.nep;refine⟨(aL e).trans D.at_,⟨(aL D.ne).trans D.ln.lst,D.ln.at_.mono fun a x q=> ?_⟩,(aL f).trans D.Nc,aH,D.ne,D.fp,D.fl,D.Yo,D.Yp⟩;obtain⟨g,n,h,c,i,j,d⟩:=q;exact⟨g,n,h,(aL (dE c D.JR (by intro z;cases z))).trans c,(aL d).trans i,j,d⟩
theorem PD.Wk(D:PD F H C p dp l pt lp wl as L cw hV)(b:List (Key×V)):PD F (upd H pt (.dK b)) C p dp l pt lp wl as L b hV:=by obtain⟨h1,e,m,f,g⟩:=D.nep;refine⟨(aL e).trans D.at_,⟨(aL (bF f)).trans D.ln.lst,D.ln.at_.mono fun a x q=> ?_⟩,aH,(aL (bF g)).trans D.JR,D.ne,D.fp,D.fl,D.Yo,D.Yp⟩;obtain⟨h,n,i,c,d,j,k⟩:=q;exact⟨h,n,i,(aL (dE c D.Nc (by intro z;cases z))).trans c,(aL (dE d D.Nc (by intro z;cases z))).trans d,j,k⟩
theorem PD.Wl(D:PD F H C p dp l pt lp wl as L cw hV)(b:Int):PD F (upd H p (.ins C dp (pf l pt lp b))) C p dp l pt lp b as L cw hV:=by obtain⟨h1,e,f,k,m⟩:=D.nep;refine⟨aH,⟨(aL (bF h1)).trans D.ln.lst,D.ln.at_.mono fun a x q=> ?_⟩,(aL (bF e)).trans D.Nc,(aL (bF f)).trans D.JR,D.ne,D.fp,D.fl,D.Yo,D.Yp⟩;obtain⟨g,n,h,c,d,i,j⟩:=q;exact⟨g,n,h,(aL (dE c D.at_ (by intro z;cases z))).trans c,(aL (dE d D.at_ (by intro z;cases z))).trans d,i,j⟩
theorem PD.line(D:PD F H C p dp l pt lp wl as L cw hV)(b:H t=aa (.tup [.str x, .ref n]))(hn:H n=aa (.lst (ns.map V.int)))(c:n≠l)(f:n≠lp)(g:F t)(fn:F n):
  PD F (upd H l (.lst (as.map V.ref++[.ref t]))) C p dp l pt lp wl (as++[t]) (L++[(x,ns)]) cw hV:=by
 obtain⟨h1,o,r,h,s⟩:=D.nep
 refine⟨(aL h1).trans D.at_,⟨by rw[aH,a_];rfl,j0 (D.ln.at_.mono fun a x q=> ?_) (.cons ⟨g,n,fn,?_,?_,c,f⟩ .nil)⟩,(aL h).trans D.Nc,(aL (bF D.ne)).trans D.JR,D.ne,D.fp,D.fl,D.Yo,D.Yp⟩
 .obtain⟨i,n,j,d,k,e,m⟩:=q
  exact⟨i,n,j,(aL (dE d D.ln.lst (by intro z;cases z))).trans d,(aL e).trans k,e,m⟩
 .exact(aL (dE b D.ln.lst (by intro z;cases z))).trans b
 .exact(aL c).trans hn
def Nd(k:Bytes)(n:Nat)(a:List Nat):List Nat:=if k=text "rep" then a++[n] else if k=text "end" then a.dropLast else a
def HH(k:Bytes)(n:Nat)(a:List Nat)(b:List (Key×V)):List (Key×V):=if k=text "end" then putK (putK b (.inl ((a.getLastD 0:Nat))) (.int n)) (.inl n) (.int ((a.getLastD 0:Nat))) else b
inductive Rr C H(Q:VK):List V->Prop|mk:∀F p dp l pt lp wl as L cw hV a k r,(PD F H C p dp l pt lp wl as L cw hV)->(H a=aa (.lst (wv (k::r))))->(a≠l)->(a≠lp)->((∀b∈r,integer b=aa (gJ b)/\b.length<=11))->(r.length<=10)->(L.length<=100000)->(cw.length<=2*L.length)->(hV.length<=L.length)->((k=text "end"->hV≠[]))->((∀x,H x=ae->F x))->(∀H' as',PD F H' C p dp l pt lp wl as' (L++[(strOf k,r.map gJ)]) (HH k L.length hV cw) (Nd k L.length hV)->fk H H' [l,lp,pt]->Q .rH H')->Rr C H Q [.ref p, .ref a]
theorem HI:Ok Y 1 90 (Rr CP):=by
 refine Y.okN ["program","words","place","word","start"] ?_;rintro _ H _ Q nd hr ⟨F,p,dp,l,pt,lp,wl,as,L,C,W,a,k,r,D,E,G,nap,I,Sv,hLl,B6,Qi,Jg,X,q⟩;have hu:=hr.u1;refine⟨_,(aI (bB 2 (dZ Y.nn (bS Y.na (pv 0)))) (aI (cQ (fV aX bu bw df (bS Y.na (pv 0)) (cO (nG (aR (bM bP (pv 1) aY) (cO (Eo [("word",3)] (eM (ig jP (pv 1) (ir aY) kU)) (cJ 3) iu (sP vy Z Y.nn (by rfl) (cO (pv 3)))))))))) (b6 (da (cK jt (bM bP (pv 1) aY) gU) (b6 (cQ (fV aX bu bw df (bS Y.na (pv 0)) (cO (pv 2))))) (b6 (da (cK jt (bM bP (pv 1) aY) gU) (aI (bB 4 (Ee aX jL jM Ef (bS Y.na (pv 0)))) (aI (y9 hu (bS Y.na (pv 0)) (pv 4) (pv 2) Z) (b6 (y9 hu (bS Y.na (pv 0)) (pv 2) (pv 4) Z)))) ck)))))),?_⟩;have mw:(as.map V.ref).length=L.length:=by rw[aE,D.ln.at_.length]
 have hsz:=d8;refine⟨p,CP,dp,_,_,Z,D.at_,Z,Z,l,_,Z, .inl (.of D.ln.lst),?_⟩;rw[mw];refine⟨p,CP,dp,_,_,Z,D.at_,Z,Z, .inl ⟨Z,_, .of D.ln.lst⟩,a,_,_, .str (strOf k),Z,Z, .of E,cB Z,1,Z,a,_,Z, .of E,fun s hs=> ?_⟩;have Rp:tJ (wv (k::r)) (aa 1) ae=wv r:=AX _ _;rw[Rp];refine⟨s,Z,⟨_, .of aH⟩,fun g c=> ?_⟩;have d:H g=none:=(aN hs).free c;refine i9 (K:=K) (a:=s) (xs:=wv r) (fun i H'=>cI H H'/\H' s=aa (.lst (wv r))/\H' g=aa (.lst (((r.take i).map gJ).map V.int))) ⟨(aN hs).trans (aN c),(aN c) _ _ aH,aH⟩ (fun i H' _ z=> .of z.2.1) ?_ ?_
 .rintro i x H' h ⟨hS,J,JM⟩;unfold wv at h;rw[bp] at h
  cases B:r[i]? with
  |none=>rw[B] at h;cases h
  |some b=>
   rw[B] at h;have ex:x=V.str (strOf b):=(aW h).symm;subst ex;obtain⟨e1,e2⟩:=I b (bC B);refine⟨Z,strOf b,gJ b,Z,yd e1,by rw[ki];lia,?_⟩;refine⟨_,JM,?_,cD hS d,(aL (aS aH c)).trans J,?_⟩
   .rw[aE,aE,bA];lia
   .rw[aH,take_snoc B,a_,a_];rfl
 .rintro H2 ⟨fH,_,M⟩;rw[(b8 (by unfold wv;rw[aE];exact aQ _))] at M;refine⟨zl,fun t N=> ?_⟩;have O:=fH.trans (aN (o:= .tup [.str (strOf k), .ref g]) N);have D3:=D.same O;have e:=D3.line (t:=t) (n:=g) aH ((aL (aS M N)).trans M) ((aS D.ln.lst d).symm) ((aS D.JR d).symm) (X t (fH.free N)) (X g d);refine⟨l,_,_,Z,Z,D3.ln.lst,by rw[mw,hsz];lia,?_⟩;have w:upd (upd H2 t (.tup [.str (strOf k), .ref g])) l (.lst (as.map V.ref++[.ref t])) a=aa (.lst (wv (k::r))):=(aL G).trans (O _ _ E);have P:fk H (upd (upd H2 t (.tup [.str (strOf k), .ref g])) l (.lst (as.map V.ref++[.ref t]))) [l,lp,pt]:=fun x o y m=>by rw[aL (fun z=>m (by simp[z]))];exact O _ _ y
  refine⟨a,_,_, .str (strOf k),Z,Z, .of w,cB (j:=0) Z,Z,_,Z,?_⟩;rw[oE LB];refine e_ (fun c1=> ?_) (fun c1=> ?_)
  .have A:=aq c1;refine⟨p,CP,dp,_,_,Z,e.at_,Z,Z, .inl ⟨Z,_, .of e.JR⟩,lp,_,_,Z,Z,e.JR,by rw[cZ,hsz];lia,?_⟩;have u:=e.Wj (W++[L.length]);rw[gu] at u;refine q _ (as++[t]) ?_ (P.trans fun x o y m=>by rw[aL (fun z=>m (by simp[z]))];exact y);unfold HH Nd;rw[ai A,ak (by rw[A];decide)];exact u
  .have A:=AA c1;refine⟨a,_,_, .str (strOf k),Z,Z, .of w,cB (j:=0) Z,Z,_,Z,?_⟩;rw[oE w_end];refine e_ (fun R=> ?_) (fun R=> ?_)
   .have v:=aq R;obtain⟨init,f,mW⟩:∃init f,W=init++[f]:=⟨_,_,(nE (Jg v)).symm⟩;have S:=q;unfold HH Nd at S;rw[ak A,ai v,ai v,mW,gS,L8] at S;rw[mW] at e;have T:=e.JR;rw[gu] at T;refine⟨p,CP,dp,_,_,Z,e.at_,Z,Z, .inl ⟨Z,_, .of T⟩,lp,_, .int (f:Int),Z,Z,T,?_,?_⟩
    .rw[aG];show(nv init++[V.int (f:Int)])[(nv init).length+1-1]? =_;rw[pB,ou]
    rw[gS];have u:=e.Wj init;refine⟨p,CP,dp,_,_,Z,u.at_,Z,Z,pt,_,Z, .k (k:= .inl (f:Int)) u.Nc (by rw[hsz];lia),?_⟩;have U:=u.Wk (putK C (.inl (f:Int)) (.int (L.length:Int)));have gr:=v_ C (.inl (f:Int)) (.int (L.length:Int));refine⟨p,CP,dp,_,_,Z,U.at_,Z,Z,pt,_,Z, .k (k:= .inl (L.length:Int)) U.Nc (by rw[hsz];lia),?_⟩;refine S _ _ (U.Wk (putK (putK C (.inl (f:Int)) (.int (L.length:Int))) (.inl (L.length:Int)) (.int (f:Int)))) (P.trans fun x o y m=> ?_);have m2:x≠pt:=fun z=>m (by simp[z]);rw[aL m2,aL m2,aL (fun z=>m (by simp[z]))];exact y
   .have v:=AA R;refine q _ (as++[t]) ?_ P;unfold HH Nd;rw[ak A,ak v,ak v];exact e
end
end
section
open Vbpcak (Hole State Ins Reading programLine)
open VbpcText (Bytes text integer)
def PK(a:List (Key×V))(i j:Nat):Prop:=jc a (.inl i)=aa (.int j)
structure RI s L cw hV:Prop where
 fl:L=mD s
 lp:hV=qC s.open_
 mt:JN (PK cw) s
 bg:s.begun=af↔L≠[]
 op:s.begun=ag->s.open_=[]
 hd:L≠[]->∃d rest,L=(("tool":Str),[d])::rest
 kl:cw.length<=2*L.length
 rb:∀x∈L,x.1=("run")->x.2.headD 0<=1000
 tb:∀x∈L,x.1=("tool")->1<=x.2.headD 0
theorem RI.first:RI ⟨[],[],ag⟩ [] [] []:=⟨by simp[mD,jg,dk],Z,⟨trivial,pR⟩,by simp,fun _=>rfl,fun h=>az Z h,aQ _,(fun _ z=>nomatch z),(fun _ z=>nomatch z)⟩
theorem wg(hk:kP k=aa [zg,zg])(h:lM k r=af):∃a b,r=[a,b]:=by unfold lM at h;rw[hk] at h;have h':=h;rw[bq,aA] at h';match r,h'.1 with|[a,b],_=>exact⟨a,b,Z⟩
theorem HJ(h:lM k r=af)(h1:¬k=text "rep")(q:¬k=text "end"):fb (LA k (r.map gJ))=[(strOf k,r.map gJ)]/\∀R o,lg R (LA k (r.map gJ)) o:=by
 by_cases f:k=text "to"
 .subst f;obtain⟨a,b,rfl⟩:=wg Z h;refine⟨?_,fun R o=> ?_⟩
  .rfl
  .show lg R (.to (gJ a) (gJ b)) o;simp[lg]
 by_cases g:k=text "go"
 .subst g;obtain⟨a,b,rfl⟩:=wg Z h;refine⟨?_,fun R o=> ?_⟩
  .rfl
  .show lg R (.go (gJ a) (gJ b)) o;simp[lg]
 by_cases i:k=text "at"
 .subst i;obtain⟨a,b,rfl⟩:=wg Z h;refine⟨?_,fun R o=> ?_⟩
  .rfl
  .show lg R (.at_ (gJ a) (gJ b)) o;simp[lg]
 by_cases j:k=text "by"
 .subst j;obtain⟨a,b,rfl⟩:=wg Z h;refine⟨?_,fun R o=> ?_⟩
  .rfl
  .show lg R (.by_ (gJ a) (gJ b)) o;simp[lg]
 by_cases l:k=text "here"
 .subst l;have h':(ah (r.length=0)&&_)=true:=h;rw[bq,aA] at h';have e:=bX.mp h'.1;subst e;refine⟨?_,fun R o=> ?_⟩
  .rfl
  .show lg R .here o;simp[lg]
 by_cases m:k=text "tool"
 .subst m;have h':(ah (r.length=1)&&_)=true:=h;rw[bq,aA] at h'
  match r,h'.1,h with
  |[a],_,h=>
   have d:inR a 1 10000000=true:=by have:(af&&(inR a 1 10000000&&af))=true:=h;rw[cX,fq] at this;exact this
   obtain⟨_,n,_⟩:=j5 d;refine⟨?_,fun R o=> ?_⟩
   .rw[Fb.mpr Z];show fb (.tool (gJ a).toNat)=_;simp[fb];lia
   .show lg R (.tool (gJ a).toNat) o;simp[lg]
 by_cases p:k=text "run"
 .subst p;have h':(ah (r.length=3)&&_)=true:=h;rw[bq,aA] at h'
  match r,h'.1,h with
  |[c,a,b],_,h=>
   have d:inR c 1 1000=true:=by have:(af&&(inR c 1 1000&&_))=true:=h;rw[cX,bq] at this;exact this.1
   obtain⟨_,n,_⟩:=j5 d;refine⟨?_,fun R o=> ?_⟩
   .rw[Rn.mpr Z];show fb (.run (gJ c).toNat (gJ a) (gJ b))=_;simp[fb];lia
   .show lg R (.run (gJ c).toNat (gJ a) (gJ b)) o;simp[lg]
 simp_all [lM,kP,ak]
theorem Nf(h:lM k r=af):(∀b∈r,integer b=aa (gJ b)/\b.length<=11)/\r.length<=10:=by
 unfold lM at h
 cases e:kP k with
 |none=>simp_all
 |some a=>
  rw[e] at h;have h':=h;rw[bq,aA,gD] at h';have g:a.length<=3:=by
   unfold kP at e;repeat' split at e
   all_goals first|(cases e;decide)|cases e
  refine⟨fun b d=> ?_,by lia⟩;obtain⟨i,j,l⟩:=eG.mp d;have f:(b,a[i]'(by lia))∈r.zip a:=by rw[eG];exact⟨i,by rw[BB];lia,by simp_all⟩
  obtain⟨_,_,_,c⟩:=j5 (h'.2 _ f);refine⟨c,DB ?_⟩;rw[<-sh,c];rfl
theorem RI.step(R:RI s L cw hV)(l:lM k r=af)(u:placeOk s k=af):RI (after s k (r.map gJ)) (L++[(strOf k,r.map gJ)]) (HH k L.length hV cw) (Nd k L.length hV):=by
 have w:L++[(strOf k,r.map gJ)]≠[]:=by simp
 have F:s.begun=af\/k=text "tool":=by cases q:s.begun with|true=>exact .inl rfl|false=>unfold placeOk at u;rw[q,ai Z] at u;exact .inr (aq u)
 have m:∃d o,L++[(strOf k,r.map gJ)]=(("tool":Str),[d])::o:=by
  by_cases c:L=[]
  .rw[c];have hk:=F.resolve_left fun z=>(R.bg.mp z) c;subst hk;have h':(ah (r.length=1)&&_)=true:=l;rw[bq,aA] at h';match r,h'.1 with|[a],_=>exact⟨gJ a,[],by rfl⟩
  .obtain⟨d,o,e⟩:=R.hd c;exact⟨d,o++[(strOf k,r.map gJ)],by rw[e];rfl⟩
 have hl:=R.kl;have A:∀x∈L++[(strOf k,r.map gJ)],x.1=("run":Str)->x.2.headD 0<=1000:=fun x G g=>by
  rcases cN.mp G with z|z
  .exact R.rb x z g
  .rw[a0.mp z] at g⊢;have hk:=Rn.mp g;subst hk;have h':(ah (r.length=3)&&_)=true:=l;rw[bq,aA] at h'
   match r,h'.1,l with
   |[c,a,b],_,h=>
    have g:inR c 1 1000=true:=by have:(af&&(inR c 1 1000&&_))=true:=h;rw[cX,bq] at this;exact this.1
    exact(j5 g).2.2.1
 have B:∀x∈L++[(strOf k,r.map gJ)],x.1=("tool":Str)->1<=x.2.headD 0:=fun x G g=>by
  rcases cN.mp G with z|z
  .exact R.tb x z g
  .rw[a0.mp z] at g⊢;have hk:k=text "tool":=Fb.mp g;subst hk;have h':(ah (r.length=1)&&_)=true:=l;rw[bq,aA] at h'
   match r,h'.1,l with
   |[a],_,h=>
    have g:inR a 1 10000000=true:=by have:(af&&(inR a 1 10000000&&af))=true:=h;rw[cX,fq] at this;exact this
    exact(j5 g).2.1
 by_cases c1:k=text "rep"
 .subst c1;have h':(ah (r.length=1)&&_)=true:=l;rw[bq,aA] at h'
  match r,h'.1,l,w,m,A,B with
  |[a],_,l,w,m,A,B=>
   have g:inR a 0 1000=true:=by have:(af&&(inR a 0 1000&&af))=true:=l;rw[cX,fq] at this;exact this
   obtain⟨_,E,_⟩:=j5 g;have v:=F.resolve_right (by decide);refine⟨?_,?_,Rg R.mt,?_,?_,fun _=>m,?_,A,B⟩
   .show _=mD {s with open_:=((gJ a).toNat,s.now)::s.open_,now:=[]};rw[Na,<-R.fl,LB.mpr Z];show _++[((cq "rep"),[gJ a])]=_++[(cq "rep",[(((gJ a).toNat:Nat):Int)])];rw[N6 E]
   .show hV++[L.length]=qC s.open_++[(jg s.open_++dk s.now.reverse).length];rw[R.lp,R.fl];rfl
   .exact⟨fun _=>w,fun _=>v⟩
   .intro z;have z':s.begun=false:=z;rw[v] at z';cases z'
   .show cw.length<=_;rw[aG];simp only[aK,bQ];lia
 .by_cases C:k=text "end"
  .subst C;have h':(ah (r.length=0)&&_)=true:=l;rw[bq,aA] at h';have K:=bX.mp h'.1;subst K;have v:=F.resolve_right (by decide);have M:0<s.open_.length:=by unfold placeOk at u;rw[v] at u;exact aq u
   cases D:s.open_ with
   |nil=>simp_all
   |cons x y=>
    obtain⟨n,f⟩:=x;have H:after s (text "end") (List.map gJ [])={s with open_:=y,now:= .rep n s.now.reverse::f}:=by show(match s.open_ with|(n,f)::r=>{s with open_:=r,now:= .rep n s.now.reverse::f}|[]=>s)=_;rw[D]
    have J:hV=qC y++[jy f y]:=by rw[R.lp,D];rfl
    have N:hV.getLastD 0=jy f y:=by rw[J,L8]
    have O:HH (text "end") L.length hV cw=putK (putK cw (.inl ((jy f y:Nat))) (.int L.length)) (.inl L.length) (.int ((jy f y:Nat))):=by unfold HH;rw[ai Z,N]
    have S:jy f y<L.length:=by rw[R.fl];unfold mD;rw[D];show _<(jg y++dk f.reverse++[Lz n]++dk s.now.reverse).length;rw[aG,aG];show _<jy f y+1+_;lia
    rw[H,O];have key:∀(i j:Nat),((ma (i:Int):Key)=ma (j:Int))↔i=j:=fun i j=>⟨fun z=>by have:=oP z;lia,fun z=>by rw[z]⟩;refine⟨?_,?_,?_,?_,?_,fun _=>m,?_,A,B⟩
    .rw[JO D,<-R.fl,w_end.mpr Z];rfl
    .show(if text "end"=text "rep" then _ else if text "end"=text "end" then hV.dropLast else hV)=qC y;rw[ak (by decide),ai Z,J,gS]
    .refine Nb D R.mt (fun i j h1 P E=> ?_) ?_ ?_
     .rw[<-R.fl] at P;unfold PK at E⊢;rw[pJ,ak (fun z=>by lia),pJ,ak (fun z=>h1 ((key _ _).mp z))];exact E
     .rw[<-R.fl];unfold PK;rw[pJ,ak (fun z=>by have:=(key _ _).mp z;lia),pJ,ai Z]
     .rw[<-R.fl];unfold PK;rw[pJ,ai Z]
    .exact⟨fun _=>w,fun _=>v⟩
    .intro z;have z':=z;rw[v] at z';cases z'
    .have T:=v_ (putK cw (.inl ((jy f y:Nat))) (.int L.length)) (.inl L.length) (.int ((jy f y:Nat)));have U:=v_ cw (.inl ((jy f y:Nat))) (.int L.length);rw[aG];simp only[aK,bQ];lia
  .obtain⟨Q,I⟩:=HJ l c1 C;have H:after s k (r.map gJ)={s with now:=LA k (r.map gJ)::s.now,begun:=af}:=by unfold after;rw[ak c1,ak C]
   rw[H];unfold HH Nd;rw[ak c1,ak C,ak C];refine⟨?_,R.lp,Uu R.mt (I _),⟨fun _=>w,fun _=>rfl⟩,(fun z=>nomatch z),fun _=>m,?_,A,B⟩
   .rw[Rf,<-R.fl,Q]
   .rw[aG];simp only[aK,bQ];lia
end
section
open Vbpcak (Hole State Ins Reading programLine)
open VbpcText (Bytes text integer words passed readLines lines)
def wj(s:ib)(l:Bytes):Option ib:=match words l with|none=>ae|some a=>if passed a=af then aa s else d9 s a
theorem AY(n:Nat)(s:ib)(l:Bytes)(r:List Bytes):readLines d9 n s (l::r)=match wj s l with
  |none=> .error n
  |some t=>readLines d9 (n+1) t r:=by
 unfold wj
 rw[readLines]
 cases words l with
 |none=>rfl
 |some a=>
  dsimp only
  by_cases c:passed a=af
  .rw[ai c,ai c]
  .rw[ak c,ak c]
   cases d9 s a<;>rfl
theorem mx:∀(l b:Bytes),∀x∈dh b l,x.length<=b.length+l.length
 |[],[],x,d=>by simp[dh] at d
 |[],a::b,x,d=>by
  have e:x=(a::b).reverse:=by simpa [dh] using d
  rw[e,dN];simp
 |c::r,b,x,d=>by
  have e:dh b (c::r)=if c=32 then(if b.isEmpty=af then dh [] r else b.reverse::dh [] r) else dh (c::b) r:=by cases b<;>rfl
  rw[e] at d;dsimp only[aK];split at d
  .split at d
   .have:=mx r [] x d;simp only[bQ] at this;lia
   .rcases aZ.mp d with z|z
    .rw[z,dN];simp
    .have:=mx r [] x z;simp only[bQ] at this;lia
  .have:=mx r (c::b) x d;dsimp only[aK] at this;lia
theorem o_:∀(l b:Bytes),(dh b l).length<=b.length+l.length
 |[],[]=>aQ _
 |[],a::b=>by show 1<=_;dsimp only[aK];simp
 |c::r,b=>by
  have e:dh b (c::r)=if c=32 then(if b.isEmpty=af then dh [] r else b.reverse::dh [] r) else dh (c::b) r:=by cases b<;>rfl
  rw[e,aK];have d:=o_ r [];simp only[bQ] at d;split
  .split
   .lia
   .dsimp only[aK];lia
  .have:=o_ r (c::b);dsimp only[aK] at this;lia
section
inductive abj C H(Q:VK):List V->Prop|mk:∀F p dp l pt lp wl as L cw hV s b,(PD F H C p dp l pt lp wl as L cw hV)->(RI s L cw hV)->((∀c∈b,c≠10))->(b.length<=20000)->(L.length<=100000)->((∀x,H x=ae->F x))->((∀H',wj s b=ae->PD F H' C p dp l pt lp wl as L cw hV->cI H H'->Q (.bl ag) H'))->(∀H' as' L' HG HF t,wj s b=aa t->PD F H' C p dp l pt lp wl as' L' HG HF->RI t L' HG HF->L'.length<=L.length+1->fk H H' [l,lp,pt]->Q (.bl af) H')->abj C H Q [.ref p, .str (strOf b)]
theorem Ru(R:RI s L cw hV):hV.length<=L.length:=by
 have h:∀l,(qC l).length<=(jg l).length:=by intro l;induction l with|nil=>exact aQ _|cons x r b=>obtain⟨n,a⟩:=x;show(qC r++[_]).length<=(jg r++dk a.reverse++[Lz n]).length;rw[aG,aG (as:=jg r++dk a.reverse),aG];simp only[aK,bQ];lia
 rw[R.lp,R.fl];refine bY (h s.open_) ?_;unfold mD;rw[aG];simp
theorem Fe:Ok Y 4 91 (abj CP):=by
 refine Y.ok ?_;rintro _ H _ Q nd j ⟨F,p,dp,l,pt,lp,w,as,L,m,g,s,b,D,R,G,FH,I,hF,d,e⟩;refine⟨_,(aI (da (jv (cP (wb Y) j.mono (cO (pv 1))) (fun _=>rfl)) (cy mV) ck) (aI (bB 2 (cP (HC Y) j.mono (cO (pv 1)))) (aI (da (jv (cP (wc Y) j.mono (cO (pv 2))) (fun _=>rfl)) (cy mV) ck) (aI (da (gV (PW.pt (nF (jv (cP (we Y) j.mono (cO (pv 2))) (fun _=>rfl)) (lC (jv (cP (uM Y) j.mono (aR (pv 0) (cO (bM bP (pv 2) aY)))) (fun _=>rfl)))))) (cy mV) ck) (aI (cQ (cP (HI Y) j.mono (aR (pv 0) (cO (pv 2))))) (cy mV)))))),?_⟩;refine⟨b,G,_,Z,?_⟩;unfold wj words at d e
 cases c1:b.all VbpcText.plain with
 |false=>rw[c1] at d;exact d H Z D (cI.refl _)
 |true=>
  rw[ai c1] at d e;refine kN ⟨b,by lia,fun a N O y A=> ?_⟩;have P:=D.same y;have hw:=mx b [];have h:=o_ b [];simp only[bQ,i8] at hw h;refine⟨a,_, .of A,_,Z,?_⟩
  cases n:dh [] b with
  |nil=>rw[n] at e;exact lI (e N as L m g s Z P R (by lia) (fk.of y))
  |cons k r=>
   rw[n] at d e A hw h;have d:∀H',(if passed (k::r)=af then aa s else d9 s (k::r))=ae->PD F H' CP p dp l pt lp w as L m g->cI H H'->Q (.bl ag) H':=d;have e:∀(H':Hp) (i:List Addr) (J:FL) (S:List (Key×V)) (T:List Nat) (t:ib),(if passed (k::r)=af then aa s else d9 s (k::r))=aa t->PD F H' CP p dp l pt lp w i J S T->RI t J S T->J.length<=L.length+1->fk H H' [l,lp,pt]->Q (.bl af) H':=e;rw[aK] at h;refine e_ (fun K=> ?_) (fun K=> ?_)
   .rw[ai K] at e;exact e N as L m g s Z P R (by lia) (fk.of y)
   .rw[ak K,Uv s k r R.op] at d e;unfold sk at d e;refine⟨a,k,r, .of A,fun x u=>by have:=hw x (aO _ u);lia,by lia,fun U W=>⟨_,Z,?_⟩⟩;have v:=y.trans W;have B:=D.same v;have X:=W _ _ A
    cases C:lM k r with
    |false=>rw[C,eR] at d;exact d U Z B v
    |true=>
     rw[C,cX] at d e;refine lI ⟨a,_,_, .str (strOf k),Z,Z, .of X,cB Z,F,p,dp,l,pt,lp,w,as,L,m,g,k,B,_,Z,?_⟩;have M:(if L=[] then ah (k=text "tool") else if k=text "rep" then ah (g.length<8) else if k=text "end" then ah (0<g.length) else af)=placeOk s k:=by
      unfold placeOk;have E:g.length=s.open_.length:=by rw[R.lp,qD]
      rw[E];by_cases c:L=[]
      .have:s.begun=false:=by cases q:s.begun with|false=>rfl|true=>exact az c (R.bg.mp q)
       rw[ai c,ai this]
      .have:s.begun=true:=R.bg.mpr c;rw[ak c,this,ak (show ¬af=ag by decide)]
     rw[M]
     cases f:placeOk s k with
     |false=>rw[f] at d;exact d U Z B v
     |true=>
      rw[f] at e;obtain⟨T5,Se⟩:=Nf C;refine kN ⟨F,p,dp,l,pt,lp,w,as,L,m,g,a,k,r,B,X,(aS D.ln.lst O).symm,(aS D.JR O).symm,T5,Se,I,R.kl,Ru R,?_,fun x u=>hF x (v.free u),fun H3 i D3 k3=> ?_⟩
      .rintro rfl;intro z;have Sx:s.begun=true:=by cases q:s.begun with|true=>rfl|false=>unfold placeOk at f;rw[q,ai Z] at f;exact az f (by decide)
       unfold placeOk at f;rw[Sx] at f;have:=aq (show ah (0<s.open_.length)=af from f);rw[R.lp] at z;have E:=qD s.open_;rw[z] at E;simp only[bQ] at E;lia
      .exact e H3 i _ _ _ _ Z D3 (R.step C f) (by rw[aG];exact aQ _) (fun x o u hm=>k3 _ _ (v _ _ u) hm)
end
end
section
open Vbpcak (Hole State Ins Reading programLine programLast readProgram)
open VbpcText (Bytes text integer words passed readLines lines)
theorem JS:∀{pr:List Ins} {d:Int} {a:FL},dk pr=(("tool":Str),[d])::a->∃n r,pr= .tool n::r
 |[],d,a,h=>by rw[pQ] at h;cases h
 |i::r,d,a,h=>by rw[j4] at h;cases i with|tool n=>exact⟨n,r,Z⟩|_=>simp only[fb,iy,dR,dP,dC] at h;exact az h.1.1 (by decide)
theorem xt:∀(l b:Bytes),∀x∈eZ b l,x.length<=b.length+l.length
 |[],[],x,d=>by simp[eZ] at d
 |[],a::b,x,d=>by
  have e:x=(a::b).reverse:=by simpa [eZ] using d
  rw[e,dN];simp
 |c::r,b,x,d=>by
  have e:eZ b (c::r)=if c=10 then b.reverse::eZ [] r else eZ (c::b) r:=by cases b<;>rfl
  rw[e] at d;dsimp only[aK];split at d
  .rcases aZ.mp d with z|z
   .rw[z,dN];simp
   .have:=xt r [] x z;simp only[bQ] at this;lia
  .have:=xt r (c::b) x d;dsimp only[aK] at this;lia
theorem xu:∀(l b:Bytes),(eZ b l).length<=b.length+l.length
 |[],[]=>aQ _
 |[],a::b=>by show 1<=_;dsimp only[aK];simp
 |c::r,b=>by
  have e:eZ b (c::r)=if c=10 then b.reverse::eZ [] r else eZ (c::b) r:=by cases b<;>rfl
  rw[e,aK];have d:=xu r [];simp only[bQ] at d;split
  .dsimp only[aK];lia
  .have:=xu r (c::b);dsimp only[aK] at this;lia
def ReadAs(t:Bytes)(a:Int)(L:FL)(b:List (Key×V)):Prop:=match jV t with| .error n=>a=n/\0<n| .ok pr=>a=0/\L=dk pr/\oA (PK b) pr 0/\(∃d r,pr=Y0 d::r)/\L.length<=20000/\(∀x∈L,x.1=("run")->x.2.headD 0<=1000)/\∀x∈L,x.1=("tool")->1<=x.2.headD 0
theorem JT(h:readLines d9 1 ⟨[],[],ag⟩ (lines t)= .error n)(hn:0<n):ReadAs t (n:Int) L cw:=by
 have e:jV t= .error n:=by simp only[jV,vj,h]
 unfold ReadAs;exact e▸⟨Z,hn⟩
theorem HK(h:readLines d9 1 ⟨[],[],ag⟩ (lines t)= .ok s)(hl:rF s=ae):ReadAs t (((lines t).length+1:Nat):Int) L cw:=by
 have e:jV t= .error ((lines t).length+1):=by simp only[jV,vj,h,hl]
 unfold ReadAs;exact e▸⟨Z,kR _⟩
theorem Nh(h:readLines d9 1 ⟨[],[],ag⟩ (lines t)= .ok s)(R:RI s L cw hV)(ho:s.open_=[])(b:s.begun=af)(a:L.length<=20000):ReadAs t 0 L cw:=by
 have hl:rF s=aa s.now.reverse:=by unfold rF;rw[ai ⟨ho,b⟩]
 have g:jV t= .ok s.now.reverse:=by simp only[jV,vj,h,hl]
 unfold ReadAs;rw[g];have e:L=dk s.now.reverse:=by rw[R.fl];unfold mD;rw[ho];rfl
 obtain⟨d,c,hd⟩:=R.hd (R.bg.mp b);have f:=R.mt.2;rw[ho] at f;exact⟨Z,e,f,JS (e.symm.trans hd),a,R.rb,R.tb⟩
section
inductive abk K C H(Q:VK):List V->Prop|mk:∀a t,(jD K H a (t.map fun c=>V.int c.toNat))->(t.length<=20000)->(∀H' p dp l pt lp wl as L cw hV,cI H H'->PD (fun x=>H x=ae) H' C p dp l pt lp wl as L cw hV->ReadAs t wl L cw->Q (.ref p) H')->abk K C H Q [.ref a]
theorem yL:Ok Y 5 92 (abk K CP):=by
 refine Y.ok ?_;rintro _ H _ Q nd M ⟨a,t,ha,hlen,q⟩;refine⟨_,(aI (bB 1 (Pl (Y.kk (Rq Y)) M.mono)) (aI (bB 2 (cP (HB Y) M.mono (cO (pv 0)))) (aI (fT (GY Z Y.nn (cO (pv 2))) (D8 Z (kK (cJ 3) (kK (cJ 4) vo))) (b6 (da (gV (jv (cP (Fe Y) M.mono (aR (pv 1) (cO (pv 4)))) (fun _=>rfl))) (aI (eK Y.na (pv 1) (pv 3)) (cy (pv 1))) ck))) (aI (da (PW.pt (xQ (je (bS Y.na (pv 1)) (fun _=>rfl)) (uo (gV (je (bS Y.na (pv 1)) (fun _=>rfl)))))) (b6 (eK Y.na (pv 1) (cu dJ (dZ Y.nn (pv 2)) aY))) ck) (cy (pv 1)))))),?_⟩;refine fun p dp A N O=>⟨p,dp,aH,fun H1 l pt lp hl V2 Yq P S l1 j k NU=>⟨Z,?_⟩⟩;have T:∀x,upd (upd H dp (.own p)) p (.ins CP dp []) x=ae->H x=none:=fun x c=>by have B:=cF aH c;have n2:=cF ((aL O).trans aH) c;rw[aL B,aL n2] at c;exact c
 have iw:cI H H1:=fun x o c=>by have B:=aS c A;refine NU x o ?_ (by simpa using B);rw[aL B,aL (aS c N)];exact c
 have D1:PD (fun x=>H x=ae) H1 CP p dp l pt lp 0 [] [] [] []:=⟨S,⟨l1, .nil⟩,j,k,P,A,T _ hl,T _ V2,T _ Yq⟩;refine⟨a,t,kj iw ha,by lia,fun h H2 U fH nQ=> ?_⟩;have Qi:=xt t [];have m:=xu t [];simp only[bQ,i8] at Qi m;have adG:(lines t).length<=t.length:=m;refine⟨h,_,Z, .of nQ,C_ (K:=K) (a:=h) (xs:=(lines t).map fun l=>V.str (strOf l)) (fun i C H'=>E7 fun(s:ib) (as:List Addr) (L:FL) (g:List (Key×V)) (d:List Nat) (W X:Option V)=>A7 (cI H H') (PD (fun x=>H x=ae) H' CP p dp l pt lp 0 as L g d) (RI s L g d) (H' h=aa (.lst ((lines t).map fun l=>V.str (strOf l)))) (readLines d9 1 ⟨[],[],ag⟩ (lines t)=readLines d9 (i+1) s ((lines t).drop i)) (L.length<=i) (C=[aa (.ref a),aa (.ref p),aa (.ref h),W,X])) ⟨⟨[],[],ag⟩,[],[],[],[],ae,ae,iw.trans fH,D1.same fH,RI.first,nQ,Z,aQ _,Z⟩ (by rintro i C H' _ ⟨_,_,_,_,_,_,_,_,_,_,e,_,_,_⟩;exact .of e) ?_ ?_⟩
 .rintro i x C H' T' n ⟨s,as,L,g,d,W,X,E,D,R,F,f,r,rfl⟩ sX;rw[bp] at n
  cases G:(lines t)[i]? with
  |none=>rw[G] at n;cases n
  |some b=>
   rw[G] at n;have ex:x=V.str (strOf b):=(aW n).symm;subst ex;obtain⟨BN,SR⟩:=aV.mp G;have v:b∈lines t:=bC G;rw[c_ BN,SR,AY] at f;have t9:=E.trans (aN (o:= .tup [.int ((i+1:Nat):Int), .str (strOf b)]) sX);refine⟨T',_,Z, .of aH,Z,_,_,Z,_,_,Z,Z,?_⟩;refine⟨_,p,dp,l,pt,lp,0,as,L,g,d,s,b,D.same (aN (o:= .tup [.int ((i+1:Nat):Int), .str (strOf b)]) sX),R,(uK t [] (fun _ z=>nomatch z)) b v,by have:=Qi b v;lia,by lia,fun x c=>t9.free c,fun H3 abl I i6=> ?_,fun H3 as3 L3 acZ ac0 u abm I R3 hL3 k3=> ?_⟩
   .rw[abl] at f;refine⟨_,Z,?_⟩;refine⟨p,CP,dp,_,Z,I.at_,Z,zk,?_⟩;refine q _ p dp l pt lp _ as L g d ?_ (I.Wl ((i+1:Nat):Int)) (JT f (kR _));exact fun x o c=>by rw[aL (aS c A)];exact i6 _ _ (t9 _ _ c)
   .rw[abm] at f;refine⟨_,Z,?_⟩;refine⟨u,as3,L3,acZ,ac0,_,_,?_,I,R3,?_,f,by lia,Z⟩
    .exact fun x o c=>k3 _ _ (t9 _ _ c) (by simp[(aS c D.fl),aS c D.Yp,(aS c D.Yo)])
    .exact k3 _ _ ((aN (o:= .tup [.int ((i+1:Nat):Int), .str (strOf b)]) sX) _ _ F) (by simp[(cF l1 U),cF k U,(cF j U)])
 .rintro C H' ⟨s,as,L,g,d,W,X,E,D,R,F,f,r,rfl⟩;rw[aE] at f r;rw[qU] at f;have gT:readLines d9 1 ⟨[],[],ag⟩ (lines t)= .ok s:=by rw[f];rw[readLines]
  have EA:=D.ln.at_.length;have e1:d.length=s.open_.length:=by rw[R.lp,qD]
  have Wm:rF s=ae->Q (.ref p) (upd H' p (.ins CP dp (pf l pt lp (((lines t).length+1:Nat):Int)))):=fun z=>by refine q _ p dp l pt lp _ as L g d ?_ (D.Wl _) (HK gT z);exact fun x o c=>by rw[aL (aS c A)];exact E _ _ c
  have el:(((lines t).map fun l=>V.str (strOf l)).length:Int)+1=(((lines t).length+1:Nat):Int):=by rw[aE];lia
  refine⟨p,CP,dp,_,_,Z,D.at_,Z,Z,_, .inl ⟨_, .of D.JR,Z⟩,?_⟩;by_cases c1:s.open_=[]
  .have Dr:(!(nv d).isEmpty)=false:=by have:d=[]:=bX.mp (by rw[e1,c1];rfl);rw[this];rfl
   rw[Dr];refine kN ⟨p,CP,dp,_,_,Z,D.at_,Z,Z,_, .inl ⟨_, .of D.ln.lst,Z⟩,?_⟩;by_cases J:L=[]
   .have FI:as=[]:=bX.mp (by rw[EA,J];rfl);rw[FI];refine⟨h,_,Z, .inl (.of F),_,_,Z,Z,p,CP,dp,_,Z,D.at_,Z,zk,?_⟩;have w:=Wm (by unfold rF;rw[ak fun z=>(fun z=>R.bg.mp z J) z.2]);rw[<-el] at w;exact w
   .have FI:(!(as.map V.ref).isEmpty)=true:=by cases as with|nil=>exact az (bX.mp (by rw[<-EA];rfl)) J|cons x y=>rfl
    rw[FI];exact kN (q _ p dp l pt lp 0 as L g d E D (Nh gT R c1 (R.bg.mpr J) (by lia)))
  .have Dr:(!(nv d).isEmpty)=true:=by cases d with|nil=>exact az (bX.mp e1.symm) c1|cons x y=>rfl
   rw[Dr];refine lI (lI ⟨h,_,Z, .inl (.of F),_,_,Z,Z,p,CP,dp,_,Z,D.at_,Z,zk,?_⟩);have w:=Wm (by unfold rF;rw[ak fun z=>c1 z.1]);rw[<-el] at w;exact w
end
end
section
open Vbpcak (Hole State Ins)
section
def mf(p:PM)(a tl:Addr)(rf:Int):List (Str×V):=[("x", .int p.x),("y", .int p.y),("diameter", .int p.d),("drilled", .ref a),("times_left", .ref tl),("lines_done", .int p.n),("refusal", .int rf)]
structure MD(H:Hp)(C m dm dl tl) p ts rf ds:Prop where
 at_:H m=aa (.ins C dm (mf p dl tl rf))
 dr:x9 H dl ds p.hs
 ti:H tl=aa (.lst (nv ts))
 ne:dl≠tl
theorem MD.same{C m a b tl:Addr}{rf:Int}(D:MD H C m a b tl p ts rf ds)(e:cI H H'):MD H' C m a b tl p ts rf ds:=⟨e _ _ D.at_,D.dr.same e,e _ _ D.ti,D.ne⟩
theorem x9.ins(h:x9 H l as hs)(c:H b=aa (.ins C dx fs)):x9 (upd H b (.ins C dx fs')) l as hs:=by refine⟨(aL (dE h.lst c (by intro z;cases z))).trans h.lst,h.at_.mono fun a z q=> ?_⟩;exact(aL (dE q c (by intro z;cases z))).trans q
theorem MD.put{C m a b tl:Addr}{rf:Int}(D:MD H C m a b tl p ts rf ds)(c:PM)(d:Int)(e:c.hs=p.hs):MD (upd H m (.ins C a (mf c b tl d))) C m a b tl c ts d ds:=by refine⟨aH,?_,(aL (dE D.ti D.at_ (by intro z;cases z))).trans D.ti,D.ne⟩;exact e▸(D.dr.ins D.at_)
inductive LI C H(Q:VK):List V->Prop|mk:∀m dm,(H m=aa (.ins C dm []))->(∀H' dl tl,H dl=ae->H tl=ae->MD H' C m dm dl tl ⟨0,0,0,[],0⟩ [] 0 []->fk H H' [m]->Q .rH H')->LI C H Q [.ref m]
theorem Rv:Om Y 1 8 (LI CM):=by
 refine Y.om ?_;rintro _ H _ Q nd r ⟨m,a,n,k⟩;refine⟨_,(aI (eK Y.na (pv 0) aY) (aI (eK Y.na (pv 0) aY) (aI (eK Y.na (pv 0) aY) (aI (eK Y.na (pv 0) (cT gW)) (aI (eK Y.na (pv 0) (cT gW)) (aI (eK Y.na (pv 0) aY) (b6 (eK Y.na (pv 0) aY)))))))),?_⟩;refine⟨m,CM,a,_,Z,n,Z,zk,?_⟩;refine⟨m,CM,a,_,Z,aH,Z,zk,?_⟩;rw[gq];refine⟨m,CM,a,_,Z,aH,Z,zk,?_⟩;rw[gq];refine⟨zl,fun j g=> ?_⟩;have b:=cF aH g;have c:H j=none:=by rw[aL b] at g;exact g
 refine⟨m,CM,a,_,Z,(aL (bF b)).trans aH,Z,zk,?_⟩;refine⟨zl,fun tl e=> ?_⟩;have f:=cF aH e;have h:=cF ((aL b).trans aH) e;have d:H tl=none:=by rw[aL f,aL h,aL f] at e;exact e
 refine⟨m,CM,a,_,Z,(aL (bF f)).trans aH,Z,zk,?_⟩;refine⟨m,CM,a,_,Z,aH,Z,zk,?_⟩;rw[gq];refine⟨m,CM,a,_,Z,aH,Z,zk,?_⟩;rw[gq];refine k _ j tl c d ⟨aH,⟨?_, .nil⟩,?_,bF h⟩ fun q o l p=> ?_
 .rw[aL b,aL (bF h),aL b,aH];rfl
 .rw[aL f,aH];rfl
 .have i:q≠m:=fun z=>p (by simp[z]);rwa [aL i,aL (aS l d),aL i,aL (aS l c),aL i]
def gI:Ins->PM->PM| .tool d,p=>{p with d:=d}| .to x y,p=>{p with x:=x,y:=y}| .go x y,p=>Iq x y p| .here,p=>iP p| .at_ x y,p=>iP {p with x:=x,y:=y}| .by_ x y,p=>iP (Iq x y p)| .run n x y,p=>yK x y n p| .rep _ _,p=>p
theorem Yr(h:DG i=ag)(p:PM):HE i p=gI i (fw p):=by cases i<;>first|rfl|cases h
def abp(C:Addr)(H:Hp)(m b a tl:Addr)(c:PM)(d:List Nat)(rf:Int)(Q:VK):Prop:=∀H' e,MD H' C m b a tl c d rf e->fk H H' [m,a]->Q .rH H'
inductive Cf K C nm H(Q:VK):List V->Prop|mk:∀i ns m dm dl tl a p ts rf ds,(fb i=[(nm,ns)])->(MD H C m dm dl tl p ts rf ds)->(jD K H a (ns.map V.int))->(a≠dl)->(p.hs.length<=10000)->((nm=("run")->ns.headD 0<=1000/\p.hs.length<=5000))->(abp C H m dm dl tl (gI i p) ts rf Q)->Cf K C nm H Q [.ref m, .ref a]
theorem JU:Ok Y 1 99 (Cf K CM "tool"):=by refine Y.ok ?_;rintro _ H _ Q nd h ⟨i,ns,m,e,j,tl,a,p,l,rf,f,b,D,g,n,hh,_,k⟩;refine⟨_,(b6 (eK Y.na (pv 0) (bM bP (pv 1) aY))),?_⟩;cases i with|tool d=>simp only[fb,dP,dC,and_true,true_and] at b;subst b;refine⟨a,_,_, .int d,Z,Z,g,Z,m,CM,e,_,Z,D.at_,Z,zk,?_⟩;exact k _ f (D.put {p with d:=d} rf Z) (ik.same fun x c=>by simp at c;simp[c])|_=>simp only[fb,dP,dC] at b;exact az b.1.1 (by decide)
theorem LJ(h:jD K H a xs)(b:H m=aa (.ins C dm fs)):jD K (upd H m (.ins C dm fs')) a xs:=by
 rcases h with(h|⟨o,h⟩)|h
 .exact .inl (.inl ((aL (dE h b (by intro z;cases z))).trans h))
 .exact .inl (.inr ⟨o,(aL (dE h b (by intro z;cases z))).trans h⟩)
 .exact .inr h
theorem HM:Ok Y 1 100 (Cf K CM "to"):=by refine Y.ok ?_;rintro _ H _ Q nd h ⟨i,ns,m,c,j,tl,a,p,l,rf,g,b,D,d,n,hh,o,k⟩;refine⟨_,(aI (eK Y.na (pv 0) (bM bP (pv 1) aY)) (b6 (eK Y.na (pv 0) (bM bP (pv 1) aY)))),?_⟩;cases i with|to x y=>simp only[fb,dP,dC,and_true,true_and] at b;subst b;refine⟨a,_,_, .int x,Z,Z,d,Z,m,CM,c,_,Z,D.at_,Z,zk,?_⟩;have e:=D.put {p with x:=x} rf Z;refine⟨a,_,_, .int y,Z,Z,LJ d D.at_,Z,m,CM,c,_,Z,e.at_,Z,zk,?_⟩;exact k _ g (e.put {p with x:=x,y:=y} rf Z) ((ik.trans ik).same fun x f=>by simp at f;simp[f])|_=>simp only[fb,dP,dC] at b;exact az b.1.1 (by decide)
theorem HN:Ok Y 1 101 (Cf K CM "go"):=by refine Y.ok ?_;rintro _ H _ Q nd h ⟨i,ns,m,b,j,tl,a,p,l,rf,g,c,D,e,n,hh,o,k⟩;refine⟨_,(aI (pH Y.na (pv 0) (bM bP (pv 1) aY) zP) (b6 (pH Y.na (pv 0) (bM bP (pv 1) aY) zP))),?_⟩;cases i with|go x y=>simp only[fb,dP,dC,and_true,true_and] at c;subst c;refine⟨m,CM,b,_,_,Z,D.at_,Z,Z,a,_,_, .int x,Z,Z,e,Z,_,_,Z,Z,b,_,D.at_,zk,?_⟩;have d:=D.put {p with x:=p.x+x} rf Z;refine⟨m,CM,b,_,_,Z,d.at_,Z,Z,a,_,_, .int y,Z,Z,LJ e D.at_,Z,_,_,Z,Z,b,_,d.at_,zk,?_⟩;exact k _ g (d.put (Iq x y p) rf Z) ((ik.trans ik).same fun x f=>by simp at f;simp[f])|_=>simp only[fb,dP,dC] at c;exact az c.1.1 (by decide)
theorem uN:Ok Y 1 102 (Cf K CM "here"):=by
 refine Y.ok ?_;rintro _ H _ Q nd l ⟨i,ns,m,c,e,tl,a,p,n,rf,f,d,D,r,s,hh,u,k⟩;refine⟨_,(b6 (cQ (fV aX bu bw df (bS Y.na (pv 0)) (cO (nG (aR (bS Y.na (pv 0)) (aR (bS Y.na (pv 0)) (cO (bS Y.na (pv 0)))))))))),?_⟩
 cases i with
 |here=>
  simp only[fb,dP,dC,and_true,true_and] at d;subst d;refine⟨m,CM,c,_,_,Z,D.at_,Z,Z, .inl ⟨Z,_, .of D.dr.lst⟩,m,CM,c,_,_,Z,D.at_,Z,Z,m,CM,c,_,_,Z,D.at_,Z,Z,m,CM,c,_,_,Z,D.at_,Z,Z,zl,fun t b=> ?_⟩;refine⟨e,_,_,Z,Z,(aL (bF (cF D.dr.lst b))).trans D.dr.lst,?_,?_⟩
  .rw[aE,D.dr.len];exact bo hh (by decide)
  refine k _ (f++[t]) ⟨?_,D.dr.snoc (h:=⟨p.x,p.y,p.d⟩) b,?_,D.ne⟩ fun q o g j=> ?_
  .rw[aL (dE D.at_ D.dr.lst (by intro z;cases z)),aL (aS D.at_ b)];exact D.at_
  .rw[aL (bF D.ne),aL (aS D.ti b)];exact D.ti
  .rwa [aL (fun z=>j (by simp[z])),aL (aS g b)]
 |_=>simp only[fb,dP,dC] at d;exact az d.1.1 (by decide)
end
end
section
open Vbpcak (Hole State Ins)
section
theorem abq{m b a:Addr}(k:fk H H' [m,b])(c:H m=aa (.ins C dm fs))(n:a≠b)(h:jD K H a xs):jD K H' a xs:=by
 rcases h with(h|⟨o,h⟩)|h
 .exact .inl (.inl (k _ _ h (by have:=dE h c (by intro z;cases z);simp[this,n])))
 .exact .inl (.inr ⟨o,k _ _ h (by have:=dE h c (by intro z;cases z);simp[this,n])⟩)
 .exact .inr h
theorem Ry:Ok Y 2 103 (Cf K CM "at"):=by refine Y.ok ?_;rintro _ H _ Q nd g ⟨i,ns,m,h,j,tl,a,p,l,rf,s,b,D,t,u,hh,E,k⟩;refine⟨_,(aI (cQ (cP (HM Y) g.mono (aR (pv 0) (cO (pv 1))))) (b6 (cQ (cP (uN Y) g.mono (aR (pv 0) (cO (cT gW))))))),?_⟩;cases i with|at_ x y=>simp only[fb,dP,dC,and_true,true_and] at b;subst b;refine⟨.to x y,_,m,h,j,tl,a,p,l,rf,s,Z,D,t,u,hh,(fun z=>az z (by decide)),fun F c n v=> ?_⟩;refine⟨zl,fun e d=> ?_⟩;refine⟨.here,_,m,h,j,tl,e,_,l,rf,c,by simp[fb];rfl,n.same (aN (o:= .lst []) d), .of aH,(cF n.dr.lst d),hh,(fun z=>az z (by decide)),fun w f A B=> ?_⟩;exact k w f A fun q o C r=>B _ _ ((aN d) _ _ (v _ _ C r)) r|_=>simp only[fb,dP,dC] at b;exact az b.1.1 (by decide)
theorem HP:Ok Y 2 104 (Cf K CM "by"):=by refine Y.ok ?_;rintro _ H _ Q nd g ⟨i,ns,m,h,j,tl,a,p,l,rf,s,b,D,t,u,hh,E,k⟩;refine⟨_,(aI (cQ (cP (HN Y) g.mono (aR (pv 0) (cO (pv 1))))) (b6 (cQ (cP (uN Y) g.mono (aR (pv 0) (cO (cT gW))))))),?_⟩;cases i with|by_ x y=>simp only[fb,dP,dC,and_true,true_and] at b;subst b;refine⟨.go x y,_,m,h,j,tl,a,p,l,rf,s,Z,D,t,u,hh,(fun z=>az z (by decide)),fun F c n v=> ?_⟩;refine⟨zl,fun e d=> ?_⟩;refine⟨.here,_,m,h,j,tl,e,_,l,rf,c,by simp[fb];rfl,n.same (aN (o:= .lst []) d), .of aH,(cF n.dr.lst d),hh,(fun z=>az z (by decide)),fun w f A B=> ?_⟩;exact k w f A fun q o C r=>B _ _ ((aN d) _ _ (v _ _ C r)) r|_=>simp only[fb,dP,dC] at b;exact az b.1.1 (by decide)
theorem Ni:Ok Y 3 105 (Cf K CM "run"):=by
 refine Y.ok ?_;rintro _ H _ Q nd B ⟨i,ns,m,t,h,tl,a,p,u,rf,b,d,D,w,C,hh,E,k⟩;refine⟨_,(b6 (fT (ke Z Y.nn (cO (bM bP (pv 1) aY))) (cJ 2) (b6 (cQ (cP (HP Y) B.mono (aR (pv 0) (cO (ig jP (pv 1) (ir aY) kU)))))))),?_⟩
 cases i with
 |run n x y=>
  simp only[fb,dP,dC,and_true,true_and] at d;subst d;obtain⟨c,L⟩:=E Z;have c:(n:Int)<=1000:=c;refine⟨a,_,_, .int n,Z,Z,w,Z,_,Z,by simp,by lia,?_⟩;rw[show((n:Nat):Int).toNat=n from dw _];refine iE (fun j l H'=>E2 fun b v=>A3 (MD H' CM m t h tl (yK x y j p) u rf b) (fk H H' [m,h]) (l=[aa (.ref m),aa (.ref a),v])) ⟨b,ae,D,fk.of (cI.refl _),Z⟩ ?_ ?_
  .rintro j l H' M ⟨b,v,f,g,rfl⟩;refine⟨1,Z,a,_,Z,abq g D.at_ C w,fun e r=> ?_⟩;have F:tJ ([(n:Int),x,y].map V.int) (aa 1) ae=[x,y].map V.int:=AX _ _;dsimp only[F];refine⟨.by_ x y,[x,y],m,t,h,tl,e,_,u,rf,b,Z,f.same (aN (o:= .lst ([x,y].map V.int)) r), .of aH,cF f.dr.lst r,?_,(fun z=>az z (by decide)),fun N s G I=> ?_⟩
   .rw[AS];lia
   .exact⟨s,_,G,fun q o J A=>I _ _ ((aN r) _ _ (g _ _ J A)) A,Z⟩
  .rintro l H' ⟨b,v,f,g,rfl⟩;exact k H' b f g
 |_=>simp only[fb,dP,dC] at d;exact az d.1.1 (by decide)
end
end
section
open Vbpcak (Hole State Ins)
section
inductive Ys C H(Q:VK)(vs:List V):Prop|mk:∀m dm dl tl p ts rf ds,(vs=[.ref m])->(MD H C m dm dl tl p ts rf ds)->(Q (.bl (tooMuch p)) H)->Ys C H Q vs
theorem sr:Ok Y 1 110 (Ys CM):=by
 refine Y.ok ?_;rintro _ H _ Q nd d ⟨m,a,b,tl,p,e,rf,f,rfl,D,k⟩;refine⟨_,(cy (Vf (kT mB (bS Y.na (pv 0)) (d_ Y.ci)) (zE (kT mB (dZ Y.nn (bS Y.na (pv 0))) (d_ Y.ci))))),m,CM,a,_,_,Z,D.at_,Z,Z,_,_,Z,Z,_,Z,?_⟩;unfold tooMuch at k;by_cases c:8192<p.n
 .rw[au (show 8192<(p.n:Int) by lia)];rw[au c,Zy] at k;exact lI k
 .rw[aw (show ¬8192<(p.n:Int) by lia)];rw[aw c,FP] at k;refine kN ⟨m,CM,a,_,_,Z,D.at_,Z,Z,b,_,Z, .inl (.of D.dr.lst),_,_,Z,Z,?_⟩;rw[aE,D.dr.len];exact(decide_eq_decide.mpr (by lia):ah ((2048:Int)<((p.hs.length:Nat):Int))=ah (2048<p.hs.length))▸k
theorem MD.LK{C m b c tl:Addr}{rf:Int}(D:MD H C m b c tl p ts rf ds)(d:List Nat):MD (upd H tl (.lst (nv d))) C m b c tl p d rf ds:=by refine⟨(aL (dE D.at_ D.ti (by intro z;cases z))).trans D.at_,⟨(aL D.ne).trans D.dr.lst,D.dr.at_.mono fun a z q=> ?_⟩,aH,D.ne⟩;exact(aL (dE q D.ti (by intro z;cases z))).trans q
inductive Wn(CP C) H(Q:VK):List V->Prop|mk:∀F m dm dl tl p ts rf ds r dp l pt lp wl as L cw hV (o n e:Nat),(MD H C m dm dl tl p ts rf ds)->(PD F H CP r dp l pt lp wl as L cw hV)->((n=0->PK cw o e))->(ts.length<=10000)->((n=0->Q (.int ((e+1:Nat))) H))->((n≠0->Q (.int ((o+1:Nat))) (upd H tl (.lst (nv (ts++[n]))))))->Wn CP C H Q [.ref m, .ref r, .int o, .int n]
theorem uO:Ok Y 1 107 (Wn CP CM):=by
 refine Y.ok ?_;rintro _ H _ Q nd f ⟨F,m,h,s,tl,p,t,rf,u,r,dp,l,pt,lp,v,as,L,w,x,o,n,e,D,a,i,b,j,q⟩;refine⟨_,(aI (da (cK jt (pv 3) aY) (cy (cu dJ (KN f.u1 (bS Y.na (pv 1)) (pv 2) (fun _ _=>rfl)) aY)) ck) (aI (cQ (fV aX bu bw df (bS Y.na (pv 0)) (cO (pv 3)))) (cy (cu dJ (pv 2) aY)))),?_⟩;refine⟨Z,_,Z,?_⟩;rw[lF];refine e_ (fun c=> ?_) (fun c=> ?_)
 .have d:n=0:=by have:=beq_iff_eq.mp c;lia
  have g:=tK.k (k:= .inl (o:Int)) a.Nc;rw[(i d)] at g;exact⟨r,CP,dp,_,_,Z,a.at_,Z,Z,pt,_,Z,g,_,_,Z,Z,j d⟩
 .refine⟨m,CM,h,_,_,Z,D.at_,Z,Z, .inl ⟨Z,_, .of D.ti⟩,tl,_,_,Z,Z,D.ti,?_,?_⟩
  .rw[cZ];exact bo b (by decide)
  .have k:=q (fun z=>c (beq_iff_eq.mpr (by lia)));rw[gu] at k;exact⟨_,_,Z,Z,k⟩
inductive Wo(CP C) H(Q:VK):List V->Prop|mk:∀F m dm dl tl p ts rf ds r dp l pt lp wl as L cw hV (o s k:Nat),(MD H C m dm dl tl p (ts++[k+1]) rf ds)->(PD F H CP r dp l pt lp wl as L cw hV)->(PK cw o s)->(F tl=False)->(ts.length<=10000)->((k=0->Q (.int ((o+1:Nat))) (upd H tl (.lst (nv ts)))))->((k≠0->Q (.int ((s+1:Nat))) (upd H tl (.lst (nv (ts++[k]))))))->Wo CP C H Q [.ref m, .ref r, .int o]
theorem uP:Ok Y 1 108 (Wo CP CM):=by
 refine Y.ok ?_;rintro _ H _ Q nd j ⟨F,m,h,y,tl,p,b,rf,A,r,dp,l,pt,lp,B,as,L,C,E,o,s,k,D,d,n,q,e,t,u⟩;refine⟨_,(aI (bB 3 (cu fK (Ee aX jL jM Ef (bS Y.na (pv 0))) aY)) (aI (da (cK jt (pv 3) aY) (cy (cu dJ (pv 2) aY)) ck) (aI (cQ (fV aX bu bw df (bS Y.na (pv 0)) (cO (pv 3)))) (cy (cu dJ (KN j.u1 (bS Y.na (pv 1)) (pv 2) (fun _ _=>rfl)) aY))))),?_⟩;have a:=D.ti;rw[gu] at a;refine⟨m,CM,h,_,_,Z,D.at_,Z,Z, .inl ⟨Z,_, .of a⟩,tl,_, .int ((k+1:Nat)),Z,Z,a,?_,?_⟩
 .rw[aG];show(nv b++[V.int ((k+1:Nat))])[(nv b).length+1-1]? =_;rw[pB,ou]
 rw[gS];have f:=D.LK b;refine⟨_,_,Z,Z,?_⟩;have v:((k+1:Nat))-1=(k:Int):=by lia
 refine⟨Z,_,Z,?_⟩;rw[lF];refine e_ (fun c=> ?_) (fun c=> ?_)
 .exact⟨_,_,Z,Z,t (by have:=beq_iff_eq.mp c;lia)⟩
 .refine⟨m,CM,h,_,_,Z,f.at_,Z,Z, .inl ⟨Z,_, .of f.ti⟩,tl,_,_,Z,Z,f.ti,?_,?_⟩
  .rw[cZ];exact bo e (by decide)
  .have kk:=u (fun z=>c (beq_iff_eq.mpr (by lia)));rw[gu] at kk;rw[gq];have i:=d.keep (H':=upd H tl (.lst (nv b++[.int (((k+1:Nat))-1)]))) ik (fun x w=>by rw[a0.mp w,q];exact id);have g:=tK.k (k:= .inl (o:Int)) i.Nc;rw[n] at g;rw[<-v] at kk;exact⟨r,CP,dp,_,_,Z,i.at_,Z,Z,pt,_,Z,g,_,_,Z,Z,kk⟩
end
end
section
open Vbpcak (Hole State Ins)
section
def wm:List Str:=["tool","to","go","here","at","by","run"]
structure DO P w K(mg:Str->Option bj) base(CM a) cw(nameOf:Addr->Str):Prop where
 XK:Js P w K a cw
 all:∀nm∈wm,∃f,jc cw (.inr nm)=aa (.ref f)/\nameOf f=nm
 fns:∀f,(∃nm∈wm,jc cw (.inr nm)=aa (.ref f))->∃ps,Ky P w K mg base 3 f ps (Cf K CM (nameOf f))
theorem iB{K:aM}{b:Sp}(F:OkG P w K mg base j x ps b)(a:mg x=aa (.ref f))(h:∀vs H Q,sp' H Q vs->b H Q vs)(c:j<=k:=by decide):∃ps,Ky P w K mg base k f ps sp':=by
 obtain⟨e,h1,d⟩:=F;rw[a] at h1;cases h1
 exact⟨ps,d.imp c h⟩
include Y in
theorem Txt.dO:DO P0 w0 K m0 b0 CM aDO TU Jt:=by
 refine⟨Y.kd,fun b hn=> ?_,fun f ⟨b,hn,a⟩=> ?_⟩<;>simp only[wm,aZ,dD,or_false] at hn<;>rcases hn with rfl|rfl|rfl|rfl|rfl|rfl|rfl
 .exact⟨477,Z,Z⟩
 .exact⟨484,Z,Z⟩
 .exact⟨491,Z,Z⟩
 .exact⟨498,Z,Z⟩
 .exact⟨505,Z,Z⟩
 .exact⟨512,Z,Z⟩
 .exact⟨519,Z,Z⟩
 .obtain rfl:477=f:=V.ref.inj (aW a);exact iB (JU Y) Y.rr fun _ _ _ h=>h
 .obtain rfl:484=f:=V.ref.inj (aW a);exact iB (HM Y) Y.rr fun _ _ _ h=>h
 .obtain rfl:491=f:=V.ref.inj (aW a);exact iB (HN Y) Y.rr fun _ _ _ h=>h
 .obtain rfl:498=f:=V.ref.inj (aW a);exact iB (uN Y) Y.rr fun _ _ _ h=>h
 .obtain rfl:505=f:=V.ref.inj (aW a);exact iB (Ry Y) Y.rr fun _ _ _ h=>h
 .obtain rfl:512=f:=V.ref.inj (aW a);exact iB (HP Y) Y.rr fun _ _ _ h=>h
 .obtain rfl:519=f:=V.ref.inj (aW a);exact iB (Ni Y) Y.rr fun _ _ _ h=>h
theorem su(h:DG i=ag):∃a ns,fb i=[(a,ns)]/\a∈wm/\a≠("rep":Str)/\a≠("end":Str):=by
 cases i with
 |rep n b=>cases h
 |tool d=>exact⟨_,_,by simp[fb];exact⟨Z,Z⟩,by decide,by decide,by decide⟩
 |to x y=>exact⟨_,_,by simp[fb];exact⟨Z,Z⟩,by decide,by decide,by decide⟩
 |go x y=>exact⟨_,_,by simp[fb];exact⟨Z,Z⟩,by decide,by decide,by decide⟩
 |here=>exact⟨_,_,by simp[fb];exact⟨Z,Z⟩,by decide,by decide,by decide⟩
 |at_ x y=>exact⟨_,_,by simp[fb];exact⟨Z,Z⟩,by decide,by decide,by decide⟩
 |by_ x y=>exact⟨_,_,by simp[fb];exact⟨Z,Z⟩,by decide,by decide,by decide⟩
 |run n x y=>exact⟨_,_,by simp[fb];exact⟨Z,Z⟩,by decide,by decide,by decide⟩
def Seg(L:FL)(o:Nat)(x:FL):Prop:=∀i y,x[i]? =aa y->L[o+i]? =aa y
theorem Seg.app:Seg L o (x++y)->Seg L o x/\Seg L (o+x.length) y:=fun h=>by
 refine⟨fun i z a=> ?_,fun i z a=> ?_⟩
 .exact h i z (by rw[cH (aV.mp a).1];exact a)
 .rw[wH]
  exact h _ z (by rw[cM (rn _ _),Nat.add_sub_cancel_left];exact a)
structure Good L cw o l:Prop where
 seg:Seg L o (dk l)
 mat:oA (PK cw) l o
def Yt(L:FL)(a:List (Key×V)):Nat->List Frame->Prop|e,[]=>e=L.length|e,(_,b,r)::fs=>L[e]? =aa Us/\∃s,PK a e s/\s+1+(dk b).length=e/\Good L a (s+1) b/\Good L a (e+1) r/\Yt L a (e+1+(dk r).length) fs
structure Cfg L cw o l fs:Prop where
 good:Good L cw o l
 lay:Yt L cw (o+(dk l).length) fs
theorem Good.cons(g:Good L cw o (i::r)):Seg L o (fb i)/\lg (PK cw) i o/\Good L cw (o+(fb i).length) r:=by have h:=g.seg;rw[j4] at h;obtain⟨h1,a⟩:=Seg.app h;obtain⟨b,c⟩:=nz.mp g.mat;exact⟨h1,b,a,c⟩
theorem Cfg.simple(c:Cfg L cw o (i::r) fs)(a:fb i=[(nm,ns)]):L[o]? =aa (nm,ns)/\Cfg L cw (o+1) r fs:=by
 obtain⟨h1,_,b⟩:=c.good.cons;have hl:=c.lay;rw[j4,aG,a] at hl;rw[a] at h1 b;refine⟨h1 0 _ Z,b,?_⟩;have e:o+([(nm,ns)].length+(dk r).length)=o+1+(dk r).length:=by simp only[aK,bQ];lia
 exact e▸hl
theorem Cfg.rep(c:Cfg L cw o (.rep n b::r) fs):L[o]? =aa (Lz n)/\PK cw o (o+1+(dk b).length)/\Cfg L cw (o+1+(dk b).length+1) r fs/\∀k,Cfg L cw (o+1) b ((k,b,r)::fs):=by
 obtain⟨h1,f,a⟩:=c.good.cons;obtain⟨g,h,d⟩:=AN.mp f;have hl:=c.lay;rw[j4,aG] at hl;have i:(fb (.rep n b)).length=1+(dk b).length+1:=by rw[si,aK,aG];simp only[aK,bQ];lia
 rw[i] at hl a;rw[si] at h1;have j:Seg L o ([Lz n]++(dk b++[Us])):=h1;obtain⟨l,m⟩:=Seg.app j;obtain⟨e,p⟩:=Seg.app m;have q:o+(1+(dk b).length+1)=o+1+(dk b).length+1:=by lia
 have s:o+(1+(dk b).length+1+(dk r).length)=o+1+(dk b).length+1+(dk r).length:=by lia
 rw[q] at a;rw[s] at hl;exact⟨l 0 _ Z,g,⟨a,hl⟩,fun k=>⟨⟨e,d⟩,p 0 _ Z,o,h,Z,⟨e,d⟩,a,hl⟩⟩
theorem Cfg.end_(c:Cfg L cw o [] ((k,b,r)::fs)):∃s,L[o]? =aa Us/\PK cw o s/\Cfg L cw (o+1) r fs/\∀j,Cfg L cw (s+1) b ((j,b,r)::fs):=by have hl:=c.lay;rw[pQ] at hl;obtain⟨h1,s,a,d,e,f,g⟩:=(show Yt L cw o ((k,b,r)::fs) from hl);refine⟨s,h1,a,⟨f,g⟩,fun j=>⟨e,?_⟩⟩;exact d▸⟨h1,s,a,d,e,f,g⟩
theorem Cfg.done(c:Cfg L cw o [] []):o=L.length:=by have hl:=c.lay;rw[pQ] at hl;exact hl
theorem Cfg.first(e:L=dk pr)(m:oA (PK cw) pr 0):Cfg L cw 0 pr []:=by refine⟨⟨fun i y h=>by rw[i8,e];exact h,m⟩,?_⟩;rw[e,i8];rfl
end
end
section
open Vbpcak (Hole State Ins)
section
def q_(fs:List Frame):List Nat:=(fs.map fun f=>f.1+1).reverse
theorem pT(k:Nat)(b r:List Ins)(fs:List Frame):q_ ((k,b,r)::fs)=q_ fs++[k+1]:=by unfold q_;rw[b5,dW]
inductive RB(CP C) H(Q:VK):List V->Prop|mk:∀F m dm dl tl p rf ds r dp l pt lp wl as L cw hV (o:Nat) c fs,(MD H C m dm dl tl p (q_ fs) rf ds)->(PD F H CP r dp l pt lp wl as L cw hV)->(Cfg L cw o c fs)->(¬(c=[]/\fs=[]))->(tooMuch p=ag)->(fs.length<=9000)->((∀x∈L,x.1=("run")->x.2.headD 0<=1000))->(¬F m)->(¬F dl)->(¬F tl)->(∀H' o' c' fs' p' Rw,MD H' C m dm dl tl p' (q_ fs') rf Rw->Cfg L cw o' c' fs'->fk H H' [m,dl,tl]->p'.n=p.n+1->fs'.length<=fs.length+1->ni c fs (xr p)=(if tooMuch p'=af then ae else ni c' fs' (xr p'))->Q (.int o') H')->RB CP C H Q [.ref m, .ref r, .int o]
theorem RC(D:PD F H C p dp l pt lp wl as L cw hV){o:Nat}(h:L[o]? =aa x):∃a n,(as.map V.ref)[o]? =aa (.ref a)/\F a/\F n/\H a=aa (.tup [.str x.1, .ref n])/\H n=aa (.lst (x.2.map V.int)):=by obtain⟨a,h1,b,n,c,d,e,_⟩:=jX D.ln.at_ h;exact⟨a,n,by rw[bp,h1];rfl,b,c,d,e⟩
theorem JV:Ok Y 4 109 (RB CP CM):=by
 refine Y.ok ?_;rintro _ H _ Q nd O ⟨F,m,e,g,tl,p,rf,t,r,dp,l,pt,lp,wl,as,L,cw,hV,o,c,fs,D,A,B,ji,C,Jx,yM,fm,P,R,k⟩;let S:Addr->Prop:=fun f=>∃G∈wm,jc TU (.inr G)=aa (.ref f);let T:Addr->Sp:=fun f=>Cf K CM (Jt f);have adH:=j6 C;have u:∃x,L[o]? =aa x:=by
  cases c with
  |nil=>cases fs with|nil=>exact az ⟨Z,Z⟩ ji|cons y fs=>obtain⟨_,h1,_⟩:=B.end_;exact⟨_,h1⟩
  |cons i c=>cases h:DG i with|false=>obtain⟨G,ns,h1,_⟩:=su h;exact⟨_,(B.simple h1).1⟩|true=>cases i with|rep n b=>exact⟨_,B.rep.1⟩|_=>cases h
 obtain⟨x,u⟩:=u;obtain⟨a,n,ha,fa,fn,TN,I⟩:=RC A u;refine⟨_,(aI (bB 3 (bM di (bM bP (bS Y.na (pv 1)) (pv 2)) aY)) (aI (bB 4 (bM di (bM bP (bS Y.na (pv 1)) (pv 2)) aY)) (aI (pH Y.na (pv 0) aY zP) (aI (da (cK jt (pv 3) gU) (cy (cP (uO Y) O.mono (aR (pv 0) (aR (pv 1) (aR (pv 2) (cO (bM bP (pv 4) aY))))))) ck) (aI (da (cK jt (pv 3) gU) (cy (cP (uP Y) O.mono (aR (pv 0) (aR (pv 1) (cO (pv 2)))))) ck) (aI (bB 5 (PJ O.u1 (pK Y.rr) (pv 3) (fun _ _=>rfl))) (aI (cQ (GA S T (pv 5) Y.dO.fns O (aR (pv 0) (cO (pv 4))))) (cy (cu dJ (pv 2) aY))))))))),?_⟩;refine⟨r,CP,dp,_,_,Z,A.at_,Z,Z,l,_,_, .ref a,Z,Z, .of A.ln.lst,cB ha,a,_,_, .str x.1,Z,Z, .of TN,Z,?_⟩;refine⟨r,CP,dp,_,_,Z,A.at_,Z,Z,l,_,_, .ref a,Z,Z, .of A.ln.lst,cB ha,a,_,_, .ref n,Z,Z, .of TN,Z,?_⟩;refine⟨m,CM,e,_,_,Z,D.at_,Z,Z,_,_,Z,Z,e,_,D.at_,zk,?_⟩;have q:=D.put (fw p) rf Z;have P1:=A.keep (H':=upd H m (.ins CM e (mf (fw p) g tl rf))) ik (fun y d=>by rw[a0.mp d];exact fm);have T5:upd H m (.ins CM e (mf (fw p) g tl rf)) n=aa (.lst (x.2.map V.int)):=(aL (dE I D.at_ (by intro z;cases z))).trans I;have U:fk H (upd H m (.ins CM e (mf (fw p) g tl rf))) [m,g,tl]:=ik.same fun y d=>by simp at d;simp[d]
 have v:∀Rz:List Nat,fk H (upd (upd H m (.ins CM e (mf (fw p) g tl rf))) tl (.lst (nv Rz))) [m,g,tl]:=fun Rz=>U.trans (ik.same fun y d=>by simp at d;simp[d])
 cases c with
 |nil=>
  cases fs with
  |nil=>exact az ⟨Z,Z⟩ ji
  |cons y fs=>
   obtain⟨kk,b,rr⟩:=y;obtain⟨s,h1,E,J,M⟩:=B.end_;have ex:x=Us:=aW (u.symm.trans h1);subst ex;rw[pT] at q;refine⟨Z,_,Z,e_ (fun z=>az (V.str.inj (aq z)) (by decide)) (fun _=> ?_)⟩;refine⟨Z,_,Z,e_ (fun _=> ?_) (fun z=>az (au Z) z)⟩;refine⟨F,m,e,g,tl,fw p,q_ fs,rf,t,r,dp,l,pt,lp,wl,as,L,cw,hV,o,s,kk,q,P1,E,eq_false R,?_,fun hk=> ?_,fun hk=> ?_⟩
   .unfold q_;rw[dN,aE];rw[aK] at Jx;lia
   .subst hk;refine k _ (o+1) rr fs (fw p) t (q.LK (q_ fs)) J (v _) Z (by rw[aK];lia) ?_;rw[Rj,so C];split<;>rfl
   .obtain⟨j,rfl⟩:∃j,kk=j+1:=⟨kk-1,by lia⟩;have w:=q.LK (q_ ((j,b,rr)::fs));rw[pT] at w;refine k _ (s+1) b ((j,b,rr)::fs) (fw p) t (by rw[pT];exact w) (M j) (v _) Z (by rw[aK,aK];lia) ?_;rw[Rk,so C];split<;>rfl
 |cons i c=>
  cases h:DG i with
  |true=>
   cases i with
   |rep nn b=>
    obtain⟨h1,E,J,M⟩:=B.rep;have ex:x=Lz nn:=aW (u.symm.trans h1);subst ex;refine⟨Z,_,Z,e_ (fun _=> ?_) (fun z=>az (au Z) z)⟩;refine⟨n,_,_, .int (nn:Int),Z,Z, .of T5,Z,F,m,e,g,tl,fw p,q_ fs,rf,t,r,dp,l,pt,lp,wl,as,L,cw,hV,o,nn,_,q,P1,fun _=>E,?_,fun hk=> ?_,fun hk=> ?_⟩
    .unfold q_;rw[dN,aE];lia
    .subst hk;refine k _ _ c fs (fw p) t q J U Z (by lia) ?_;rw[Rh,so C];split<;>rfl
    .obtain⟨j,rfl⟩:∃j,nn=j+1:=⟨nn-1,by lia⟩;have w:=q.LK (q_ ((j,b,c)::fs));rw[pT] at w;refine k _ (o+1) b ((j,b,c)::fs) (fw p) t (by rw[pT];exact w) (M j) (v _) Z (by rw[aK];lia) ?_;rw[Ri,so C];split<;>rfl
   |_=>cases h
  |false=>
   obtain⟨G,ns,h1,E,J,M⟩:=su h;obtain⟨g1,g2⟩:=B.simple h1;have ex:x=(G,ns):=aW (u.symm.trans g1);subst ex;refine⟨Z,_,Z,e_ (fun z=>az (V.str.inj (aq z)) J) (fun _=> ?_)⟩;refine⟨Z,_,Z,e_ (fun z=>az (V.str.inj (aq z)) M) (fun _=> ?_)⟩;obtain⟨W,N,rfl⟩:=Y.dO.all G E;refine⟨aDO,TU, .inr (Jt W), .ref W,Z,Y.dO.XK,Z,N,?_⟩;refine⟨W,Z,⟨_,E,N⟩,?_⟩;refine⟨i,ns,m,e,g,tl,n,fw p,q_ fs,rf,t,h1,q, .of T5,fun z=>P (z▸fn),by show p.hs.length<=10000;lia,fun z=>⟨yM _ (bC u) z,by show p.hs.length<=5000;lia⟩,fun H2 X w k2=> ?_⟩;refine⟨_,_,Z,Z,?_⟩;have e1:(o:Int)+1=((o+1:Nat):Int):=by lia
   have Ss:(HE i p).n=p.n+1:=by
    cases i with
    |rep nn b=>cases h
    |run nn x y=>exact JP x y nn (fw p)
    |_=>rfl
   have HQ:ni (i::c) fs (xr p)=if tooMuch (HE i p)=af then ae else ni c fs (xr (HE i p)):=by rw[sm,Rm h C];split<;>rfl
   have kk:=k H2 (o+1) c fs (HE i p) X (by rw[(Yr h p)];exact w) g2 (U.trans (k2.same fun y d=>by simp at d;rcases d with rfl|rfl<;>simp)) Ss (by lia) HQ;rw[<-e1] at kk;exact kk
end
end
section
open Vbpcak (Hole State Ins)
section
theorem RE(t:Nat)(r:List Ins)(fs:List Frame)(p:PM)(d:Nat):ni (.tool t::r) fs (xr {p with d:=d})=ni (.tool t::r) fs (xr p):=by
 rw[sm,sm];congr 1;rw[Vbpcak.does,Vbpcak.does,AU,AU];by_cases c:p.n+1<=8192
 .rw[ai c,ai c];rfl
 .rw[ak c,ak c]
def LL(pr:List Ins)(rf:Int)(p:PM):Prop:=match fS pr with|none=>rf= -6|some hs=>rf=0/\p.hs=hs/\hs.length<=2048
inductive Wq(CP C) H(Q:VK):List V->Prop|mk:∀F m dm dl tl r dp l pt lp wl as L cw hV pr,(MD H C m dm dl tl ⟨0,0,0,[],0⟩ [] 0 [])->(PD F H CP r dp l pt lp wl as L cw hV)->(L=dk pr)->(oA (PK cw) pr 0)->((∃d q,pr=Y0 d::q))->((∀x∈L,x.1=("run")->x.2.headD 0<=1000))->(¬F m)->(¬F dl)->(¬F tl)->(∀H' p' Rz Sy Rw,MD H' C m dm dl tl p' Rz Sy Rw->LL pr Sy p'->fk H H' [m,dl,tl]->Q .rH H')->Wq CP C H Q [.ref m, .ref r]
theorem AZ:Ok Y 5 111 (Wq CP CM):=by
 refine Y.ok ?_;rintro _ H _ Q nd K ⟨F,m,w,A,tl,r,dp,l,pt,lp,wl,as,L,cw,hV,pr,D,Pd,hL,hM,hT,yM,fm,M,N,k⟩;refine⟨_,(aI (bB 2 aY) (aI (lD gf (PW.pt (nF (cK lG (pv 2) (dZ Y.nn (bS Y.na (pv 1)))) (lC (gV (jv (cP (sr Y) K.mono (cO (pv 0))) (fun _=>rfl)))))) (b6 (bB 2 (cP (JV Y) K.mono (aR (pv 0) (aR (pv 1) (cO (pv 2)))))))) (b6 (da (jv (cP (sr Y) K.mono (cO (pv 0))) (fun _=>rfl)) (b6 (eK Y.na (pv 0) (d_ Y.ci))) ck)))),?_⟩;generalize C:SQ pr ⟨jB,1,[],8192,2048⟩=s;have Yu:s=ni pr [] (xr ⟨0,0,0,[],0⟩):=by obtain⟨d,q,rfl⟩:=hT;rw[<-RE d q [] ⟨0,0,0,[],0⟩ 1,<-C];show _=(SQ _ _).bind (fun m=>aa m);rw[Option.bind_fun_some];rfl
 have mw:(as.map V.ref).length=L.length:=by rw[aE,Pd.ln.at_.length]
 have mu:∀{H':Hp} {p:PM} {ts:List Nat} {rf:Int} {e:List Addr},MD H' CM m w A tl p ts rf e->(match H' m with|some (.ins _ _ fs)=>(match fs.lookup ("lines_done":Str) with|some (.int n)=>(9000-n).toNat|_=>0)|_=>0)=9000-p.n:=fun D=>by rw[D.at_];show(9000-((_:Nat):Int)).toNat=_;omega
 dsimp only[uq,IG,tC,pF];refine lE (fun I H'=>E5 fun o c fs p e=>A7 (MD H' CM m w A tl p (q_ fs) 0 e) (Cfg L cw o c fs) (fk H H' [m,A,tl]) (fs.length<=p.n) (p.n<=8193) (s=(if tooMuch p=af then ae else ni c fs (xr p))) (I=[aa (.ref m),aa (.ref r),aa (.int o)])) (fun I H'=>match H' m with|some (.ins _ _ fs)=>(match fs.lookup ("lines_done":Str) with|some (.int n)=>(9000-n).toNat|_=>0)|_=>0) ?_ ?_ ?_
 .exact⟨0,pr,[],_,[],D,Cfg.first hL hM,fk.of (cI.refl _),aQ _,by decide,Yu,Z⟩
 .rintro I H' ⟨o,c,fs,p,e,t,E,J,ZR,Ss,B,rfl⟩;have O:=Pd.keep J (fun x f=>by simp only[aZ,dD,or_false] at f;rcases f with rfl|rfl|rfl<;>assumption);have G:fS pr=s.map fun m=>m.drilled.reverse:=by unfold fS WG WH;rw[C]
  have fin:(tooMuch p=ag->c=[]/\fs=[])->(Me (tB (zQ (Ys CM) (tY (oV 0) uv))) (W6 (oV 0) (tC (V.int (-6))) ("refusal":Str)) FY {nx:=fun _ H'=>Q V.rH H',rt:=Q} [aa (.ref m),aa (.ref r),aa (.int (o:Int))] H'):=fun P=>by refine⟨m,w,A,tl,p,q_ fs,0,e,Z,t,_,Z,?_⟩;cases g:tooMuch p with|true=>rw[g,ai Z] at B;refine lI ⟨m,CM,w,_,Z,t.at_,Z,zk,?_⟩;refine k _ p (q_ fs) (-6) e (t.put p (-6) Z) ?_ (J.trans (ik.same fun x f=>by simp at f;simp[f]));unfold LL;rw[G,B];rfl|false=>obtain⟨rfl,rfl⟩:=P g;rw[g,ak (by decide),Uw] at B;refine kN (k H' p (q_ []) 0 e t ?_ J);unfold LL;rw[G,B];show 0=0/\p.hs=p.hs.reverse.reverse/\p.hs.reverse.reverse.length<=2048;rw[List.reverse_reverse];exact⟨Z,Z,(j6 g).2⟩
  refine⟨r,CP,dp,_,_,Z,O.at_,Z,Z,l,_,Z, .inl (.of O.ln.lst),_,_,Z,Z,_,Z,?_⟩;rw[mw];refine e_ (fun c1=> ?_) (fun c1=> ?_)
  .have Dr:=aq c1;refine⟨m,w,A,tl,p,q_ fs,0,e,Z,t,_,Z,?_⟩
   cases g:tooMuch p with
   |true=>exact kN (fin fun z=>by rw[g] at z;cases z)
   |false=>
    rw[g,ak (by decide)] at B;have hnt:=j6 g;refine lI ⟨F,m,w,A,tl,p,0,e,r,dp,l,pt,lp,wl,as,L,cw,hV,o,c,fs,t,O,E,?_,g,by omega,yM,fm,M,N,fun H2 o' c' fs' R S D2 T k2 Se hf2 MN=> ?_⟩
    .rintro⟨rfl,rfl⟩;have:=E.done;omega
    .refine⟨⟨o',c',fs',R,S,D2,T,J.trans k2,by omega,by omega,B.trans MN,Z⟩,?_⟩;show(match H2 m with|some (.ins _ _ fs)=>_|_=>0)<(match H' m with|some (.ins _ _ fs)=>_|_=>0);rw[mu D2,mu t];omega
  .have Dr:=AA c1;refine fin fun _=> ?_
   cases c with
   |nil=>cases fs with|nil=>exact⟨Z,Z⟩|cons y fs=>obtain⟨_,h1,_⟩:=E.end_;have:=(aV.mp h1).1;omega
   |cons i c=>
    have f:∃x,L[o]? =aa x:=by cases hi:DG i with|false=>obtain⟨nm,ns,h1,_⟩:=su hi;exact⟨_,(E.simple h1).1⟩|true=>cases i with|rep n b=>exact⟨_,E.rep.1⟩|_=>cases hi
    obtain⟨x,f⟩:=f;have:=(aV.mp f).1;omega
 .rintro I H' Q1 Q2 h z;dsimp only[Oe,zI,SV,W_,tY,uv,W5,Mc,tB,zQ] at z⊢;obtain⟨v,hv,z⟩:=FW z;obtain⟨v1,U,a,C1,dx,fs,u,e1,e2,e3,e5,p,ys,e6,e7,i,j,e8,e9,kk,W,z⟩:=FW z;refine CG hv (CG U ⟨a,C1,dx,fs,u,e1,e2,e3,e5,p,ys,e6,e7,i,j,e8,e9,kk,W,?_⟩);cases kk with|false=>exact h _ _ z|true=>rw[ai Z] at z;obtain⟨v2,X,m',dm',dl',tl',R,Rz,Sy,S,g1,g2,b',g3,g4⟩:=FW z;exact lI (CG X ⟨m',dm',dl',tl',R,Rz,Sy,S,g1,g2,b',g3,h _ _ g4⟩)
end
end
end D
namespace D
open Vbpcak (Hole Ins Machine line drill goBy rounds does doesAll)
structure UC(m:jr):Prop where
 d:1<=m.d
 hs:∀h∈m.drilled,1<=h.d
def Keeps(f:jr->Option jr):Prop:=∀m a,UC m->f m=aa a->UC a
theorem jz:Keeps line:=fun m a o e=>by
 unfold line at e
 split at e
 .cases e
 .cases e
  exact⟨o.d,o.hs⟩
theorem sx:Keeps drill:=fun m a o e=>by
 unfold drill at e
 split at e
 .cases e
 .cases e
  refine⟨o.d,fun h hh=> ?_⟩
  rcases aZ.mp hh with rfl|hh
  .exact o.d
  .exact o.hs h hh
theorem j7(b:Keeps f)(hg:Keeps g):Keeps fun m=>(f m).bind g:=fun m c o e=>by
 dsimp only at e
 cases h:f m with
 |none=>rw[h] at e;cases e
 |some a=>
  rw[h] at e
  exact hg a c (b m a o h) e
theorem qE(a:Keeps f):∀n,Keeps (rounds n f)
 |0=>fun m b o e=>by
  cases e
  exact o
 |n+1=>fun m b o e=>j7 a (qE a n) m b o e
theorem ue(x y:Int):Keeps fun m=>drill (goBy x y m):=fun m a o e=>sx (goBy x y m) a ⟨o.d,o.hs⟩ e
theorem xw(a:Keeps f)(g:jr->jr)(hg:∀m,UC m->UC (g m)):Keeps fun m=>(f m).map g:=fun m c o e=>by
 dsimp only at e
 cases h:f m with
 |none=>rw[h] at e;cases e
 |some b=>
  rw[h] at e
  cases e
  exact hg _ (a m b o h)
mutual
theorem Yv:∀(i:Ins),(∀x∈fb i,x.1=("tool":y6)->1<=x.2.headD 0)->Keeps (does i)
 | .tool d,h=>fun m a o e=>by have hd:(1:Int)<=(d:Int):=h (("tool":y6),[(d:Int)]) (by simp[fb]) Z;dsimp only[does] at e;exact xw jz (fun m=>{m with d:=d}) (fun m o=>⟨by show 1<=d;lia,o.hs⟩) m a o e
 | .to x y,h=>fun m a o e=>by dsimp only[does] at e;exact xw jz (fun m=>{m with at_:=(x,y)}) (fun m o=>⟨o.d,o.hs⟩) m a o e
 | .go x y,h=>fun m a o e=>by dsimp only[does] at e;exact xw jz (goBy x y) (fun m o=>⟨o.d,o.hs⟩) m a o e
 | .here,h=>fun m a o e=>by dsimp only[does] at e;exact j7 jz sx m a o e
 | .at_ x y,h=>fun m a o e=>by dsimp only[does] at e;exact j7 jz (g:=fun m=>drill {m with at_:=(x,y)}) (fun m a o e=>sx {m with at_:=(x,y)} a ⟨o.d,o.hs⟩ e) m a o e
 | .by_ x y,h=>fun m a o e=>by dsimp only[does] at e;exact j7 jz (ue x y) m a o e
 | .run n x y,h=>fun m a o e=>by dsimp only[does] at e;exact j7 jz (qE (ue x y) n) m a o e
 | .rep n b,h=>fun m a o e=>by
  rw[AQ] at e;have c:Keeps (iZ b):=JW b fun x f=>h x (by rw[si];exact aO _ (gQ _ f))
  exact j7 jz (qE (j7 c jz) n) m a o e
theorem JW:∀(l:List Ins),(∀x∈dk l,x.1=("tool":y6)->1<=x.2.headD 0)->Keeps (iZ l)
 |[],h=>fun m b o e=>by
  rw[all_nil] at e;cases e
  exact o
 |i::r,h=>fun m b o e=>by rw[all_cons] at e;exact j7 (Yv i fun x a=>h x (by rw[j4];exact gQ _ a)) (JW r fun x a=>h x (by rw[j4];exact eX _ a)) m b o e
end
theorem Cg{pr:List Ins}{hs:List Hole}(h:∀x∈dk pr,x.1=("tool":y6)->1<=x.2.headD 0)(e:fS pr=aa hs):∀g∈hs,1<=g.d:=by
 unfold fS at e
 cases h1:iZ pr ⟨jB,1,[],WG,WH⟩ with
 |none=>rw[h1] at e;cases e
 |some m=>rw[h1] at e;intro g hg;rw[<-(aW e)] at hg;exact(JW pr h _ m ⟨aQ 1,fun h hh=>az hh dD⟩ h1).hs g (zu.mp hg)
end D
namespace D
open PySem PySem.Spec PyProof.Rows L2
variable {P0:b7} {w0:cW} {K:aM} {b0:Heap} {m0:Str->Option bj} (Y:Txt P0 w0 K b0 m0)
section
open Vbpcak (Hole State Ins readProgram)
open VbpcText (Bytes)
def xx(t:Bytes)(rf:Int)(p:PM):Prop:=match jV t with
 | .error n=>rf= -100-n
 | .ok pr=>match fS pr with
  |none=>rf= -6
  |some hs=>rf=0/\p.hs=hs/\hs.length<=2048/\jQ hs
theorem RF{rf:Int}(h:xx t rf p)(hl:t.length<=40000):(rf<0/\∀s f,ow s t f=(s,[rf]))\/(rf=0/\p.hs.length<=2048/\jQ p.hs/\∀s f,ow s t f=f p.hs):=by
 have b:¬Y1<t.length:=by unfold Y1;lia
 unfold xx at h
 cases e:jV t with
 |error n=>rw[e] at h;replace h:rf= -100-n:=h;refine .inl ⟨by lia,fun s f=> ?_⟩;unfold ow;rw[ak b,e,h]
 |ok pr=>
  rw[e] at h;dsimp only at h
  cases a:fS pr with
  |none=>rw[a] at h;replace h:rf= -6:=h;refine .inl ⟨by lia,fun s f=> ?_⟩;unfold ow;rw[ak b,e,h];show(match fS pr with|none=>_|some l=>_)=_;rw[a]
  |some hs=>rw[a] at h;obtain⟨h1,c,d,g⟩:rf=0/\p.hs=hs/\hs.length<=2048/\jQ hs:=h;subst c;refine .inr ⟨h1,d,g,fun s f=> ?_⟩;unfold ow;rw[ak b,e];show(match fS pr with|none=>_|some l=>_)=_;rw[a]
section
inductive abt K C H(Q:VK):List V->Prop|mk:∀a t,(jD K H a (t.map fun c=>V.int c.toNat))->(t.length<=20000)->(∀H' m dm dl tl p ts rf ds,cI H H'->MD H' C m dm dl tl p ts rf ds->xx t rf p->Q (.ref m) H')->abt K C H Q [.ref a]
theorem sy:Ok Y 6 112 (abt K CM):=by
 refine Y.ok ?_;rintro _ H _ Q nd u ⟨a,t,S,f,q⟩;refine⟨_,(aI (bB 1 (Pl (Y.kk (Rv Y)) u.mono)) (aI (bB 2 (cP (yL Y) u.mono (cO (pv 0)))) (aI (da (cK mB (bS Y.na (pv 2)) aY) (b6 (eK Y.na (pv 1) (cu fK (d_ Y.ci) (bS Y.na (pv 2))))) (b6 (cQ (cP (AZ Y) u.mono (aR (pv 1) (cO (pv 2))))))) (cy (pv 1))))),?_⟩;refine fun m e v w y=>⟨m,e,aH,fun g j tl T A k U=>⟨Z,?_⟩⟩;have B:cI H g:=fun x o b=>by have J:=aS b v;refine U x o ?_ (by simpa using J);rwa [aL J,aL (aS b w)]
 have M:∀x,upd (upd H e (.own m)) m (.ins CM e []) x=ae->H x=none:=fun x b=>by have V:=cF ((aL y).trans aH) b;rw[aL (cF aH b),aL V] at b;exact b
 refine⟨a,t,kj B S,f,fun H2 p dp l pt lp C as L N W D E h=> ?_⟩;have F:=k.same D;refine⟨p,CP,dp,_,_,Z,E.at_,Z,Z,C,0,Z,Z,_,Z,?_⟩;unfold ReadAs at h
 cases s:jV t with
 |error n=>
  rw[s] at h;obtain⟨rfl,hn⟩:C=n/\0<n:=h;refine e_ (fun c=> ?_) (fun c=>az (AA c) (by lia));refine⟨p,CP,dp,_,_,Z,E.at_,Z,Z,_,_,Z,Z,m,CM,e,_,Z,F.at_,Z,zk,?_⟩;refine q _ m e j tl ⟨0,0,0,[],0⟩ [] (-100-n) [] ?_ (F.put _ _ Z) ?_
  .exact fun x o b=>by rw[aL (aS b v)];exact D _ _ (B _ _ b)
  .unfold xx;rw[s]
 |ok pr=>
  rw[s] at h;obtain⟨rfl,O,X,hT,hlL,yM,T9⟩:C=0/\L=dk pr/\oA (PK N) pr 0/\(∃d r,pr=Y0 d::r)/\L.length<=20000/\(∀x∈L,x.1=("run")->x.2.headD 0<=1000)/\∀x∈L,x.1=("tool")->1<=x.2.headD 0:=h;refine e_ (fun c=>az (aq c) (by decide)) (fun c=>⟨fun x=>g x=ae,m,e,j,tl,p,dp,l,pt,lp,0,as,L,N,W,pr,F,E,O,X,hT,yM,(fun z=>by cases (show g m=ae from z).symm.trans k.at_),(fun z=>by cases (show g j=ae from z).symm.trans k.dr.lst),(fun z=>by cases (show g tl=ae from z).symm.trans k.ti),fun H3 P Rz R Rw D3 i G=> ?_⟩);refine q _ m e j tl P Rz R Rw ?_ D3 ?_
  .exact fun x o b=>by exact G _ _ (D _ _ (B _ _ b)) (by simp[(aS b v),aS b (M _ T),(aS b (M _ A))])
  .unfold xx;unfold LL at i;rw[s];dsimp only;cases I:fS pr with|none=>rw[I] at i;exact i|some hs=>rw[I] at i;obtain⟨r1,r2,r3⟩:R=0/\P.hs=hs/\hs.length<=2048:=i;exact⟨r1,r2,r3,Cg (by rw[<-O];exact T9) I⟩
theorem tM.moved{b f r dr a lh lo:Addr}{st:State×kc}(k:tM K CB CR H b f r dr a lh lo z st Q)(kp:fk H H1 [r])(R:RD H1 CR r dr a z'):tM K CB CR H1 b f r dr a lh lo z st Q:=by
 intro H' g fs' h i d j l B m h1 o p s t;have e:∀x,H1 x=ae->H x=none:=fun x c=>by
  cases q:H x with
  |none=>rfl
  |some u=>
   have n:x≠r:=fun z=>by rw[z,R] at c;cases c
   rw[kp x u q (by simpa using n)] at c;cases c
 refine k H' g fs' h i d (e _ j) l B m (h1.imp id (e _)) (o.imp id (e _)) p s ?_;exact(kp.same fun x c=>by simp at c;simp[c]).trans t
theorem DH:∀(l:List Int),(∀x∈l,0<=x/\x<256)->l.map V.int=(VbpcakNeutral.bytes l).map fun c=>V.int (c.toNat:Int)|[],_=>rfl|x::l,h=>by have b:=h x (aT ..);show V.int x::l.map V.int=V.int ((Kr x.toNat).toNat)::(VbpcakNeutral.bytes l).map fun c=>V.int c.toNat;rw[(DH l fun y a=>h y (aO _ a)),wB];congr 2;have:x.toNat%2^8=x.toNat:=rk (by lia);rw[this];lia
inductive spT K(CB CR)(c:Bytes->Vbpcak.Call) H(Q:VK):List V->Prop|mk:∀b dx r dr a lh lo s fs as ns (z n:Nat),(CE K CB CR H b dx r dr a lh lo s fs as ns z)->(ns[z]? =aa (n:Int))->(z+1+n<=ns.length)->(n<=16900)->((∀x∈(ns.drop (z+1)).take n,0<=x/\x<256))->(tM K CB CR H b dx r dr a lh lo (z+1+n) (Vbpcak.step s (c (VbpcakNeutral.bytes ((ns.drop (z+1)).take n)))) Q)->spT K CB CR c H Q [.ref b, .ref r]
theorem xy{b i r dr a lh lo p:Addr}{st:State×kc}(e:CE K CB CR H b i r dr a lh lo s fs as ns z)(hn:n<=16900)(o:∀x∈(ns.drop (z+1)).take n,0<=x/\x<256)
  (k:tM K CB CR H b i r dr a lh lo (z+1+n) st Q) (q:H1 p=aa (.lst (((ns.drop (z+1)).take n).map V.int))) (t:RD H1 CR r dr a (z+1+n)) (v:fk H H1 [r]):
  jD K H1 p ((VbpcakNeutral.bytes ((ns.drop (z+1)).take n)).map fun c=>V.int (c.toNat:Int))/\(VbpcakNeutral.bytes ((ns.drop (z+1)).take n)).length<=20000/\
  ∀(d:Hp) (rf:Int) (g:PM),cI H1 d->xx (VbpcakNeutral.bytes ((ns.drop (z+1)).take n)) rf g->CE K CB CR d b i r dr a lh lo s fs as ns (z+1+n)/\tM K CB CR d b i r dr a lh lo (z+1+n) st Q/\
   ((rf<0/\∀s f,ow s (VbpcakNeutral.bytes ((ns.drop (z+1)).take n)) f=(s,[rf]))\/(rf=0/\g.hs.length<=2048/\jQ g.hs/\∀s f,ow s (VbpcakNeutral.bytes ((ns.drop (z+1)).take n)) f=f g.hs)):=by
 have w:((ns.drop (z+1)).take n).length<=n:=by rw[bA];lia
 have y:(VbpcakNeutral.bytes ((ns.drop (z+1)).take n)).length<=n:=by
  unfold VbpcakNeutral.bytes
  rwa [aE]
 refine⟨?_,by lia,fun d rf g m TA=> ?_⟩
 .exact(DH _ o)▸(.of q)
 .have j:=v.trans (fk.of m)
  have R2:=m _ _ t
  have l:jD K d a (ns.map V.int):=by
   rcases e.sq with(h|⟨u,h⟩)|h
   .exact .inl (.inl (j _ _ h (by simpa using e.ar)))
   .exact .inl (.inr ⟨u,j _ _ h (by simpa using e.ar)⟩)
   .exact .inr h
  exact⟨⟨e.bd.QB e.rd e.rb j,R2,l,e.ab,e.ar,e.rb⟩,k.moved j R2,RF TA (by lia)⟩
theorem HR:Ok Y 7 177 (spT K CB CR .run):=by
 refine Y.ok ?_;rintro _ H _ Q nd g ⟨b,O,r,dr,a,lh,lo,s,fs,as,ns,z,n,e,A,i,hn,B,k⟩;refine⟨_,(aI (bB 2 (cP (sy Y) g.mono (cO (jd (EO Y) g.mono (pv 1))))) (aI (da (cK lG (bS Y.na (pv 2)) aY) (cy (cT (cO (bS Y.na (pv 2))))) ck) (cy (cP (o9 Y) g.mono (cO (bS Y.na (pv 2))))))),?_⟩;refine⟨r,dr,_,Z,e.rd,(fun z'=>oN a z' (m:=("take_row":Str)) (by decide+kernel) (by decide+kernel)) _,r,dr,a,ns,z,n,e.rd,e.sq,⟨_,e.sq,e.ar⟩,A,i,fun H0 C P j l o=> ?_⟩;obtain⟨D,t2,E⟩:=xy e hn B k j l o;refine⟨C,_,D,t2,fun F m t G tl p R rf I J d TA=> ?_⟩;obtain⟨w,f,h⟩:=E F rf p J TA;refine⟨m,CM,t,_,_,Z,d.at_,Z,Z,rf,0,Z,Z,_,Z,?_⟩;rcases h with⟨L,u⟩|⟨S,x,T,u⟩
 .have v:Vbpcak.step s (.run (VbpcakNeutral.bytes ((ns.drop (z+1)).take n)))=(s,[rf]):=by exact u _ _
  rw[v] at f;refine e_ (fun c=> ?_) (fun c=>az L (AA c));refine⟨m,CM,t,_,_,Z,d.at_,Z,Z,zl,fun U y=> ?_⟩;exact f.pure w y aH (aN y)
 .have v:Vbpcak.step s (.run (VbpcakNeutral.bytes ((ns.drop (z+1)).take n)))=(s,Vbpcak.told p.hs):=by exact u _ _
  rw[v] at f;exact e_ (fun c=>az (aq c) (by lia)) (fun c=>⟨m,CM,t,_,_,Z,d.at_,Z,Z,G,I,_,d.dr.hl,by lia,fun q V j M N=>f.pure w j N M⟩)
theorem Ci:Ok Y 7 178 (spT K CB CR .check):=by
 refine Y.ok ?_;rintro _ H _ Q nd d ⟨b,I,r,dr,a,lh,lo,s,fs,as,ns,z,n,e,J,o,hn,L,k⟩;refine⟨_,(aI (bB 2 (cP (sy Y) d.mono (cO (jd (EO Y) d.mono (pv 1))))) (aI (da (cK lG (bS Y.na (pv 2)) aY) (cy (cT (cO (bS Y.na (pv 2))))) ck) (aI (bB 3 (cP (r_ Y) d.mono (cO (pv 0)))) (cy (cT (aR (cP (ud Y) d.mono (aR (pv 3) (cO (bS Y.na (pv 2))))) (cO (cP (ud Y) d.mono (aR (bS Y.na (pv 2)) (cO (pv 3))))))))))),?_⟩;refine⟨r,dr,_,Z,e.rd,(fun z'=>oN a z' (m:=("take_row":Str)) (by decide+kernel) (by decide+kernel)) _,r,dr,a,ns,z,n,e.rd,e.sq,⟨_,e.sq,e.ar⟩,J,o,fun H0 M X N q t=> ?_⟩;obtain⟨O,t2,P⟩:=xy e hn L k N q t;refine⟨M,_,O,t2,fun R m i A tl p ts rf B S u TA=> ?_⟩;obtain⟨j,l,h⟩:=P R rf p S TA;refine⟨m,CM,i,_,_,Z,u.at_,Z,Z,rf,0,Z,Z,_,Z,?_⟩;rcases h with⟨T,v⟩|⟨h0,C,hT,v⟩
 .have w:Vbpcak.step s (.check (VbpcakNeutral.bytes ((ns.drop (z+1)).take n)))=(s,[rf]):=by exact v _ _
  rw[w] at l;refine e_ (fun c=> ?_) (fun c=>az T (AA c));refine⟨m,CM,i,_,_,Z,u.at_,Z,Z,zl,fun U f=> ?_⟩;exact l.pure j f aH (aN f)
 .have w:Vbpcak.step s (.check (VbpcakNeutral.bytes ((ns.drop (z+1)).take n)))=(s,Vbpcak.ints [gM (Vbpcak.all s) p.hs,gM p.hs (Vbpcak.all s)]):=by exact v _ _
  rw[w] at l;have EA:=Lv j.bd.wf;refine e_ (fun c=>az (aq c) (by lia)) (fun c=>⟨b,I,lh,lo,s,fs,as,j.bd,fun D cs H2 V E g=> ?_⟩);have x:=u.same E;refine⟨m,CM,i,_,_,Z,x.at_,Z,Z,D,A,cs,B,_,_,g,x.dr,by lia,by lia,fun H3 y=> ?_⟩;have F:=x.same y;refine⟨m,CM,i,_,_,Z,F.at_,Z,Z,A,D,B,cs,_,_,F.dr,g.same y,by lia,by lia,fun H4 W=> ?_⟩;refine⟨zl,fun U f=> ?_⟩;have G:=(E.trans y).trans W;exact l.pure j (G.free f) aH (G.trans (aN f))
theorem Ff:Ok Y 7 179 (spT K CB CR .load):=by
 refine Y.ok ?_;rintro _ H _ Q nd i ⟨b,y,r,dr,a,lh,lo,s,fs,as,ns,z,n,e,A,j,hn,B,k⟩;refine⟨_,(aI (bB 2 (cP (sy Y) i.mono (cO (jd (EO Y) i.mono (pv 1))))) (aI (da (cK lG (bS Y.na (pv 2)) aY) (cy (cT (cO (bS Y.na (pv 2))))) ck) (cy (cT (cO (cP (Cd Y) i.mono (aR (pv 0) (cO (bS Y.na (pv 2)))))))))),?_⟩;refine⟨r,dr,_,Z,e.rd,(fun z'=>oN a z' (m:=("take_row":Str)) (by decide+kernel) (by decide+kernel)) _,r,dr,a,ns,z,n,e.rd,e.sq,⟨_,e.sq,e.ar⟩,A,j,fun H0 C T D l o=> ?_⟩;obtain⟨E,t2,F⟩:=xy e hn B k D l o;refine⟨C,_,E,t2,fun G m q I tl p U rf J L d TA=> ?_⟩;obtain⟨t,f,h⟩:=F G rf p L TA;refine⟨m,CM,q,_,_,Z,d.at_,Z,Z,rf,0,Z,Z,_,Z,?_⟩;rcases h with⟨M,u⟩|⟨V,x,N,u⟩
 .have w:Vbpcak.step s (.load (VbpcakNeutral.bytes ((ns.drop (z+1)).take n)))=(s,[rf]):=by exact u _ _
  rw[w] at f;refine e_ (fun c=> ?_) (fun c=>az M (AA c));refine⟨m,CM,q,_,_,Z,d.at_,Z,Z,zl,fun O g=> ?_⟩;exact f.pure t g aH (aN g)
 .have w:Vbpcak.step s (.load (VbpcakNeutral.bytes ((ns.drop (z+1)).take n)))=xn s p.hs:=by exact u _ _
  rw[w] at f;refine e_ (fun c=>az (aq c) (by lia)) (fun c=>⟨m,CM,q,_,_,Z,d.at_,Z,Z,b,y,lh,lo,I,s,fs,as,J,p.hs,t.bd,d.dr.hl,by lia,N,fun W v fs' X lu P hv h1 R S kp=> ?_⟩);refine⟨zl,fun O g=> ?_⟩;exact tM.byB f t hv h1 R S kp g
end
end
end D
namespace D
open Vbpcak (Hole leastBy insert_ node parentOf growTree way walkFrom)
section
open M
theorem tw(f:Nat->Nat):∀(l:List Nat) (m:Nat),l.Pairwise (· <·)->(iD f l=aa m↔m∈l/\∀y∈l,f m<f y\/(f m=f y/\m<=y))
 |[],m,_=>⟨fun h=>(nomatch h),fun h=>(nomatch h.1)⟩
 |i::r,m,h=>by
  obtain⟨h1,k⟩:=fR.mp h;dsimp only[iD]
  cases e:iD f r with
  |none=>
   have n:r=[]:=by cases r with|nil=>rfl|cons x r=>obtain⟨m,o⟩:=iK f x r;rw[o] at e;cases e
   subst n;constructor
   .intro z;cases z
    refine⟨aT ..,fun y a=> ?_⟩;simp at a;subst a;exact .inr ⟨Z,aQ _⟩
   .rintro⟨z,_⟩;simp at z;rw[z]
  |some j=>
   have d:=(tw f r j k).mp e;show(if f j<f i then aa j else aa i)=aa m↔_;by_cases c:f j<f i
   .rw[ai c];constructor
    .intro z;cases z
     refine⟨aO _ d.1,fun y a=> ?_⟩;rcases aZ.mp a with rfl|a
     .exact .inl c
     .simp_all
    .rintro⟨b,g⟩;rcases aZ.mp b with rfl|b
     .have:=g j (aO _ d.1);lia
     .have p:=g j (aO _ d.1);have q:=d.2 m b;congr 1;lia
   .rw[ak c];constructor
    .intro z;cases z
     refine⟨aT ..,fun y a=> ?_⟩;rcases aZ.mp a with rfl|a
     .exact .inr ⟨Z,aQ _⟩
     .have:=d.2 y a;have:=h1 y a;lia
    .rintro⟨b,g⟩;rcases aZ.mp b with rfl|b
     .rfl
     .have p:=g i (aT ..);have q:=d.2 m b;have s:=h1 m b;lia
theorem A1(f:Nat->Nat):∀(l:List Nat),iD f (l.map (· +1))=(iD (fun i=>f (i+1)) l).map (· +1)
 |[]=>rfl
 |i::r=>by
  rw[b5,iD,iD,A1 f r]
  cases iD (fun i=>f (i+1)) r with
  |none=>rfl
  |some j=>
   show(if f (j+1)<f (i+1) then aa (j+1) else aa (i+1))=Option.map (· +1) (if f (j+1)<f (i+1) then aa j else aa i);by_cases c:f (j+1)<f (i+1)
   .simp_all
   .rw[ak c,ak c];rfl
def closer(hs:List Hole)(x i:Nat)(q:Nat×Nat):Nat×Nat:=if way (node hs x) (node hs i)<q.1\/(way (node hs x) (node hs i)=q.1/\x<q.2) then(way (node hs x) (node hs i),x) else q
def Fg(hs:List Hole)(a:List Nat)(i:Nat):Nat×Nat:=(way (node hs (jO hs a i)) (node hs i),jO hs a i)
theorem JX(h:tree≠[]):jO hs tree i∈tree:=by unfold jO;cases tree with|nil=>exact az Z h|cons x r=>obtain⟨m,a⟩:=iK (fun j=>way (node hs j) (node hs i)) x r;exact a▸(fB _ _ _ a)
theorem HS(g:tree.Pairwise (· <·))(l:tree≠[])(m:x∉tree):Fg hs (vb x tree) i=closer hs x i (Fg hs tree i):=by
 have h:=oJ x tree g;have e:∃p,iD (fun j=>way (node hs j) (node hs i)) tree=aa p:=by cases tree with|nil=>exact az Z l|cons y r=>exact iK _ y r
 obtain⟨p,k⟩:=e;have b:=(tw _ tree p g).mp k;have n:jO hs tree i=p:=by unfold jO;rw[k];rfl
 dsimp only[closer,Fg];rw[n];by_cases c:way (node hs x) (node hs i)<way (node hs p) (node hs i)\/(way (node hs x) (node hs i)=way (node hs p) (node hs i)/\x<p)
 .rw[ai c];have d:iD (fun j=>way (node hs j) (node hs i)) (vb x tree)=aa x:=by
   refine(tw _ _ x h).mpr ⟨(gX x tree x).mpr (.inl rfl),fun y a=> ?_⟩;rcases(gX x tree y).mp a with rfl|a
   .exact .inr ⟨Z,aQ _⟩
   .have:=b.2 y a;lia
  have f:jO hs (vb x tree) i=x:=by unfold jO;rw[d];rfl
  rw[f]
 .rw[ak c];have d:iD (fun j=>way (node hs j) (node hs i)) (vb x tree)=aa p:=by
   refine(tw _ _ p h).mpr ⟨(gX x tree p).mpr (.inr b.1),fun y a=> ?_⟩;rcases(gX x tree y).mp a with rfl|a
   .have:p≠y:=fun z=>m (z▸b.1);lia
   simp_all
  have f:jO hs (vb x tree) i=p:=by unfold jO;rw[d];rfl
  rw[f]
def grow(hs:List Hole):Nat->List (Nat×Nat)->List Nat->List (Nat×Nat)
 |0,J,_=>J
 |n+1,J,left=>match iD (fun i=>(J.getD i (0,0)).1) left with
  |none=>J
  |some i=>grow hs n (J.mapIdx fun k q=>if k∈left.filter (fun j=>ah (j≠i)) then closer hs (i+1) (k+1) q else q) (left.filter fun j=>ah (j≠i))
theorem HU{a:Type}(f:Nat->a->a)(J:List a)(i:Nat)(d:a)(h:i<J.length):(J.mapIdx f).getD i d=f i (J.getD i d):=by simp_all
theorem yN(l:List Nat)(i:Nat):(l.map (· +1)).filter (fun j=>ah (j≠i+1))=(l.filter fun j=>ah (j≠i)).map (· +1):=by rw[U7];congr 1;exact pX fun x _=>decide_eq_decide.mpr (by simp)
theorem DI(hs:List Hole):∀(n:Nat) (J:List (Nat×Nat)) (left a:List Nat),left.length=n->left.Nodup->a.Pairwise (· <·)->a≠[]->(∀i∈left,i<J.length/\i+1∉a/\J.getD i (0,0)=Fg hs a (i+1))->
  (grow hs n J left).length=J.length/\(∀i,i∉left->(grow hs n J left)[i]? =J[i]?)/\
  (tV hs n a (left.map (· +1))).Perm (left.map fun i=>(i+1,((grow hs n J left).getD i (0,0)).2))/\
  ∀i∈left,((grow hs n J left).getD i (0,0)).1=way (node hs ((grow hs n J left).getD i (0,0)).2) (node hs (i+1))
 |0,J,left,a,hn,hd,m,u,l=>by
  have e:=bX.mp hn
  subst e
  exact⟨Z,fun _ _=>rfl,by rfl,fun _ z=>nomatch z⟩
 |n+1,J,left,a,hn,hd,m,u,l=>by
  have B:iD (fun i=>way (node hs (jO hs a (i+1))) (node hs (i+1))) left=iD (fun i=>(J.getD i (0,0)).1) left:=mm _ _ left fun i C=>by
   rw[(l i C).2.2]
   rfl
  have D:∃i,iD (fun i=>(J.getD i (0,0)).1) left=aa i:=by
   cases left with
   |nil=>cases hn
   |cons x r=>exact iK _ x r
  obtain⟨i,o⟩:=D
  have p:=fB _ _ _ o
  obtain⟨v,s,b⟩:=l i p
  have d:grow hs (n+1) J left=grow hs n (J.mapIdx fun k q=>if k∈left.filter (fun j=>ah (j≠i)) then closer hs (i+1) (k+1) q else q) (left.filter fun j=>ah (j≠i)):=by
   rw[grow,o]
  have E:tV hs (n+1) a (left.map (· +1))=(i+1,jO hs a (i+1))::tV hs n (vb (i+1) a) ((left.filter fun j=>ah (j≠i)).map (· +1)):=by
   rw[tV,A1,B,o]
   show(i+1,jO hs a (i+1))::tV hs n (vb (i+1) a) ((left.map (· +1)).filter fun j=>ah (j≠i+1))=_
   rw[yN]
  have M:=ij left i hd p
  have f:∀k,k∈left.filter (fun j=>ah (j≠i))↔k∈left/\k≠i:=fun k=>by simp
  obtain⟨F,w,N,G⟩:=DI hs n (J.mapIdx fun k q=>if k∈left.filter (fun j=>ah (j≠i)) then closer hs (i+1) (k+1) q else q) (left.filter fun j=>ah (j≠i)) (vb (i+1) a) (by lia) (hd.filter _) (oJ _ _ m)
   (fun z=>by have:=(gX (i+1) a (i+1)).mpr (.inl rfl);grind)
   (fun k hk=>by
    obtain⟨t,O⟩:=(f k).mp hk
    obtain⟨y,H,I⟩:=l k t
    refine⟨by rw[lB];exact y,fun z=> ?_,?_⟩
    .rcases(gX _ _ _).mp z with z|z
     .lia
     .exact H z
    .rw[HU _ _ _ _ y,ai hk,I,HS m u s])
  have g:=fun z=>((f i).mp z).2 rfl
  have A:=w i g
  rw[i5,aP v,fI,ak g] at A
  have h:(grow hs (n+1) J left).getD i (0,0)=J.getD i (0,0):=by
   rw[d,bh,A,bh,aP v]
  refine⟨by rw[d,F,lB],fun k hk=> ?_,?_,fun k hk=> ?_⟩
  .rw[d,w k fun z=>hk ((f k).mp z).1,i5]
   cases J[k]? with
   |none=>rfl
   |some q=>
    show aa (if _ then _ else _)=aa q
    rw[ak fun z=>hk ((f k).mp z).1]
  .rw[E]
   have K:left.Perm (i::left.filter fun j=>ah (j≠i)):=by
    exact(erase_filter left i hd)▸(L5 p)
   refine L9 ?_ (K.map _).symm
   rw[b5]
   have L:((grow hs (n+1) J left).getD i (0,0)).2=jO hs a (i+1):=by
    rw[h,b]
    rfl
   rw[L]
   refine List.Perm.cons _ ?_
   rwa [d]
  .by_cases c:k=i
   .subst c
    rw[h,b]
    rfl
   .have:=G k ((f k).mpr ⟨hk,c⟩)
    rwa [d]
def gz(hs:List Hole):List (Nat×Nat):=grow hs hs.length ((List.range hs.length).map fun i=>(way (node hs 0) (node hs (i+1)),0)) (List.range hs.length)
def par(hs:List Hole)(i:Nat):Nat:=((gz hs).getD i (0,0)).2
theorem iQ(hs:List Hole):gz hs=((List.range hs.length).map fun i=>(way (node hs (par hs i)) (node hs (i+1)),par hs i))/\(Vbpcak.tree hs).Perm ((List.range hs.length).map fun i=>(i+1,par hs i)):=by
 obtain⟨f,g,a,b⟩:=DI hs hs.length ((List.range hs.length).map fun i=>(way (node hs 0) (node hs (i+1)),0)) (List.range hs.length) [0] bG dS (List.pairwise_singleton ..) (by simp) fun i d=>by refine⟨by simp_all,by simp,?_⟩;rw[bh,bp,d7 (bU.mp d)];rfl
 refine⟨fF fun i=> ?_,a⟩;by_cases c:i<hs.length
 .have h1:i<(gz hs).length:=by simp_all [gz]
  rw[bp,d7 c,aP h1];have e:(gz hs).getD i (0,0)=(gz hs)[i]:=by simp_all
  rw[<-e];congr 1;exact L7 (b i (bU.mpr c)) Z
 simp_all [dH,gz]
end
section
open M
theorem RH(a b:Vbpcak.Pt):way a b=way b a:=by unfold way;congr 1<;>lia
theorem foldl_add(l:List Nat):∀a,l.foldl (· +·) a=a+l.sum:=by induction l with|nil=>intro a;rfl|cons x l b=>intro a;rw[iT,b,wA];lia
theorem Yw(l:List Nat):Vbpcak.sum l=l.sum:=by unfold Vbpcak.sum;rw[foldl_add,i8]
theorem HV(hs:List Hole):NM hs=((gz hs).map gC).sum:=by obtain⟨h1,a⟩:=iQ hs;unfold NM;rw[Yw,(a.map _).sum_nat,h1,dI,dI];congr 1;exact fD fun i _=>RH _ _
theorem tree_find(hs:List Hole)(i:Nat)(b:i<hs.length):(((Vbpcak.tree hs).find? fun e=>e.1==i+1).map fun e=>e.2).getD 0=par hs i:=by
 obtain⟨h1,a⟩:=iQ hs
 cases e:(Vbpcak.tree hs).find? fun e=>e.1==i+1 with
 |none=>have:=wG.mp e (i+1,par hs i) (a.mem_iff.mpr (bK.mpr ⟨i,bU.mpr b,Z⟩));simp at this
 |some x=>
  obtain⟨k,hk,rfl⟩:=bK.mp (a.mem_iff.mp (kQ e));have:k=i:=by simpa using (U8 e)
  subst this;rfl
theorem Fh(hs:List Hole):((List.range hs.length).map fun i=>(((Vbpcak.tree hs).find? fun e=>e.1==i+1).map fun e=>e.2).getD 0)=(gz hs).map oR:=by obtain⟨h1,b⟩:=iQ hs;rw[h1,dI];exact fD fun i a=>tree_find hs i (bU.mp a)
def kids(t:List (Nat×Nat))(i:Nat):List Nat:=((t.filter fun e=>e.2==i).map fun e=>e.1).foldl (fun l j=>vb j l) []
theorem pU(t:List (Nat×Nat))(n i:Nat):Ks t (n+1) i=i::(kids t i).flatMap (Ks t n):=rfl
theorem wo(t:List (Nat×Nat))(i j:Nat):j∈kids t i↔(j,i)∈t:=by unfold kids;have:=(rW (fun x:Nat=>x) ((t.filter fun e=>e.2==i).map fun e=>e.1) [] List.Pairwise.nil).2 j;rw[this];simp
theorem DJ(t:List (Nat×Nat))(i:Nat):(kids t i).Pairwise (· <·):=(rW (fun x:Nat=>x) ((t.filter fun(e:Nat×Nat)=>e.2==i).map fun(e:Nat×Nat)=>e.1) [] List.Pairwise.nil).1
def yf:List Nat->List (Nat×Nat)->Prop|_,[]=>True|a,(i,p)::E=>p∈a/\i∉a/\yf (i::a) E
theorem tD:∀{E:List (Nat×Nat)} {b:List Nat},yf b E->∀e∈E,e.1∉b
 |[],_,_,e,a=>nomatch a
 |(i,p)::E,b,⟨h1,c,d⟩,e,a=>by
  rcases aZ.mp a with rfl|a
  .exact c
  .exact fun z=>tD d e a (aO _ z)
theorem A_(hs:List Hole):∀(n:Nat) (a left b:List Nat),(∀x,x∈b↔x∈a)->a≠[]->(∀i∈left,i∉a)->yf b (tV hs n a left)
 |0,a,left,b,_,_,_=>by rw[tV];trivial
 |n+1,a,left,b,hR,d,hl=>by
  dsimp only[tV]
  cases e:iD (fun i=>way (node hs (jO hs a i)) (node hs i)) left with
  |none=>trivial
  |some i=>
   refine⟨(hR _).mpr (JX d),fun z=>hl i (fB _ _ _ e) ((hR _).mp z),A_ hs n _ _ _ (fun x=> ?_) (fun z=> ?_) fun j f z=> ?_⟩
   .rw[aZ,gX,hR]
   .have:=(gX i a i).mpr (.inl rfl);grind
   .have c:=b_.mp f;rcases(gX _ _ _).mp z with z|z
    .exact aq c.2 z
    .exact hl j c.1 z
theorem uQ(hs:List Hole):yf [0] (Vbpcak.tree hs):=A_ hs _ [0] _ [0] (fun _=>Iff.rfl) (by simp) fun i a=>by
 obtain⟨k,_,rfl⟩:=bK.mp a
 simp
def Later(t:List (Nat×Nat))(a:List Nat)(E:List (Nat×Nat)):Prop:=∀j,j∉a->t.filter (fun e=>e.2==j)=E.filter fun e=>e.2==j
theorem Later.next(h:Later t Rx ((i,p)::E))(b:p∈Rx):Later t (i::Rx) E:=fun j a=>by
 rw[h j fun z=>a (aO _ z),iA]
 have:¬(p==j)=true:=fun z=>a (aO _ (eq_of_beq z▸b))
 rw[ak this]
theorem Ba(h:Later t Rx E)(a:i∉Rx)(j:Nat):j∈kids t i↔(j,i)∈E:=by
 rw[wo];have e:=h i a;constructor
 .intro z;have:(j,i)∈t.filter fun e=>e.2==i:=b_.mpr ⟨z,by simp⟩;rw[e] at this;exact(b_.mp this).1
 .intro z;have:(j,i)∈E.filter fun e=>e.2==i:=b_.mpr ⟨z,by simp⟩;rw[<-e] at this;exact(b_.mp this).1
theorem nS{a b:Type}{f g:a->List b}:∀{l:List a},(∀x∈l,f x=g x)->l.flatMap f=l.flatMap g|[],_=>rfl|x::l,h=>by rw[bR,bR,h x (aT ..),nS fun y c=>h y (aO _ c)]
theorem xA:∀(E:List (Nat×Nat)) (d:List Nat),yf d E->Later t d E->∀i,i∉d->∀a b,1<=a->1<=b->E.length<=a->E.length<=b->Ks t a i=Ks t b i
 |[],d,hg,hl,i,e,a,b,h,l,_,_=>by obtain⟨a,rfl⟩:∃k,a=k+1:=⟨a-1,by lia⟩;obtain⟨b,rfl⟩:∃k,b=k+1:=⟨b-1,by lia⟩;rw[pU,pU,(List.eq_nil_iff_forall_not_mem.mpr fun j z=>nomatch (Ba hl e j).mp z)];rfl
 |(x,p)::E,d,⟨h1,q,g⟩,hl,i,e,a,b,r,s,h,l=>by
  dsimp only[aK] at h l;have m:=hl.next h1;by_cases c:i=x
  .subst c;obtain⟨a,rfl⟩:∃k,a=k+1:=⟨a-1,by lia⟩;obtain⟨b,rfl⟩:∃k,b=k+1:=⟨b-1,by lia⟩;dsimp only[pU,pU];congr 1;refine nS fun j n=> ?_;have f:(j,i)∈E:=by
    rcases aZ.mp ((Ba hl e j).mp n) with z|z
    .have o:i=p:=congrArg oR z;exact az (o▸h1) e
    .exact z
   have u:=l5 f;exact xA E (i::d) g m j (tD g _ f) a b (by lia) (by lia) (by lia) (by lia)
  .exact xA E (x::d) g m i (fun z=>by rcases aZ.mp z with z|z;exact c z;exact e z) a b (by lia) (by lia) (by lia) (by lia)
def sA(hs:List Hole)(i:Nat):List Nat:=Ks (Vbpcak.tree hs) (hs.length+1) i
theorem RJ(hs:List Hole):(Vbpcak.tree hs).length=hs.length:=by rw[(iQ hs).2.length_eq];simp
theorem qF(hs:List Hole)(i:Nat):sA hs i=i::(kids (Vbpcak.tree hs) i).flatMap (sA hs):=by unfold sA;rw[pU];congr 1;refine nS fun j b=> ?_;have hg:=uQ hs;have a:=(wo _ _ _).mp b;have hl:=RJ hs;have:=l5 a;exact xA _ [0] hg (fun _ _=>rfl) j (tD hg (j,i) a) _ _ (by lia) (by simp) (by lia) (by lia)
theorem HW(hs:List Hole)(i:Nat):kids (Vbpcak.tree hs) i=((List.range hs.length).filter fun k=>par hs k==i).map (· +1):=by
 refine Eu _ _ (DJ _ _) ?_ fun y=> ?_
 .rw[gj];refine(IA.filter _).imp fun h=> ?_;lia
 .rw[wo,(iQ hs).2.mem_iff];simp only[bK,b_,bU,dC,beq_iff_eq];constructor
  .rintro⟨k,h1,a,b⟩;exact⟨k,⟨h1,b⟩,a⟩
  .rintro⟨k,⟨h1,b⟩,a⟩;exact⟨k,h1,a,b⟩
theorem Yx(hs:List Hole)(k:Nat)(hk:k<hs.length):par hs k<=hs.length:=by
 have gen:∀(E:List (Nat×Nat)) (b:List Nat),yf b E->∀e∈E,e.2∈b\/∃f∈E,f.1=e.2:=fun E=>by
  induction E with
  |nil=>intro b _ e a;cases a
  |cons x E d=>
   obtain⟨i,p⟩:=x;rintro b ⟨h1,j,g⟩ e a;rcases aZ.mp a with rfl|a
   .exact .inl h1
   .rcases d _ g e a with z|⟨f,c,z⟩
    .rcases aZ.mp z with z|z
     .exact .inr ⟨_,aT ..,z.symm⟩
     .exact .inl z
    .exact .inr ⟨f,aO _ c,z⟩
 rcases gen _ _ (uQ hs) _ ((iQ hs).2.mem_iff.mpr (bK.mpr ⟨k,bU.mpr hk,Z⟩)) with z|⟨f,c,z⟩
 .simp_all
 .obtain⟨q,h,rfl⟩:=bK.mp ((iQ hs).2.mem_iff.mp c);have:=bU.mp h;simp at z;lia
theorem filter_or{b:Type}(p q:b->Bool):∀(l:List b),(∀x∈l,p x=af->q x=ag)->(l.filter fun x=>p x||q x).Perm (l.filter p++l.filter q)|[],_=>List.Perm.nil|x::l,h=>by have a:=filter_or p q l fun y c=>h y (aO _ c);rw[iA,iA,iA];cases d:p x with|true=>exact(h x (aT ..) d)▸(a.cons x)|false=>cases e:q x with|false=>exact a|true=>exact(a.cons x).trans zr.symm
theorem DK(t:List (Nat×Nat))(i:Nat)(hd:((t.filter fun e=>e.2==i).map fun e=>e.1).Nodup):(kids t i).Perm ((t.filter fun e=>e.2==i).map fun e=>e.1):=by refine(oS ((DJ t i).imp b9) hd).mpr fun j=> ?_;rw[wo];simp
theorem sD:∀{E:List (Nat×Nat)} {a:List Nat},yf a E->(E.map gC).Nodup|[],_,_=>fh|(i,p)::E,a,⟨h1,d,b⟩=>by rw[b5];refine c8.mpr ⟨fun z=> ?_,sD b⟩;obtain⟨e,c,z⟩:=bK.mp z;exact tD b e c (z▸aT ..)
theorem DL(hs:List Hole):∀(E:List (Nat×Nat)) (a:List Nat),yf a E->Later (Vbpcak.tree hs) a E->(((E.filter fun e=>ah (e.2∈a)).map gC).flatMap (sA hs)).Perm (E.map gC)
 |[],a,_,_=>List.Perm.nil
 |(i,p)::E,a,⟨h1,b,d⟩,hl=>by
  have f:(kids (Vbpcak.tree hs) i).Perm ((E.filter fun e=>e.2==i).map gC):=by
   have g:(Vbpcak.tree hs).filter (fun e=>e.2==i)=E.filter fun e=>e.2==i:=by rw[hl i b,iA,ak];intro z;exact b (eq_of_beq z▸h1)
   have:=DK (Vbpcak.tree hs) i (by exact g▸((List.Sublist.map _ NN).nodup (sD d)))
   simp_all
  rw[iA,ai (au h1),b5,bR,qF,b5,iy];refine List.Perm.cons i (L9 ?_ (DL hs E (i::a) d (hl.next h1)));rw[<-cV];refine List.Perm.flatMap_right _ ?_;have h:(E.filter fun e=>ah (e.2∈i::a))=E.filter fun e=>(e.2==i)||decide (e.2∈a):=pX fun e _=>by
   by_cases c:e.2=i
   .simp[c]
   .rw[(beq_eq_false_iff_ne.mpr c),FP];exact decide_eq_decide.mpr (by simp[c])
  rw[h];refine(f.append_right _).trans ?_;rw[<-a_];refine List.Perm.map _ (filter_or (fun e:Nat×Nat=>e.2==i) (fun e=>ah (e.2∈a)) E fun e _ z=>aw fun y=>b (eq_of_beq z▸y)).symm
theorem DM(hs:List Hole):(Vbpcak.walk hs).Perm (List.range hs.length):=by
 have hg:=uQ hs;have b:(Vbpcak.walk hs)=(((kids (Vbpcak.tree hs) 0).flatMap (sA hs)).map (· -1)):=by show((sA hs 0).drop 1).map _=_;rw[qF];rfl
 have a:=DK (Vbpcak.tree hs) 0 ((List.Sublist.map _ NN).nodup (sD hg));have c:((Vbpcak.tree hs).filter fun e=>e.2==0)=(Vbpcak.tree hs).filter fun e=>ah (e.2∈[0]):=pX fun e _=>by grind
 rw[c] at a;rw[b];refine(((a.flatMap_right (sA hs)).trans (DL hs _ [0] hg (fun _ _=>rfl))).map (· -1)).trans ?_;have:=(((iQ hs).2.map gC).map (· -1));refine this.trans ?_;rw[dI,dI];show(List.map (fun i=>i+1-1) _).Perm _;simp
end
end D
namespace D
open PySem PySem.Spec PyProof.Rows L2
variable {P0:b7} {w0:cW} {K:aM} {b0:Heap} {m0:Str->Option bj} (Y:Txt P0 w0 K b0 m0)
section
open Vbpcak (Hole State leastBy node way)
section
def JY:Pos:=match oF (top 130) with|[.Return (some (.Call _ _ [⟨_, .Lambda _ _ _ p,_⟩] _)) _]=>p|_=>⟨0,0,0,0⟩
def Fi:Str:=(envOfC "nearest_left" (fZ (top 130)) 0 0 .none).qual++"<lambda>"
abbrev Fj(Pt:Addr)(H:Hp):Prop:=Tb JY Fi Pt H
structure JL(H:Hp) j(js:List Addr) J:Prop where
 lst:H j=aa (.lst (js.map V.ref))
 at_:Paired (fun a (q:Nat×Nat)=>H a=aa (.tup [.int q.1, .int q.2])) js J
theorem JL.same(h:JL H j js J)(e:cI H H'):JL H' j js J:=⟨e _ _ h.lst,h.at_.mono fun _ _ q=>e _ _ q⟩
theorem JL.len(h:JL H j js J):js.length=J.length:=h.at_.length
theorem yg(f:Nat->Nat):∀(ns:List Nat) (i n:Nat),ns[i]? =aa n->(∀b a,ns[b]? =aa a->f n<=f a/\(b<i->f n<f a))->iD f ns=aa n
 |[],i,n,h,_=>by simp at h
 |x::r,0,n,h,hl=>by
  have e:x=n:=by simpa using h
  subst e;dsimp only[iD];cases q:iD f r with|none=>rfl|some j=>obtain⟨k,hk⟩:=kC (M.fB _ _ _ q);have:=(hl (k+1) j (by exact hk)).1;show(if f j<f x then aa j else aa x)=aa x;rw[ak (by lia)]
 |x::r,i+1,n,h,hl=>by
  have c:=yg f r i n (by exact h) fun b a z=>by have:=hl (b+1) a (by exact z);exact⟨this.1,fun y=>this.2 (by lia)⟩
  rw[iD,c];show(if f n<f x then aa n else aa x)=aa n;rw[ai ((hl 0 x Z).2 (kR _))]
inductive abu Pt H(Q:VK):List V->Prop|mk:∀j l js ns J,(H l=aa (.lst (nv ns)))->(JL H j js J)->(ns≠[])->((∀n∈ns,n<J.length))->(Fj Pt H)->(∀H' n,Et JY Fi Pt H H'->iD (fun n=>(J.getD n (0,0)).1) ns=aa n->Q (.int n) H')->abu Pt H Q [.ref j, .ref l]
theorem yO:Ok Y 3 130 (abu Pt):=by
 refine Y.oc ?_;rintro f A outer st H vs Q nd d ⟨j,l,js,ns,J,hl,b,e,g,h,k⟩;refine⟨_,(cy (MJ Y.mk0 Z rfl d Z rfl (pv 1) Z Y.nn Z rfl rfl rfl rfl rfl rfl (fun _ _ _ _ _ _=>rfl))),?_⟩;refine⟨j,l,js,ns,fun n=>((J.getD n (0,0)).1),Z,hl,b.lst,e,fun n hn=> ?_,h,fun H' i n m hn o=> ?_⟩
 .have c:=g n hn;obtain⟨a,p,q⟩:=jX b.at_ (aP c);refine⟨a,[.int (J[n].2)],p,?_⟩;rw[q,bh,aP c];rfl
 .refine k H' n m (yg _ ns i n hn fun r s z=> ?_);have:=o r s z;exact⟨by lia,fun y=>by have:=this.2 y;lia⟩
theorem Et.keep(t:Et JY Fi Pt H H'):fk H H' [Pt]:=by
 rcases t with rfl|⟨c,h1,a,rfl⟩
 .exact fun _ _ e _=>e
 .exact fun q o e n=>by rwa [aL (aS e a),aL (fun z=>n (by simp[z]))]
theorem Tb.same(h:Fj Pt H)(e:cI H H'):Fj Pt H':=by
 rcases h with h|⟨c,h1,a⟩
 .exact .inl (e _ _ h)
 .exact .inr ⟨c,e _ _ h1,e _ _ a⟩
theorem Tb.is(h:Fj Pt H):∃ps,H Pt=aa (.kX ps):=by
 rcases h with h|⟨c,h1,a⟩
 .exact⟨_,h⟩
 .exact⟨_,h1⟩
theorem Tb.ne(h:Fj Pt H)(e:H a=aa o)(hn:∀ps,o≠ .kX ps):a≠Pt:=by obtain⟨ps,b⟩:=h.is;exact dE e b (hn ps)
theorem Tb.upd(h:Fj Pt H)(e:H a=aa o)(hn:∀ps,o≠ .kX ps)(f:∀c q,o≠GZ c q):Fj Pt (upd H a o'):=by
 have b:=h.ne e hn;rcases h with h|⟨c,h1,d⟩
 .exact .inl (by rw[aL (bF b)];exact h)
 .exact .inr ⟨c,by rw[aL (bF b)];exact h1,by rw[aL (dE d e fun z=>f _ _ z.symm)];exact d⟩
theorem HL.HX(h:HL K H lh as hs)(k:fk H H' [Pt])(t:Fj Pt H):HL K H' lh as hs:=by
 obtain⟨ps,c⟩:=t.is;refine⟨k _ _ h.lst (by simpa using t.ne h.lst (by intro ps z;cases z)),h.at_.mono fun a g q=>vR k (fun x d u b e=> ?_) q⟩;rw[a0.mp d,c] at b;cases b
 exact⟨(by intro z;cases z),(by intro o z;cases z)⟩
structure LM Pt(H H'):Prop where
 k:fk H H' [Pt]
 t:Fj Pt H'
theorem ac2(a b x y:Nat):HT.lexLt [(a:Int),(x:Int)] [(b:Int),(y:Int)]=ah (a<b\/(a=b/\x<y)):=by
 dsimp only[HT.uw,HT.uw,HT.tZ];by_cases c1:a=b
 .subst c1;rw[ai Z];by_cases c:x=y
  .subst c;rw[ai Z];exact(aw (by simp)).symm
  .rw[ak (by lia)];exact decide_eq_decide.mpr (by simp)
 .rw[ak (by lia)];exact decide_eq_decide.mpr (by lia)
theorem JZ(hs:List Hole)(x i:Nat)(q:Nat×Nat):(if HT.lexLt [((way (node hs x) (node hs i):Nat):Int),(x:Int)] [(q.1:Int),(q.2:Int)]=af then(way (node hs x) (node hs i),x) else q)=closer hs x i q:=by
 unfold closer;rw[ac2];by_cases c:way (node hs x) (node hs i)<q.1\/(way (node hs x) (node hs i)=q.1/\x<q.2)
 .rw[ai (au c),ai c]
 .rw[ak (by rw[decide_eq_true_iff];exact c),ak c]
theorem Bb{c d:Type}{F:c->d->Prop}:∀{l:List c} {m:List d} (i:Nat) {a:c} {b:d},Paired F l m->F a b->Paired F (l.set i a) (m.set i b)|_,_,_,_,_, .nil,_=> .nil|_,_,0,_,_, .cons f r,h=> .cons h r|_,_,i+1,_,_, .cons f r,h=> .cons f (Bb i r h)
theorem mapIdx_set{a:Type}(J:List a)(t:Nat)(g:Nat->a->a)(S:List Nat)(x:Nat)(q:a)(b:J[x]? =aa q)(hn:x∉S):(J.mapIdx fun k v=>if k∈S++[x] then g k v else v)=(J.mapIdx fun k v=>if k∈S then g k v else v).set x (g x q):=by
 refine fF fun i=> ?_;rw[i5,yt];by_cases c:x=i
 .subst c;obtain⟨h1,e⟩:=aV.mp b;rw[ai Z,lB,ai h1,b,fI,ai (by simp)]
 .rw[ak c,i5];congr 1;funext v;have:i∈S++[x]↔i∈S:=by simp[bF c]
  by_cases d:i∈S
  .rw[ai d,ai (this.mpr d)]
  .rw[ak d,ak fun z=>d (this.mp z)]
inductive abv K Pt H(Q:VK):List V->Prop|mk:∀lh as hs,(HL K H lh as hs)->(hs.length<=50)->(Fj Pt H)->(∀p js H',H p=ae->LM Pt H H'->JL H' p js (gz hs)->Q (.ref p) H')->abv K Pt H Q [.ref lh]
theorem xB(hs:List Hole)(i:Nat):node hs (i+1)=(bb hs i).pt:=rfl
theorem uf:Ok Y 4 131 (abv K Pt):=by
 refine Y.okN ["holes","hole","joins","left","number","other"] ?_;rintro _ H _ Q nd T ⟨lh,as,hs,hl,hlen,hT,k⟩;have mw:(as.map V.ref).length=hs.length:=by rw[aE,hl.len]
 refine⟨_,(aI (slc 2 [("hole",1)] (eM (pv 0)) (cJ 1) iu (nG (aR (cP (Ey Y) T.mono (aR (pK Y.rr) (cO (pv 1)))) (cO aY)))) (aI (bB 3 (qp Z rfl Y.nn Z Y.nn (cO (dZ Y.nn (pv 0))))) (aI (lD gf (je (pv 3) (fun _=>rfl)) (aI (bB 4 (cP (yO Y) T.mono (aR (pv 2) (cO (pv 3))))) (aI (cQ (fV aX Ct Cu C3 (pv 3) (cO (pv 4)))) (b6 (fT (eM (pv 3)) (cJ 5) (b6 (Oj (ja (Jk Z T.units) Z Y.nn (by rfl) (aR (bM bP (pv 2) (pv 5)) (cO (nG (aR (cP (Ey Y) T.mono (aR (bM bP (pv 0) (pv 4)) (cO (bM bP (pv 0) (pv 5))))) (cO (cu dJ (pv 4) aY))))))) (Oi (pv 2) (pv 5) set_list (fun _=>rfl))))))))) (cy (pv 2))))),?_⟩;refine⟨lh,Z,⟨_, .of hl.lst⟩,fun p U=> ?_⟩;refine i9 (fun i H'=>cI H H'/\∃js,JL H' p js ((List.range i).map fun i=>(way (node hs 0) (node hs (i+1)),0))) ⟨aN U,[],aH, .nil⟩ (fun i H' _ q=> .of (q.1 _ _ hl.lst)) ?_ ?_
 .rintro i x H' w ⟨hS,js,b⟩;obtain⟨a,ha,rfl⟩:=hU w;obtain⟨g,hg,JG⟩:=dj hl.at_ ha;have BN:=(aV.mp hg).1;refine⟨Z,?_⟩;refine⟨nK,a,H0,g,Y.hh.is _,fj hS JG,zl,fun q tN=> ?_⟩;have np:=(aS b.lst tN).symm;refine⟨_,(aL (bF np)).trans b.lst,?_,cD (hS.trans (aN tN)) U,js++[q],?_,?_⟩
  .rw[aE,b.len,aE,bG];exact bN (show i<51 by lia) (by decide)
  .rw[aH,a_];rfl
  .rw[de,a_];refine j0 (b.at_.mono fun a z y=> ?_) (.cons ?_ .nil)
   .rw[aL (dE y b.lst (by intro z;cases z)),aL (aS y tN)];exact y
   .rw[aL np,aH];dsimp only;rw[xB];have e:bb hs i=g:=by unfold bb;rw[bh,hg];rfl
    rw[e];rfl
 .rintro H1 ⟨iw,js1,RK⟩;rw[mw] at RK;refine⟨lh,_,Z, .inl (.of (iw _ _ hl.lst)),hs.length,by rw[mw],by lia,fun q b=> ?_⟩;have Zs:=(aS RK.lst b).symm;have fH:=iw.trans (aN (o:= .lst (nv (List.range hs.length))) b);dsimp only[pF,uq];refine lE (fun l H'=>E5 fun(J:List (Nat×Nat)) (js:List Addr) (left:List Nat) (v4 B:Option V)=>A8 (grow hs left.length J left=gz hs) left.Nodup ((∀i∈left,i<hs.length)) (J.length=hs.length) (JL H' p js J) (H' q=aa (.lst (nv left))) (LM Pt H H') (l=[aa (.ref lh),ae,aa (.ref p),aa (.ref q),v4,B])) (fun l H'=>match H' q with|some (.lst xs)=>xs.length|_=>0) ?_ ?_ ?_
  .refine⟨_,js1,List.range hs.length,ae,ae,by rw[bG];rfl,dS,fun i w=>bU.mp w,by simp,RK.same (aN b),aH,⟨fk.of fH,hT.same fH⟩,Z⟩
  .rintro l H' ⟨J,js,left,v4,B,Vv,Su,gm,A,C,W,X,rfl⟩;refine⟨_, .inl ⟨_, .of W,Z⟩,?_⟩
   cases K2:left with
   |nil=>subst K2;have e:J=gz hs:=Vv;rw[e] at C;exact k p js H' U X C
   |cons x r=>
    refine⟨p,q,js,left,J,W,C,by rw[K2];exact List.cons_ne_nil _ _,fun n hn=>by rw[A];exact gm n hn,X.t,fun H2 m d hm=> ?_⟩;have jb:=M.fB _ _ _ hm;have D:LM Pt H H2:=⟨X.k.trans d.keep,d.tb X.t⟩;have nQ:=d.get W (by intro ps z;cases z);have E:JL H2 p js J:=⟨d.get C.lst (by intro ps z;cases z),C.at_.mono fun a z y=>d.get y (by intro ps z;cases z)⟩;refine⟨.inl ⟨Z,_, .of nQ⟩,q,_,(m:Int),Z,Z,by rw[<-oM];exact nQ,bK.mpr ⟨m,jb,Z⟩,?_⟩;rw[Hh,<-oM,M.erase_filter _ _ Su];generalize hR:(left.filter fun j=>ah (j≠m))=R;have F:∀i∈R,i<hs.length:=fun i w=>by rw[<-hR] at w;exact gm i (b_.mp w).1
    have G:R.Nodup:=by rw[<-hR];exact Su.filter _
    have hRl:R.length+1=left.length:=by rw[<-hR];exact M.ij left m Su jb
    refine⟨q,Z,⟨_, .of aH⟩,iJ (K:=K) (a:=q) (xs:=nv R) (fun i l H'=>E2 fun(js:List Addr) (B:Option V)=>A4 (JL H' p js (J.mapIdx fun k v=>if k∈R.take i then closer hs (m+1) (k+1) v else v)) (H' q=aa (.lst (nv R))) (LM Pt H H') (l=[aa (.ref lh),ae,aa (.ref p),aa (.ref q),aa (.int (m:Int)),B])) ⟨js,B,?_,aH,⟨fun x o e n=>by rw[aL (aS e (iw.free b))];exact D.k x o e n,D.t.upd nQ (by intro ps z;cases z) (by intro c y z;cases z)⟩,Z⟩ (by rintro i l H' _ ⟨_,_,_,e,_,_⟩;exact .of e) ?_ ?_⟩
    .have e:(J.mapIdx fun k v=>if k∈R.take 0 then closer hs (m+1) (k+1) v else v)=J:=by refine fF fun i=> ?_;rw[i5];cases J[i]? <;>simp
     rw[e];exact⟨(aL (bF Zs)).trans E.lst,E.at_.mono fun a z y=>(aL (dE y nQ (by intro z;cases z))).trans y⟩
    .rintro i v l I w ⟨s,v5',f,L,h,rfl⟩;obtain⟨o,ho,rfl⟩:=o7 w;have Ek:o<hs.length:=F o (bC ho);have Le:=hl.HX h.k hT;have ac3:(J.mapIdx fun k v=>if k∈R.take i then closer hs (m+1) (k+1) v else v).length=hs.length:=by rw[lB,A]
     have Ir:o∉R.take i:=fun z=>by have N:=G.sublist (ym (i+1) R);rw[take_snoc ho] at N;exact(hG.mp N).2.2 o z o (a0.mpr Z) Z
     obtain⟨am,ham,hgm⟩:=Le.get (gm m jb);obtain⟨ao,hao,hgo⟩:=Le.get Ek;have O:J[o]? =aa J[o]:=aP (by lia);have ac4:(J.mapIdx fun k v=>if k∈R.take i then closer hs (m+1) (k+1) v else v)[o]? =aa J[o]:=by rw[i5,O,fI,ak Ir]
     obtain⟨aj,haj,P⟩:=jX f.at_ ac4;refine⟨p,_,_,_,Z,Z, .of f.lst,cB (j:=o) (v:= .ref aj) (by rw[bp,haj];rfl),?_⟩;refine⟨lh,_,_,_,Z,Z, .of Le.lst,cB ham,lh,_,_,_,Z,Z, .of Le.lst,cB hao,am,ao,_,_,hgm,hgo,?_⟩;refine⟨_,_,Z,Z,zl,fun t ht=> ?_⟩;have u:=(aN (o:= .tup [.int ((way (bb hs m).pt (bb hs o).pt:Nat):Int), .int ((m:Int)+1)]) ht);refine⟨aj,t,[(J[o].1:Int),(J[o].2:Int)],[((way (bb hs m).pt (bb hs o).pt:Nat):Int),(m:Int)+1],Z, .of (u _ _ P), .of aH,?_⟩;have ntp:t≠p:=(aS f.lst ht).symm;have ntq:t≠q:=(aS L ht).symm;refine⟨p,_,_,o,Z,Z,u _ _ f.lst,?_,?_⟩
     .rw[aE,f.len,ac3];unfold NO;rw[ai (by lia),ai (by lia)];rfl
     have xS:=JZ hs (m+1) (o+1) J[o];rw[xB,xB,show((m+1:Nat):Int)=(m:Int)+1 from rfl] at xS;generalize Mz:(if HT.lexLt [((way (bb hs m).pt (bb hs o).pt:Nat):Int),(m:Int)+1] [(J[o].1:Int),(J[o].2:Int)]=af then t else aj)=ab;have hup:upd I t (.tup [.int ((way (bb hs m).pt (bb hs o).pt:Nat):Int), .int ((m:Int)+1)]) ab=aa (.tup [.int ((closer hs (m+1) (o+1) J[o]).1:Int), .int ((closer hs (m+1) (o+1) J[o]).2:Int)]):=by
      rw[<-xS,<-Mz];split
      .exact aH
      .exact u _ _ P
     refine⟨s.set o ab,_,?_,?_,⟨fun x z e n=> ?_,?_⟩,Z⟩
     .rw[take_snoc ho,mapIdx_set J i (fun k v=>closer hs (m+1) (k+1) v) (R.take i) o J[o] O Ir];refine⟨by rw[aH,List.map_set],?_⟩;have S:∀a (y:Nat×Nat),upd I t (.tup [.int ((way (bb hs m).pt (bb hs o).pt:Nat):Int), .int ((m:Int)+1)]) a=aa (.tup [.int (y.1:Int), .int (y.2:Int)])->upd (upd I t (.tup [.int ((way (bb hs m).pt (bb hs o).pt:Nat):Int), .int ((m:Int)+1)])) p (.lst ((s.map V.ref).set o (.ref ab))) a=aa (.tup [.int (y.1:Int), .int (y.2:Int)]):=fun a y z=>by rw[aL (dE z (u _ _ f.lst) (by intro z;cases z))];exact z
      exact Bb o (f.at_.mono fun a y z=>S a y (u _ _ z)) (S ab _ hup)
     .rw[aL Zs];exact u _ _ L
     .rw[aL (aS e U)];exact u _ _ (h.k x z e n)
     .exact(h.t.same u).upd (u _ _ f.lst) (by intro ps z;cases z) (by intro c y z;cases z)
    .rintro l I ⟨s,v5',f,L,h,rfl⟩;rw[(cZ R),cR] at f;refine⟨⟨_,s,R,_,_,?_,G,F,by rw[lB,A],f,L,h,Z⟩,?_⟩
     .rw[<-Vv,<-hRl];show _=grow hs (R.length+1) J left;rw[grow,hm];dsimp only;rw[hR]
     .show(match I q with|some (.lst xs)=>xs.length|_=>0)<(match H' q with|some (.lst xs)=>xs.length|_=>0);rw[L,W];show(nv R).length<(nv left).length;rw[cZ,cZ];lia
  .rintro l H' Q1 Q2 b z;obtain⟨v,e,k',tr,q⟩:=FW z;exact CG e ⟨k',tr,b _ _ q⟩
end
end
section
open Vbpcak (Hole State leastBy node way)
structure CL(H:Hp) p(cs:List Addr) L:Prop where
 lst:H p=aa (.lst (cs.map V.ref))
 at_:Paired (fun a l=>H a=aa (.lst (nv l))) cs L
 nd:cs.Nodup
 np:p∉cs
theorem CL.same(h:CL H p cs L)(e:cI H H'):CL H' p cs L:=⟨e _ _ h.lst,h.at_.mono fun _ _ q=>e _ _ q,h.nd,h.np⟩
theorem CL.len(h:CL H p cs L):cs.length=L.length:=h.at_.length
def kG(J:List (Nat×Nat))(t i:Nat):List Nat:=((List.range t).filter fun k=>(J.getD k (0,0)).2==i).map (· +1)
theorem J0(J:List (Nat×Nat))(t i:Nat):(kG J t i).length<=t:=by unfold kG;rw[aE];have:=dz (fun k=>(J.getD k (0,0)).2==i) (List.range t);rw[bG] at this;exact this
theorem yh(h:J[t]? =aa q)(i:Nat):kG J (t+1) i=if q.2=i then kG J t i++[t+1] else kG J t i:=by
 unfold kG;rw[de,fi,a_];have e:(J.getD t (0,0))=q:=by rw[bh,h];rfl
 by_cases c:q.2=i
 .rw[ai c];congr 1;rw[iA,e,ai (by simp[c])];rfl
 .rw[ak c,iA,e,ak (by simp[c])];exact bZ _
theorem qG{c d:Type}{F G:c->d->Prop}:∀{l:List c} {m:List d},Paired F l m->(∀a b,a∈l->F a b->G a b)->Paired G l m|_,_, .nil,_=> .nil|_,_, .cons f r,h=> .cons (h _ _ (aT ..) f) (qG r fun a b e=>h a b (aO _ e))
theorem CL.set(h:CL H p cs L)(d:cs[i]? =aa a)(l:List Nat):CL (upd H a (.lst (nv l))) p cs (L.set i l):=by
 refine⟨by rw[aL (bF (fun z=>h.np (z▸bC d):a≠p))];exact h.lst,?_,h.nd,h.np⟩;have gen:∀(c:List Nat) (cs:List Addr) (L:List (List Nat)) (i:Nat),Paired (fun a (l:List Nat)=>H a=aa (.lst (nv l))) cs L->cs.Nodup->cs[i]? =aa a->Paired (fun b (l:List Nat)=>upd H a (.lst (nv c)) b=aa (.lst (nv l))) cs (L.set i c):=fun c cs L i g=>by
  induction g generalizing i with
  |nil=>intro _ h;simp at h
  | @cons x y xs ys f r j=>
   intro hn h;obtain⟨h1,k⟩:=c8.mp hn
   cases i with
   |zero=>
    have e:x=a:=by simpa using h
    subst e;refine .cons aH (qG r fun b z m q=> ?_);rwa [aL (show b≠x from fun z=>h1 (z▸m))]
   |succ i=>
    have h':xs[i]? =aa a:=by exact h
    refine .cons ?_ (j i k h');rwa [aL (show x≠a from fun z=>h1 (z▸bC h'))]
 exact gen l cs L i h.at_ h.nd d
section
inductive abx H(Q:VK):List V->Prop|mk:∀j js J,(JL H j js J)->(J.length<=50)->((∀q∈J,q.2<=J.length))->(∀p cs H',H p=ae->(∀c∈cs,H c=ae)->cI H H'->CL H' p cs ((List.range (J.length+1)).map (kG J J.length))->Q (.ref p) H')->abx H Q [.ref j]
theorem wq:Ok Y 1 132 abx:=by
 refine Y.ok ?_;rintro _ H _ Q nd hr ⟨j,js,J,h,L,v,k⟩;have r:(js.map V.ref).length=J.length:=by rw[aE,h.len]
 refine⟨_,(aI (slc 2 [("number",1)] (ke Z Y.nn (cO (cu dJ (dZ Y.nn (pv 0)) aY))) (cJ 1) iu (cT gW)) (aI (fT (GY Z Y.nn (cO (pv 0))) (D8 Z (kK (cJ 1) (kK (cJ 3) vo))) (b6 (cQ (fV aX bu bw df (bM bP (pv 2) (bM di (pv 3) aY)) (cO (pv 1)))))) (cy (pv 2)))),?_⟩;refine⟨j,_,Z, .inl (.of h.lst),_,_,Z,Z,_,Z,by rw[r];lia,by rw[r];lia,fun p A=> ?_⟩;have S:(((js.map V.ref).length:Int)+1).toNat=J.length+1:=by rw[r];lia
 rw[S];refine zZ (fun i H'=>cI H H'/\∃cs,CL H' p cs ((List.range i).map fun _=>[])/\∀c∈cs,H c=ae) ⟨aN A,[],⟨aH, .nil,fh,dD⟩,fun _ z=>nomatch z⟩ ?_ ?_
 .rintro i H' M ⟨g,cs,d,s⟩;refine⟨Z,?_⟩;refine⟨zl,fun q f=> ?_⟩;have B:=(aS d.lst f).symm;have m:q∉cs:=fun z=>by obtain⟨t,T⟩:=kC z;obtain⟨l,_,hl⟩:=dj d.at_ T;rw[hl] at f;cases f
  refine⟨_,(aL (bF B)).trans d.lst,?_,cD (g.trans (aN f)) A,cs++[q],⟨by rw[aH,a_];rfl,?_,?_,?_⟩,fun c z=> ?_⟩
  .rw[aE,d.len,aE,bG];exact bN (show i<52 by lia) (by decide)
  .rw[de,a_];refine j0 (qG d.at_ fun a l z y=> ?_) (.cons ?_ .nil)
   .rwa [aL (show a≠p from fun w=>d.np (w▸z)),aL (show a≠q from fun w=>m (w▸z))]
   .rw[aL B,aH];rfl
  .refine hG.mpr ⟨d.nd,by simp,fun a C b U=> ?_⟩;rw[a0.mp U];exact fun w=>m (w▸C)
  .intro w;rcases cN.mp w with w|w
   .exact d.np w
   .exact B (a0.mp w).symm
  .rcases cN.mp z with z|z
   .exact s c z
   .rw[a0.mp z];exact g.free f
 .rintro H1 ⟨N,cs,W,s⟩;refine⟨j,_,Z, .of (h.same N).lst,C_ (fun i u H'=>E2 fun D E=>A3 (cI H H') (CL H' p cs ((List.range (J.length+1)).map (kG J i))) (u=[aa (.ref j),D,aa (.ref p),E])) ⟨ae,ae,N,?_,Z⟩ (by rintro i u H' _ ⟨_,_,g,_,_⟩;exact .of (g _ _ h.lst)) ?_ ?_⟩
  .exact W
  .rintro i x u H' X M ⟨D,E,g,d,rfl⟩ O;obtain⟨a,C,rfl⟩:=hU M;obtain⟨q,f,F⟩:=dj h.at_ C;have BN:=(aV.mp f).1;have nQ:=v q (bC f);have P:=g.trans (aN (o:= .tup [.int ((i+1:Nat):Int), .ref a]) O);have G:=d.same (aN (o:= .tup [.int ((i+1:Nat):Int), .ref a]) O);have I:((List.range (J.length+1)).map (kG J i))[q.2]? =aa (kG J i q.2):=by rw[bp,d7 (by lia)];rfl
   obtain⟨c,K,R⟩:=jX G.at_ I;refine⟨X,_,Z, .of aH,Z,_,_,Z,_,_,Z,Z,?_⟩;refine⟨a,_,_,_,Z,Z, .of (P _ _ F),Z,p,_,_,_,Z,Z, .of G.lst,cB (by rw[bp,K];rfl),?_⟩;refine⟨.inl ⟨Z,_, .of R⟩,c,_,_,Z,Z,R,?_,?_⟩
   .rw[cZ];have:=J0 J i q.2;exact bo (show(kG J i q.2).length<=50 by lia) (by decide)
   .refine⟨_,_,cD P (s c (bC K)),?_,Z⟩;have n:=G.set K (kG J i q.2++[i+1]);have e:((List.range (J.length+1)).map (kG J i)).set q.2 (kG J i q.2++[i+1])=(List.range (J.length+1)).map (kG J (i+1)):=by
     refine fF fun t=> ?_;rw[yt,bp,bp,aE,bG];by_cases c1:q.2=t
     .subst c1;rw[ai Z,ai (by lia),d7 (by lia),fI,yh f,ai Z]
     .rw[ak c1];by_cases c2:t<J.length+1
      .rw[d7 c2,fI,fI,yh f,ak c1]
      .rw[dH (by simp;lia)];rfl
    rw[e,gu] at n;exact n
  .rintro u H' ⟨D,E,g,d,rfl⟩;rw[r] at d;exact k p cs H' A s g d
inductive abz K Pt H(Q:VK):List V->Prop|mk:∀lh as hs,(HL K H lh as hs)->(hs.length<=50)->(Fj Pt H)->(∀p H',H p=ae->LM Pt H H'->H' p=aa (.lst (nv (Vbpcak.walk hs)))->Q (.ref p) H')->abz K Pt H Q [.ref lh]
theorem LM.free(h:LM Pt H H')(a:H' x=ae):H x=none:=by
 cases q:H x with
 |none=>rfl
 |some u=>
  obtain⟨ps,b⟩:=h.t.is;rw[h.k x u q (by intro z;rw[a0.mp z,b] at a;cases a)] at a
  cases a
theorem LM.same(h:LM Pt H H1)(e:cI H1 H2):LM Pt H H2:=⟨h.k.trans (fk.of e),h.t.same e⟩
theorem LM.upd(h:LM Pt H H1)(hn:H a=ae)(e:H1 a=aa (.lst xs)):LM Pt H (upd H1 a o):=⟨fun x z y n=>by rw[aL (aS y hn)];exact h.k x z y n,h.t.upd e (by intro ps z;cases z) (by intro c y z;cases z)⟩
theorem UE(hs:List Hole)(i:Nat):kG (gz hs) hs.length i=kids (Vbpcak.tree hs) i:=by rw[HW];rfl
theorem tE(hs:List Hole):(gz hs).length=hs.length:=by rw[(iQ hs).1];simp
theorem yP:Ok Y 5 133 (abz K Pt):=by
 refine Y.ok ?_;rintro _ H _ Q nd hr ⟨lh,as,hs,hl,A,hT,k⟩;refine⟨_,(aI (bB 1 (cP (wq Y) hr.mono (cO (cP (uf Y) hr.mono (cO (pv 0)))))) (aI (bB 2 (cT gW)) (aI (bB 3 (ux Z rfl Y.nn Z Y.nn (cO (bM bP (pv 1) aY)))) (aI (lD gf (je (pv 3) (fun _=>rfl)) (aI (bB 4 (Ee aX jL jM Ef (pv 3))) (aI (cQ (fV aX bu bw df (pv 2) (cO (cu fK (pv 4) aY)))) (b6 (cQ (fV aX eP eQ l6 (pv 3) (cO (ux Z rfl Y.nn Z Y.nn (cO (bM bP (pv 1) (pv 4))))))))))) (cy (pv 2)))))),?_⟩;refine⟨lh,as,hs,hl,A,hT,fun j js H1 hj0 Sz RK=> ?_⟩;refine⟨j,js,_,RK,by rw[tE];exact A,fun q O=> ?_,fun p cs H2 V7 adI fH E=> ?_⟩
 .rw[(iQ hs).1] at O;obtain⟨t,d,rfl⟩:=bK.mp O;rw[tE];exact Yx hs t (bU.mp d)
 rw[tE] at E;rw[(fD fun i _=>UE hs i)] at E;have Wr:∀{H':Hp} (i:Nat),i<=hs.length->CL H' p cs ((List.range (hs.length+1)).map (kids (Vbpcak.tree hs)))->∃c,(cs.map V.ref)[i]? =aa (.ref c)/\c∈cs/\H' c=aa (.lst (nv (kids (Vbpcak.tree hs) i))):=fun{H'} i hi f=>by obtain⟨c,h1,B⟩:=jX f.at_ (i:=i) (by rw[bp,d7 (by lia)];rfl);exact⟨c,by rw[bp,h1];rfl,bC h1,B⟩
 have Ws:∀i,∀c∈kids (Vbpcak.tree hs) i,1<=c/\c<=hs.length:=fun i c f=>by rw[HW] at f;obtain⟨t,d,rfl⟩:=bK.mp f;have:=bU.mp (b_.mp d).1;lia
 have VN:(Vbpcak.walk hs).length=hs.length:=by rw[(DM hs).length_eq,bG]
 have S:Vbpcak.walk hs=((kids (Vbpcak.tree hs) 0).flatMap (sA hs)).map (· -1):=by unfold Vbpcak.walk;show((sA hs 0).drop 1).map _=_;rw[qF];rfl
 have F:=Sz.same fH;refine⟨zl,fun o ho=> ?_⟩;have G:=F.free ho;have I:=F.same (aN (o:= .lst []) ho);have g:=E.same (aN (o:= .lst []) ho);obtain⟨c0,T,adJ,U⟩:=Wr 0 (cg _) g;refine⟨p,_,_,_,Z,Z, .of g.lst,cB (j:=0) T,c0,_,Z, .of U,fun t d=> ?_⟩;rw[Jw];have Nj:=I.free d;have m:t≠o:=cF aH d;have ab4:∀{a:Addr} {H':Hp} {o:HO},H' a=ae->H' p=aa o->a≠p:=fun h1 B=>(aS B h1).symm;have J:t≠p:=(aS g.lst d).symm;have X:o∉cs:=fun z=>by obtain⟨y,r⟩:=kC z;obtain⟨l,_,hl⟩:=dj E.at_ r;rw[hl] at ho;cases ho
 have L:t∉cs:=fun z=>by obtain⟨y,r⟩:=kC z;obtain⟨l,_,hl⟩:=dj g.at_ r;rw[hl] at d;cases d
 have Yy:∀{H':Hp} {a:Addr} {z:HO},a≠p->a∉cs->CL H' p cs ((List.range (hs.length+1)).map (kids (Vbpcak.tree hs)))->CL (upd H' a z) p cs ((List.range (hs.length+1)).map (kids (Vbpcak.tree hs))):=fun{H' a z} n1 n2 f=>
  ⟨by rw[aL (bF n1)];exact f.lst,qG f.at_ fun b l hb y=>by rw[aL (show b≠a from fun w=>n2 (w▸hb))];exact y,f.nd,f.np⟩
 dsimp only[pF,uq];refine lE (fun P H'=>E3 fun(W ord:List Nat) (v:Option V)=>A7 (ord++(W.flatMap (sA hs)).map (· -1)=Vbpcak.walk hs) ((∀i∈W,1<=i/\i<=hs.length)) (H' t=aa (.lst (nv W.reverse))) (H' o=aa (.lst (nv ord))) (CL H' p cs ((List.range (hs.length+1)).map (kids (Vbpcak.tree hs)))) (LM Pt H H') (P=[aa (.ref lh),aa (.ref p),aa (.ref o),aa (.ref t),v])) (fun P H'=>match H' o with|some (.lst xs)=>100-xs.length|_=>0) ?_ ?_ ?_
 .exact⟨kids (Vbpcak.tree hs) 0,[],ae,S.symm,Ws 0,aH,by rw[aL (bF m)];exact aH,g.same (aN (o:= .lst (nv (kids (Vbpcak.tree hs) 0).reverse)) d),I.same (aN (o:= .lst (nv (kids (Vbpcak.tree hs) 0).reverse)) d),Z⟩
 .rintro P H' ⟨W,ord,v,s,hW,n,R,f,kt,rfl⟩;refine⟨_, .inl ⟨_, .of n,Z⟩,?_⟩
  cases W with
  |nil=>
   have e:ord=Vbpcak.walk hs:=by rw[<-s];exact(bZ ord).symm
   rw[e] at R;exact k o H' G kt R
  |cons i W=>
   obtain⟨ho1,hi⟩:=hW i (aT ..);have eW:nv (i::W).reverse=nv W.reverse++[.int (i:Int)]:=by rw[dW,gu]
   have Ek:ord.length+1<=hs.length:=by have:=congrArg List.length s;rw[aG,aE,bR,aG,qF,aK,VN] at this;lia
   have M:∀V:List Nat,(V.flatMap (sA hs)).length<=hs.length->V.length<=hs.length:=fun V=>by intro h;refine bY ?_ h;clear h;induction V with|nil=>exact aQ _|cons x V ih=>rw[bR,aG,qF,aK,aK];lia
   rw[eW] at n⊢;have ji:(!(nv W.reverse++[V.int (i:Int)]).isEmpty)=true:=by cases nv W.reverse<;>rfl
   rw[ji];refine⟨.inl ⟨Z,_, .of n⟩,t,_, .int (i:Int),Z,Z,n,?_,?_⟩
   .rw[aG];simp
   rw[gS];have h1:upd H' t (.lst (nv W.reverse)) o=aa (.lst (nv ord)):=(aL (bF m)).trans R;refine⟨.inl ⟨Z,_, .of h1⟩,_,_,Z,Z,o,_,_,Z,Z,h1,?_,?_⟩
   .rw[cZ];exact bo (show ord.length<=50 by lia) (by decide)
   have Yz:=(kt.upd (o:= .lst (nv W.reverse)) Nj n).upd (o:= .lst (nv ord++[.int ((i:Int)-1)])) G h1;have C:=Yy (z:= .lst (nv ord++[.int ((i:Int)-1)])) ((aS E.lst ho).symm) X (Yy (z:= .lst (nv W.reverse)) J L f);have B:upd (upd H' t (.lst (nv W.reverse))) o (.lst (nv ord++[.int ((i:Int)-1)])) t=aa (.lst (nv W.reverse)):=(aL m).trans aH;obtain⟨ci,XG,adK,ac6⟩:=Wr i hi C;refine⟨.inl ⟨Z,_, .of B⟩,p,_,_,_,Z,Z, .of C.lst,cB (j:=i) XG,ci,_,Z, .of ac6,fun u D=> ?_⟩;rw[Jw];have hu0:=Yz.free D;have nut:u≠t:=cF B D;have N:u≠o:=cF aH D;have hcb:(kids (Vbpcak.tree hs) i).length+W.length<=100:=by have h3:=congrArg List.length s;rw[aG,aE,bR,aG,qF,aK,VN] at h3;have h4:=M W (by lia);have h5:=M (kids (Vbpcak.tree hs) i) (by lia);lia
   refine⟨t,u,_,_,Z,Z,(aN D) _ _ B,aH,?_,?_⟩
   .rw[cZ,cZ,dN,dN];exact bY (show W.length+(kids (Vbpcak.tree hs) i).length<=100 by lia) (by decide)
   rw[o8,<-NB];refine⟨⟨kids (Vbpcak.tree hs) i++W,ord++[i-1],_,?_,fun y r=> ?_,aH,?_,Yy J L (C.same (aN D)),(Yz.same (aN (o:= .lst (nv (kids (Vbpcak.tree hs) i).reverse)) D)).upd (o:= .lst (nv (kids (Vbpcak.tree hs) i++W).reverse)) Nj ((aN D) _ _ B),Z⟩,?_⟩
   .rw[<-s,cV,bR,qF,bJ];simp
   .rcases cN.mp r with r|r
    .exact Ws i y r
    .exact hW y (aO _ r)
   .rw[aL (bF m),aL (bF N),aH,gu];rw[show((i-1:Nat):Int)=(i:Int)-1 by lia]
   .have e2:upd (upd (upd (upd H' t (.lst (nv W.reverse))) o (.lst (nv ord++[.int ((i:Int)-1)]))) u (.lst (nv (kids (Vbpcak.tree hs) i).reverse))) t (.lst (nv (kids (Vbpcak.tree hs) i++W).reverse)) o=aa (.lst (nv ord++[.int ((i:Int)-1)])):=by rw[aL (bF m),aL (bF N),aH]
    rw[e2,R];show 100-(nv ord++[V.int ((i:Int)-1)]).length<100-(nv ord).length;rw[aG,cZ];show 100-(ord.length+1)<100-ord.length;lia
 .rintro P H' Q1 Q2 O z;obtain⟨v,e,k',tr,q⟩:=FW z;exact CG e ⟨k',tr,O _ _ q⟩
end
end
section
open Vbpcak (Hole State)
section
def UG(K:aM)(CB CR Pt:Addr)(H:Hp)(b d r dr a lh lo:Addr)(z:Nat)(st:State×kc)(Q:VK):Prop:=
 ∀H' c fs' (mF lu) as',H c=ae->H' c=aa (.lst (st.2.map V.int))->BD K H' CB b st.1 d fs' mF lu as'->RD H' CR r dr a z->(mF=lh\/H mF=ae)->(lu=lo\/H lu=ae)->c≠mF->c≠lu->
  fk H H' [b,lh,lo,r,Pt]->Fj Pt H'->Q (.ref c) H'
inductive UH K(CB CR Pt) c H(Q:VK):List V->Prop|mk:∀b dx r dr a lh lo s fs as ns z,(CE K CB CR H b dx r dr a lh lo s fs as ns z)->(Fj Pt H)->(UG K CB CR Pt H b dx r dr a lh lo z (Vbpcak.step s c) Q)->UH K CB CR Pt c H Q [.ref b, .ref r]
theorem BD.HX{b a lh lo:Addr}(B:BD K H CB b s a fs lh lo as)(k:fk H H' [Pt])(t:Fj Pt H):BD K H' CB b s a fs lh lo as:=by refine⟨k _ _ B.at_ (by simpa using t.ne B.at_ (by intro ps z;cases z)),B.bf,B.hl.HX k t,k _ _ B.ol (by simpa using t.ne B.ol (by intro ps z;cases z)),B.ne,B.wf⟩
theorem Fl:Ok Y 5 169 (UH K CB CR Pt .tree):=by
 refine Y.okN ["board","reader","joins","join"] ?_;rintro _ H _ Q nd S ⟨b,T,r,dr,a,lh,lo,s,fs,as,ns,z,e,l,k⟩;have B:=e.bd;have lH:=B.wf.qk;have U:Vbpcak.step s .tree=(s,((((gz s.holes).map gC).sum:Nat):Int)::Vbpcak.ints ((gz s.holes).map oR)):=by dsimp only[Vbpcak.step];rw[HV,Fh]
 rw[U] at k;have W:=tE s.holes;refine⟨_,(aI (bB 2 (cP (uf Y) S.mono (cO (bS Y.na (pv 0))))) (cy (cu l7 (cT (cO (ja (Xe Z) Z Y.nn (by rfl) (cO (Eo [("join",3)] (eM (pv 2)) (cJ 3) iu (bM i_ (pv 3) aY)))))) (Eo [("join",3)] (eM (pv 2)) (cJ 3) iu (bM i_ (pv 3) aY))))),?_⟩;refine⟨b,CB,T,fs,_,Z,B.at_,Z,B.bf.hl,lh,as,s.holes,B.hl,by lia,l,fun p js X V7 F f=> ?_⟩;have G:(js.map V.ref).length=(gz s.holes).length:=by rw[aE,f.len]
 refine⟨p,Z,⟨_, .of f.lst⟩,fun D I=> ?_⟩;refine i9 (a:=p) (xs:=js.map V.ref) (fun i H'=>cI X H'/\H' D=aa (.lst (nv (((gz s.holes).take i).map gC)))) ⟨aN I,aH⟩ (fun i H' _ q=> .of (q.1 _ _ f.lst)) ?_ ?_
 .rintro i x H' m ⟨h,t⟩;obtain⟨c,v,rfl⟩:=hU m;obtain⟨g,hg,w⟩:=dj f.at_ v;refine⟨Z,?_⟩;refine⟨c,_,_,_,Z,Z, .of (h _ _ w),Z,_,t,?_,cD h I,?_⟩
  .rw[cZ,aE,bA];exact bo (show min i (gz s.holes).length<=50 by lia) (by decide)
  .rw[aH,take_snoc hg,a_,<-o8];rfl
 .rintro H2 ⟨fH,J⟩;rw[G,cR] at J;refine⟨D,_,Z, .of (by rw[<-oM];exact J),zl,fun u hu=> ?_⟩;have y:=fH.trans (aN (o:= .lst [.int ((((gz s.holes).map gC).map fun(n:Nat)=>(n:Int)).sum)]) hu);have d:=f.same y;refine⟨p,Z,⟨_, .of d.lst⟩,fun M N=> ?_⟩;refine i9 (K:=K) (a:=p) (xs:=js.map V.ref) (fun i H'=>cI _ H'/\H' M=aa (.lst (nv (((gz s.holes).take i).map oR)))) ⟨aN N,aH⟩ (fun i H' _ q=> .of (q.1 _ _ d.lst)) ?_ ?_
  .rintro i x H' m ⟨h,t⟩;obtain⟨c,v,rfl⟩:=hU m;obtain⟨g,hg,w⟩:=dj d.at_ v;refine⟨Z,?_⟩;refine⟨c,_,_,_,Z,Z, .of (h _ _ w),Z,_,t,?_,cD h N,?_⟩
   .rw[cZ,aE,bA];exact bo (show min i (gz s.holes).length<=50 by lia) (by decide)
   .rw[aH,take_snoc hg,a_,<-o8];rfl
  .rintro H4 ⟨A,O⟩;rw[G,cR] at O;refine⟨u,M,_,_,Z,Z,A _ _ aH,O,?_,fun pl P=> ?_⟩
   .rw[cZ,aE];exact mq (by simp only[aK,bQ];lia)
   have j:=F.same ((y.trans A).trans (aN (o:= .lst ([V.int ((((gz s.holes).map gC).map fun(n:Nat)=>(n:Int)).sum)]++nv ((gz s.holes).map oR))) P));have C:(((gz s.holes).map gC).map fun(n:Nat)=>(n:Int)).sum=((((gz s.holes).map gC).sum:Nat):Int):=by generalize (gz s.holes).map gC=L;induction L with|nil=>rfl|cons x L ih=>rw[b5,wA,wA,ih];lia
   have E:=F.free ((y.trans A).free P);refine k _ pl fs lh lo as E ?_ (B.HX j.k l) (j.k _ _ e.rd (by simpa using (l.ne e.rd (by intro ps z;cases z)))) (.inl rfl) (.inl rfl) (aS B.hl.lst E).symm (aS B.ol E).symm (j.k.same fun x R=>by simp at R;simp[R]) j.t;rw[aH,C];dsimp only[nv,Vbpcak.ints];simp
theorem RM(hs:List Hole):IsO (Vbpcak.walk hs) hs:=by have h:=DM hs;exact⟨fun n hn=>bU.mp (h.mem_iff.mp hn),h.nodup_iff.mpr dS,by rw[h.length_eq,bG]⟩
theorem Fo:Ok Y 6 170 (UH K CB CR Pt .walk):=by
 refine Y.ok ?_;rintro _ H _ Q nd l ⟨b,i,r,dr,a,lh,lo,s,fs,as,ns,z,e,j,k⟩;have B:=e.bd;have w:=B.wf.qk;refine⟨_,(aI (eK Y.na (pv 0) (cP (yP Y) l.mono (cO (bS Y.na (pv 0))))) (cy (cT (cO (cP (jf Y) l.mono (cO (pv 0))))))),?_⟩;refine⟨b,CB,i,fs,_,Z,B.at_,Z,B.bf.hl,lh,as,s.holes,B.hl,by lia,j,fun po x m f u=> ?_⟩;have g:=B.HX f.k j;have h:=g.put2 u (aS B.hl.lst m) (g.wf.isO (RM s.holes));refine⟨b,CB,i,fs,Z,g.at_,Z,by have:=B.bf.ln;lia,?_⟩;refine⟨b,i,lh,po,_,_,as,h,zl,fun n d=> ?_⟩;have p:H n=none:=by rw[aL ((aS h.at_ d).symm)] at d;exact f.free d
 refine k _ n _ lh po as p aH (h.same (aN d)) ?_ (.inl rfl) (.inr m) (aS B.hl.lst p).symm (aS h.ol d).symm (fun q o v t=> ?_) ?_
 .refine(aN d) _ _ ?_;exact(aL (bF e.rb))▸(f.k _ _ e.rd (by simpa using (j.ne e.rd (by intro ps z;cases z))))
 .refine(aN d) _ _ ?_;rw[aL fun y=>t (by simp[y])];exact f.k q o v fun y=>t (by simp at y;simp[y])
 .exact(f.t.upd g.at_ (by intro ps z;cases z) (by intro c y z;cases z)).same (aN d)
end
end
end D
namespace D
open Vbpcak (Hole Ins insLine shownIns shownAll sameSteps writeFrom write stepsOf writePanel)
section
open VbpcText (Bytes text spaced lineOf decimal)
def dB(i:Ins):Bytes:=spaced (insLine i)
mutual
def mK:Ins->List Bytes| .rep n b=>dB (.rep n [])::(jE b++[text "end"])| .tool d=>[dB (.tool d)]| .to x y=>[dB (.to x y)]| .go x y=>[dB (.go x y)]| .here=>[dB .here]| .at_ x y=>[dB (.at_ x y)]| .by_ x y=>[dB (.by_ x y)]| .run n x y=>[dB (.run n x y)]
def jE:List Ins->List Bytes|[]=>[]|i::r=>mK i++jE r
end
theorem ip:jE []=[]:=by simp[jE]
theorem fO(i:Ins)(r:List Ins):jE (i::r)=mK i++jE r:=rfl
theorem sE:∀(a b:List Ins),jE (a++b)=jE a++jE b
 |[],b=>by rw[ip];rfl
 |i::a,b=>by rw[iy,fO,fO,sE a b,bJ]
theorem zi(n:Nat)(b:List Ins):mK (.rep n b)=dB (.rep n [])::(jE b++[text "end"]):=by simp[mK]
mutual
theorem YB:∀i:Ins,qN i=(mK i).flatMap fun l=>l++[10]
 | .rep n b=>by rw[qN,zi,J1 b];have a:lineOf [text "end"]=text "end"++[10]:=rfl;have c:lineOf (insLine (.rep n []))=dB (.rep n [])++[10]:=rfl;rw[c,a];simp only[bR,cV,dv,bZ,bJ]
 | .tool d=>by simp only[qN,mK,bR,dv,bZ];rfl
 | .to x y=>by simp only[qN,mK,bR,dv,bZ];rfl
 | .go x y=>by simp only[qN,mK,bR,dv,bZ];rfl
 | .here=>by dsimp only[qN,mK,bR,dv,bZ];rfl
 | .at_ x y=>by simp only[qN,mK,bR,dv,bZ];rfl
 | .by_ x y=>by simp only[qN,mK,bR,dv,bZ];rfl
 | .run n x y=>by simp only[qN,mK,bR,dv,bZ];rfl
theorem J1:∀l:List Ins,shownAll l=(jE l).flatMap fun l=>l++[10]
 |[]=>by dsimp only[shownAll,ip];rfl
 |i::r=>by rw[shownAll,fO,cV,YB i,J1 r]
end
theorem Nk(l:List Hole)(a b:Int)(q:Nat)(g:Hole):oa a b g (l.drop q)=match l[q]? with
  |none=>0
  |some h=>if h.d=g.d/\h.x-g.x=a/\h.y-g.y=b then oa a b h (l.drop (q+1))+1 else 0:=by
 by_cases c:q<l.length
 .rw[c_ c,aP c]
  rfl
 .rw[jH (by lia),dH (by lia)]
  rfl
theorem LN(a d:Int):∀(r:List Hole) (b:Hole),oa a d b r<=r.length|[],b=>aQ _|c::r,b=>by rw[oa,aK];have:=LN a d r c;split<;>lia
def UI(k:Nat)(a b:Int):Ins:=if 2<=k then .run k a b else .by_ a b
def runK(l:List Hole)(p:Nat)(a b:Hole):Nat:=min 1000 (oa (b.x-a.x) (b.y-a.y) b (l.drop (p+1))+1)
theorem Bc(c:p<l.length):1<=runK l p a b/\runK l p a b<=1000/\p+runK l p a b<=l.length:=by have h:=LN (b.x-a.x) (b.y-a.y) (l.drop (p+1)) b;rw[cz] at h;unfold runK;lia
theorem J2(h:l[p]? =aa b):qf (n+1) a (l.drop p)=(if a.d=b.d then[] else[.tool b.d])++(UI (runK l p a b) (b.x-a.x) (b.y-a.y)::qf n (l.getD (p+runK l p a b-1) b) (l.drop (p+runK l p a b))):=by
 obtain⟨f,d⟩:=aV.mp h;obtain⟨j,k,m⟩:=Bc (a:=a) (b:=b) f;have g:l.drop p=b::l.drop (p+1):=by rw[c_ f,d]
 rw[g,qf];show(if a.d=b.d then[] else[.tool b.d])++(if 2<=runK l p a b then _::qf n ((b::l.drop (p+1)).getD (runK l p a b-1) b) ((b::l.drop (p+1)).drop (runK l p a b)) else _)=_;congr 1;unfold UI;rw[<-g,kA];have i:(l.drop p).getD (runK l p a b-1) b=l.getD (p+runK l p a b-1) b:=by rw[bh,bh,wF];congr 2;lia
 by_cases c:2<=runK l p a b
 .rw[ai c,ai c,i];rfl
 .have e:runK l p a b=1:=by lia
  simp_all
theorem Nl(n:Nat)(a:Hole):qf n a []=[]:=by cases n<;>rfl
theorem J3(a:Hole)(r:List Hole):write (a::r)= .tool a.d:: .at_ a.x a.y::qf r.length a r:=rfl
theorem Be(h:Hole):∀(l:List Hole) (g:Hole),mU (l++[g,h])=mU (l++[g])++[.by_ (h.x-g.x) (h.y-g.y)]|[],g=>rfl|[a],g=>rfl|a::b::l,g=>by have c:=Be h (b::l) g;show Ins.by_ (b.x-a.x) (b.y-a.y)::mU (b::l++[g,h])=Ins.by_ (b.x-a.x) (b.y-a.y)::mU (b::l++[g])++_;simp_all
def zj(p:wJ)(d:Nat)(a z:Hole)(st:List Ins):List Ins:=[.tool d, .to a.x a.y, .rep p.rows [.rep p.cols (.here::st++[.go (a.x-z.x+p.px) (a.y-z.y)]), .go (-(p.cols*p.px)) p.py]]
theorem J4(p:wJ)(d:Nat)(a z:Hole)(st:List Ins):jE (zj p d a z st)=[dB (.tool d),dB (.to a.x a.y),dB (.rep p.rows []),dB (.rep p.cols [])]++(([dB .here]++jE st++[dB (.go (a.x-z.x+p.px) (a.y-z.y))])++[text "end",dB (.go (-(p.cols*p.px)) p.py),text "end"]):=by
 unfold zj;have c:∀i,(∀n b,i≠Ins.rep n b)->mK i=[dB i]:=fun i e=>by cases i with|rep n b=>exact az Z (e n b)|_=>dsimp only[mK]
 rw[fO,fO,fO,ip,zi,fO,fO,ip,zi,show Ins.here::st++[Ins.go (a.x-z.x+p.px) (a.y-z.y)]=Ins.here::(st++[Ins.go (a.x-z.x+p.px) (a.y-z.y)]) from rfl,fO,sE,fO,ip];rw[c (.tool d) (by intro _ _ z;cases z),c (.to a.x a.y) (by intro _ _ z;cases z),c .here (by intro _ _ z;cases z),c (.go (a.x-z.x+p.px) (a.y-z.y)) (by intro _ _ z;cases z),c (.go (-(p.cols*p.px)) p.py) (by intro _ _ z;cases z)];simp
theorem DN(p:wJ)(l:List Hole):Y2 p [] l=[.tool 1]:=rfl
theorem J5(p:wJ)(b:List Nat)(l:List Hole)(h:b≠[]):Y2 p b l=b.flatMap fun d=>match l.filter fun h=>ah (h.d=d) with
  |[]=>[]
  |a::r=>zj p d a (r.getLastD a) (mU (a::r)):=by
 unfold Y2
 rw[ak h]
 rfl
end
end D
namespace D
open PySem PySem.Spec PyProof.Rows L2
section
open VbpcText (Bytes text spaced decimal digitsOf)
open Vbpcak (Ins insLine)
def gh(b:Bytes):Str:=⟨(b.map kx).toArray⟩
theorem LO(b:Bytes):TL.tl (gh b)=b.map kx:=rfl
theorem Bf(a b:Bytes):gh (a++b)=gh a++gh b:=TL.w8 (by
 simp[TL.w9,LO,a_])
theorem RN(b:Bytes):(gh b).length=b.length:=by rw[TL.rP,LO,aE]
theorem uR:∀(k n:Nat),0<k->n<10^k->(digitsOf k n).map kx=TL.IY n
 |0,n,h,_=>az h (by decide)
 |k+1,n,_,hn=>by
  rw[digitsOf];by_cases c:n<10
  .rw[ai c,TL.Tp c];show[(Kr (48+n)).toNat]=[48+n];rw[wB,rk (by lia)]
  .have hk:0<k:=by
    rcases xN k with z|z
    .simp_all
    .exact z
   have hd:n/10<10^k:=by rw[Nat.div_lt_iff_lt_mul (by decide)];dsimp only[jN] at hn;exact hn
   rw[ak c,a_,uR k (n/10) hk hd,TL.Mv (n:=n) (by lia)];congr 1;show[(Kr (48+n%10)).toNat]=[48+n%10];rw[wB,rk (by lia)]
theorem Bg:∀(k n:Nat),(digitsOf k n).length<=k
 |0,n=>aQ _
 |k+1,n=>by
  dsimp only[digitsOf];split
  .simp
  .rw[aG];have:=Bg k (n/10);simp_all
theorem dF(z:Int):(decimal z).length<=21:=by
 unfold decimal;have:=Bg 20 z.natAbs;split
 .dsimp only[aK];lia
 .lia
theorem YC(h:z.natAbs<100000000000000000000):TL.tl ((toString z:String):Str)=(decimal z).map kx:=by unfold decimal;cases z with|ofNat n=>rw[ak (show ¬oU n<0 from Int.not_lt.mpr (pq n)),show(oU n).natAbs=n from rfl,uR 20 n (by decide) h];exact TL.O6 n|negSucc n=>rw[ai (by simp),b5,show(Int.negSucc n).natAbs=n+1 from rfl,uR 20 (n+1) (by decide) h];have e:toString (Int.negSucc n)="-"++toString (n+1):=rfl;rw[e,TL.xU,String.toList_append,a_];have a:=TL.O6 (n+1);rw[TL.xU] at a;have b:(toString (n+1)).toList.map wC=TL.IY (n+1):=a;rw[b];rfl
end
variable {P0:b7} {w0:cW} {K:aM} {b0:Heap} {m0:Str->Option bj} (Y:Txt P0 w0 K b0 m0)
section
open VbpcText (Bytes text spaced decimal)
open Vbpcak (Hole State Ins insLine sameSteps writeFrom write stepsOf)
section
variable {t:TF} {σ:L2.St} {H:Hp} {Q:Str->Hp->Prop} {b:Bytes}
theorem HY(h:b.length<=1000):(gh b).length<=br:=by rw[RN];exact bY h (by decide)
theorem Fp(h:b.length<=1000)(q:Q (gh b) H):aaF (gh b) σ H Q:=⟨HY h,q⟩
theorem uS(a:Bytes)(e:c=gh a)(h:(b++a).length<=1000)(q:t (gh (b++a)) σ H Q):ME c t (gh b) σ H Q:=by
 have d:gh b++c=gh (b++a):=by rw[e,Bf]
 unfold ME;exact d▸⟨HY h,q⟩
theorem Nm(h:n<100000000000000000000):n.log2<1920:=by
 by_cases c:n=0
 .subst c;decide
 .exact(Nat.log2_lt c).mpr (bN h (by decide))
theorem uT(hs:σ[i]? =aa (aa (.int z)))(a:z.natAbs<100000000000000000000)(h:(b++decimal z).length<=1000)(q:t (gh (b++decimal z)) σ H Q):aaG (oV i) t (gh b) σ H Q:=by
 have c:gh b++((toString z:String))=gh (b++decimal z):=by rw[Bf];congr 1;exact TL.w8 (YC a)
 refine CG hs ⟨z,Z,Nm a,?_⟩;exact c▸⟨HY h,q⟩
theorem YD(hs:σ[i]? =aa (aa (.str (gh w))))(hw:w.length<=1000)(h:(b++w).length<=1000)(q:t (gh (b++w)) σ H Q):XH (oV i) t (gh b) σ H Q:=by refine CG hs ⟨gh w,Z,HY hw,?_⟩;exact((Bf b w).symm)▸⟨HY h,q⟩
end
def Small(z:Int):Prop:= -4000000000<=z/\z<=4000000000
theorem Small.abs(h:Small z):z.natAbs<100000000000000000000:=by obtain⟨h1,a⟩:=h;lia
section
inductive RO H(Q:VK):List V->Prop|mk:∀d:Nat,(Small d)->(Q (.str (gh (dB (.tool d)))) H)->RO H Q [.int d]
theorem qH:Ok Y 1 137 RO:=by
 refine Y.ok ?_;rintro _ H _ Q nd a ⟨d,hd,k⟩;have hl:=dF d;refine⟨_,(cy (zb (uA (uB (pv 0) Ep)))),?_⟩;show ME _ _ (gh []) _ _ _;refine uS (text "tool ") (by decide+kernel) (by decide+kernel) (uT Z hd.abs ?_ (Fp ?_ ?_))
 .rw[dR,aG,show(text "tool ").length=5 from by decide+kernel];lia
 .rw[dR,aG,show(text "tool ").length=5 from by decide+kernel];lia
 .have e:[]++text "tool "++decimal d=dB (.tool d):=by rw[show text "tool "=text "tool"++[32] from by decide+kernel,bJ];rfl
  rwa [e]
inductive RP H(Q:VK):List V->Prop|mk:∀d:Nat,(Small d)->(Q (.str (gh (dB (.rep d [])))) H)->RP H Q [.int d]
theorem yi:Ok Y 1 139 RP:=by
 refine Y.ok ?_;rintro _ H _ Q nd a ⟨d,hd,k⟩;have hl:=dF d;refine⟨_,(cy (zb (uA (uB (pv 0) Ep)))),?_⟩;show ME _ _ (gh []) _ _ _;refine uS (text "rep ") (by decide+kernel) (by decide+kernel) (uT Z hd.abs ?_ (Fp ?_ ?_))
 .rw[dR,aG,show(text "rep ").length=4 from by decide+kernel];lia
 .rw[dR,aG,show(text "rep ").length=4 from by decide+kernel];lia
 .have e:[]++text "rep "++decimal d=dB (.rep d []):=by rw[show text "rep "=text "rep"++[32] from by decide+kernel,bJ];rfl
  rwa [e]
inductive LP H(Q:VK)(vs:List V):Prop|mk:∀wd x y,(vs=[.str (gh wd), .int x, .int y])->(wd.length<=10)->(Small x)->(Small y)->(Q (.str (gh (spaced [wd,decimal x,decimal y]))) H)->LP H Q vs
theorem jF:Ok Y 1 138 LP:=by
 refine Y.ok ?_;rintro _ H _ Q nd c ⟨wd,x,y,rfl,hw,a,b,k⟩;have hl:=dF x;have d:=dF y;refine⟨_,(cy (zb (XI (pv 0) (uA (uB (pv 1) (uA (uB (pv 2) Ep))))))),?_⟩;show XH _ _ (gh []) _ _ _;refine YD Z (by lia) (by rw[dR];lia) (uS [32] (by decide+kernel) ?_ (uT Z a.abs ?_ (uS [32] (by decide+kernel) ?_ (uT Z b.abs ?_ (Fp ?_ ?_)))));any_goals (simp only[aG,aK,bQ,dR];lia)
 have e:[]++wd++[32]++decimal x++[32]++decimal y=spaced [wd,decimal x,decimal y]:=by simp[spaced]
 rwa [e]
inductive RQ H(Q:VK):List V->Prop|mk:∀(n:Nat) x y,(1<=n)->(n<=1000)->(Small x)->(Small y)->(Q (.str (gh (dB (UI n x y)))) H)->RQ H Q [.int n, .int x, .int y]
theorem HZ:Ok Y 2 143 RQ:=by
 refine Y.ok ?_;rintro _ H _ Q nd d ⟨n,x,y,h,i,a,b,k⟩;have hl:=dF x;have j:=dF y;have f:=dF n;refine⟨_,(aI (da (cK jt (pv 0) aY) (cy (cP (jF Y) d.mono (aR gU (aR (pv 1) (cO (pv 2)))))) ck) (cy (zb (uA (uB (pv 0) (uA (uB (pv 1) (uA (uB (pv 2) Ep))))))))),?_⟩;unfold UI at k;refine⟨Z,_,Z,?_⟩;dsimp only[lF];refine e_ (fun c=> ?_) (fun c=> ?_)
 .have g:(n:Int)=1:=by simpa using c
  rw[ak (by lia)] at k;refine⟨text "by",x,y,?_,by decide+kernel,a,b,k⟩;rw[show gh (text "by")=("by") from by decide+kernel]
 .have g:¬(n:Int)=1:=by simpa using c
  rw[ai (by lia)] at k;show ME _ _ (gh []) _ _ _;refine uS (text "run ") (by decide+kernel) (by decide+kernel) (uT Z (by lia) ?_ (uS [32] (by decide+kernel) ?_ (uT Z a.abs ?_ (uS [32] (by decide+kernel) ?_ (uT Z b.abs ?_ (Fp ?_ ?_))))));any_goals (simp only[aG,aK,bQ,dR,show(text "run ").length=4 from by decide+kernel];lia)
  have e:[]++text "run "++decimal n++[32]++decimal x++[32]++decimal y=dB (.run n x y):=by rw[show text "run "=text "run"++[32] from by decide+kernel];simp[dB,insLine,Vbpcak.nums,spaced]
  rwa [e]
theorem HL.Wt(h:HL K H l cs hs)(d:HT K H a g):HL K (upd H l (.lst (cs.map V.ref++[.ref a]))) l (cs++[a]) (hs++[g]):=by
 have kk:∀{b:Addr} {xs:List V},oW K H b xs->oW K (upd H l (.lst (cs.map V.ref++[.ref a]))) b xs:=fun q=>vR ik (fun x e u c f=>by
  rw[a0.mp e,h.lst] at c;cases c
  exact⟨(by intro z;cases z),(by intro o z;cases z)⟩) q
 refine⟨by rw[aH,a_];rfl,j0 (h.at_.mono fun b z q=>kk q) (.cons (kk d) .nil)⟩
inductive abA K C H(Q:VK):List V->Prop|mk:∀b dx lh lo s fs as,(BD K H C b s dx fs lh lo as)->(∀p cs H',H p=ae->cI H H'->HL K H' p cs (bE s.holes s.order)->Q (.ref p) H')->abA K C H Q [.ref b]
theorem ug:Ok Y 1 140 (abA K CB):=by
 refine Y.okN ["board","number"] ?_;rintro _ H _ Q nd l ⟨b,g,lh,lo,s,fs,as,B,k⟩;have m:=B.wf.qk;have o:=B.wf.rY;refine⟨_,(cy (Eo [("number",1)] (eM (bS Y.na (pv 0))) (cJ 1) iu (bM GS (bS Y.na (pv 0) Z) (pv 1)))),b,CB,g,fs,_,Z,B.at_,Z,B.bf.od,lo,Z,⟨_, .of B.ol⟩,fun p f=> ?_⟩;refine i9 (fun i H'=>cI H H'/\∃cs,HL K H' p cs (bE s.holes (s.order.take i))) ⟨aN f,[],aH, .nil⟩ (fun i H' _ q=> .of (q.1 _ _ B.ol)) ?_ ?_
 .rintro i x H' h ⟨d,cs,c⟩;obtain⟨n,hn,rfl⟩:=o7 h;have e:=B.same d;obtain⟨a,j,hg⟩:=e.hl.get (B.wf.ord n (bC hn));refine⟨Z,?_⟩;refine⟨b,CB,g,fs,_,Z,e.at_,Z,e.bf.hl,lh,_,_,_,Z,Z, .of e.hl.lst,cB j,_,c.lst,?_,cD d f,cs++[a],?_⟩
  .rw[aE,c.len];unfold bE;rw[aE,bA];exact bo (show min i s.order.length<=50 by lia) (by decide)
  .rw[take_snoc hn];unfold bE;rw[a_];exact c.Wt hg
 .rintro H' ⟨d,cs,c⟩;rw[cZ,cR] at c;exact k p cs H' f d c
end
end
section
open VbpcText (Bytes text spaced decimal)
open Vbpcak (Hole State Ins insLine sameSteps writeFrom write stepsOf)
section
theorem HL.at(h:HL K H l as hs){i:Nat}(hg:hs[i]? =aa g):∃a,(as.map V.ref)[i]? =aa (.ref a)/\HT K H a g:=by obtain⟨a,h1,b⟩:=jX h.at_ hg;exact⟨a,by rw[bp,h1];rfl,b⟩
inductive Wu K H(Q:VK)(vs:List V):Prop|mk:∀l as hs q a b,(vs=[.ref l, .int ((q+1:Nat))])->(HL K H l as hs)->(hs[q]? =aa a)->(hs[q+1]? =aa b)->(∀t,H t=ae->Q (.ref t) (upd H t (.tup [.int (b.x-a.x), .int (b.y-a.y)])))->Wu K H Q vs
theorem tF:Ok Y 1 141 (Wu K):=by
 refine Y.ok ?_;rintro _ H _ Q nd m ⟨l,as,hs,q,a,b,rfl,hl,i,j,k⟩;obtain⟨c,d,e⟩:=hl.at i;obtain⟨rb,f,g⟩:=hl.at j;refine⟨_,(cy (nG (aR (cu fK (bM di (bM bP (pv 0) (pv 1)) aY) (bM di (bM bP (pv 0) (cu fK (pv 1) aY)) aY)) (cO (cu fK (bM di (bM bP (pv 0) (pv 1)) aY) (bM di (bM bP (pv 0) (cu fK (pv 1) aY)) aY)))))),?_⟩;have h:Ga (as.map V.ref) (((q+1:Nat))-1)=aa (.ref c):=by exact(show((q+1:Nat))-1=(q:Int) by simp)▸(cB d)
 refine⟨l,_,_,_,Z,Z, .of hl.lst,cB f,rb,hv b,_,_,Z,Z,g,Z,_,_,Z,Z,l,_,_,_,Z,Z, .of hl.lst,h,c,hv a,_,_,Z,Z,e,Z,_,_,Z,Z,l,_,_,_,Z,Z, .of hl.lst,cB f,rb,hv b,_,_,Z,Z,g,Z,_,_,Z,Z,l,_,_,_,Z,Z, .of hl.lst,h,c,hv a,_,_,Z,Z,e,Z,_,_,Z,Z,?_⟩;exact⟨zl,k⟩
def pd(x y:Int):u0:= .tuple [.int x, .int y]
theorem abB(q:H a=aa (.tup [.int x, .int y])):Dp K H (.ref a) (pd x y):= .tup (.of q) (.cons (.int _) (.cons (.int _) .nil))
theorem abC(x y u v:Int):la (pd x y) (pd u v)=ah (x=u/\y=v):=by
 unfold pd;simp only[la,u9];by_cases c1:x=u
 .by_cases a:y=v
  .simp[c1,a]
  .simp[c1,a]
 .simp[c1]
inductive abD K H(Q:VK):List V->Prop|mk:∀l as hs q a b,(HL K H l as hs)->(hs.length<=50)->(hs[q]? =aa a)->(hs[q+1]? =aa b)->(∀H',cI H H'->Q (.int ((runK hs (q+1) a b:Nat))) H')->abD K H Q [.ref l, .int ((q+1:Nat))]
theorem H_:Ok Y 2 142 (abD K):=by
 refine Y.ok ?_;rintro _ H _ Q nd x ⟨l,as,hs,q,a,b,hl,R,W,t,k⟩;have X:(as.map V.ref).length=hs.length:=by rw[aE,hl.len]
 have hqb:=(aV.mp t).1;refine⟨_,(aI (bB 2 aY) (aI (lD gf (PW.pt (nF (cK lG (pv 2) (d_ Y.ci)) (lC (cK lG (cu dJ (pv 1) (pv 2)) (dZ Y.nn (pv 0)))))) (aI (bB 3 (cu dJ (pv 1) (pv 2))) (aI (da (PW.pt (xQ (cK CI (bM di (bM bP (pv 0) (pv 3)) aY) (bM di (bM bP (pv 0) (pv 1)) aY)) (uo (cK (Xg x.units) (cP (tF Y) x.mono (aR (pv 0) (cO (pv 3)))) (cP (tF Y) x.mono (aR (pv 0) (cO (pv 1)))))))) (b6 FZ) ck) (b6 (ur 2 aY wL))))) (cy (pv 2)))),?_⟩;dsimp only[pF,uq,IG,tC];refine lE (fun f H'=>E3 fun n g v=>A7 (cI H H') (1<=n) (n<=1000) (hs[q+n]? =aa g) (g.d=b.d) (oa (b.x-a.x) (b.y-a.y) b (hs.drop (q+1+1))=n-1+oa (b.x-a.x) (b.y-a.y) g (hs.drop (q+1+n))) (f=[aa (.ref l),aa (.int ((q+1:Nat))),aa (.int n),v])) (fun f H'=>match f[2]? with|some (some (V.int z))=>(1000-z).toNat|_=>0) ?_ ?_ ?_
 .exact⟨1,b,ae,fun _ _ e=>e,aQ _,by decide,t,Z,by lia,Z⟩
 .rintro f H' ⟨n,g,v,y,T5,Se,hg,hgd,A,rfl⟩;have d:=hl.same y;have hng:=(aV.mp hg).1;have c:(n=1000\/oa (b.x-a.x) (b.y-a.y) g (hs.drop (q+1+n))=0)->∀u,cI H' u->Q (.int (n:Int)) u:=fun z u m=>by
   have e:runK hs (q+1) a b=n:=by unfold runK;lia
   rw[<-e];exact k u (y.trans m)
  refine⟨_,_,Z,Z,_,Z,?_⟩;refine e_ (fun c1=> ?_) (fun c1=> ?_)
  .have Dr:=aq c1;refine⟨_,_,Z,Z,l,_,Z, .inl (.of d.lst),_,_,Z,Z,_,Z,?_⟩;rw[X];refine e_ (fun B=> ?_) (fun B=> ?_)
   .have FI:=aq B;have hq:q+1+n<hs.length:=by lia
    obtain⟨h,hh⟩:∃h,hs[q+1+n]? =aa h:=⟨_,aP hq⟩;obtain⟨S,C,D⟩:=d.at hh;obtain⟨rb,Ng,Jq⟩:=d.at t;have r:=Nk hs (b.x-a.x) (b.y-a.y) (q+1+n) g;rw[hh] at r;dsimp only at r;refine⟨_,_,Z,Z,?_⟩;have s:((q+1:Nat):Int)+(n:Int)=((q+n+1:Nat):Int):=by lia
    have E:Ga (as.map V.ref) (((q+1:Nat):Int)+(n:Int))=aa (.ref S):=by rw[s,show q+n+1=q+1+n by lia];exact cB C
    refine⟨l,_,_,_,Z,Z, .of d.lst,E,S,hv h,_,_,Z,Z,D,Z,l,_,_,_,Z,Z, .of d.lst,cB Ng,rb,hv b,_,_,Z,Z,Jq,Z,Z,_,Z,?_⟩;have T:¬(h.d=g.d/\h.x-g.x=b.x-a.x/\h.y-g.y=b.y-a.y)->oa (b.x-a.x) (b.y-a.y) g (hs.drop (q+1+n))=0:=fun z=>by rw[r,ak z]
    rw[lF];refine e_ (fun F=> ?_) (fun F=> ?_)
    .have G:¬(h.d:Int)=(b.d:Int):=by simpa using F
     exact c (.inr (T fun z=>by lia)) _ (fun _ _ e=>e)
    have G:(h.d:Int)=(b.d:Int):=by simpa using F
    have U:hs[q+n+1]? =aa h:=by rw[show q+n+1=q+1+n by lia];exact hh
    refine⟨l,as,hs,q+n,g,h,by rw[<-s],d,hg,U,fun t1 I=> ?_⟩;have J:=aN (o:= .tup [.int (h.x-g.x), .int (h.y-g.y)]) I;refine⟨l,as,hs,q,a,b,Z,d.same J,W,t,fun t2 L=> ?_⟩;have m:=aN (o:= .tup [.int (b.x-a.x), .int (b.y-a.y)]) L;refine⟨pd (h.x-g.x) (h.y-g.y),pd (b.x-a.x) (b.y-a.y),abB (m _ _ aH),abB aH,Z,Z,_,Z,?_⟩;rw[abC];refine e_ (fun w=> ?_) (fun w=> ?_)
    .have M:¬(h.x-g.x=b.x-a.x/\h.y-g.y=b.y-a.y):=fun z=>by rw[au z] at w;cases w
     exact c (.inr (T fun z=>M z.2)) _ (J.trans m)
    rw[ai ⟨by lia,by simpa using w⟩] at r;refine⟨_,Z,⟨_,_,Z,Z,?_⟩⟩;refine⟨⟨n+1,h,_,y.trans (J.trans m),by lia,by lia,by rw[<-U];rfl,by lia,?_,Z⟩,?_⟩
    .rw[A,r,show q+1+n+1=q+1+(n+1) by lia];lia
    .show(1000-((n:Int)+1)).toNat<(1000-(n:Int)).toNat;lia
   .have FI:=AA B;refine c (.inr ?_) _ (fun _ _ e=>e);rw[jH (by lia)];rfl
  .have Dr:=AA c1;exact c (.inl (by lia)) _ (fun _ _ e=>e)
 .rintro f H' Q1 Q2 h z;dsimp only[Oe,zI,SV,W_,tY,uv] at z⊢;obtain⟨v,hv,i,j,e1,e2,kk,e3,z⟩:=FW z;refine CG hv ⟨i,j,e1,e2,kk,e3,?_⟩;cases kk with|false=>exact h _ _ z|true=>rw[ai Z] at z;obtain⟨v1,N,z⟩:=FW z;obtain⟨v2,O,i1,j1,f1,f2,z⟩:=FW z;obtain⟨v3,P,p,ys,f3,f4,i2,j2,f5,f6,k2,f7,z⟩:=FW z;exact lI (CG N (CG O ⟨i1,j1,f1,f2,CG P ⟨p,ys,f3,f4,i2,j2,f5,f6,k2,f7,h _ _ z⟩⟩))
end
end
section
open VbpcText (Bytes text spaced decimal)
open Vbpcak (Hole State Ins insLine sameSteps writeFrom write stepsOf)
def lv(L:List Bytes):List V:=L.map fun l=>V.str (gh l)
theorem mL(L:List Bytes):(lv L).length=L.length:=aE ..
theorem wt(L:List Bytes)(l:Bytes):lv (L++[l])=lv L++[.str (gh l)]:=by unfold lv;rw[a_];rfl
theorem J6(L M:List Bytes):lv (L++M)=lv L++lv M:=a_
def YE(hs:List Hole):Prop:=∀h∈hs,(0<=h.x/\h.x<=1000000000)/\(0<=h.y/\h.y<=1000000000)/\h.d<=10000000
theorem YE.get(o:YE hs){i:Nat}(e:hs[i]? =aa h):(0<=h.x/\h.x<=1000000000)/\(0<=h.y/\h.y<=1000000000)/\h.d<=10000000:=o h (bC e)
def Short(L:List Bytes):Prop:=∀l∈L,l.length<=100
theorem Short.app(a:Short L)(b:Short M):Short (L++M):=fun l hl=>(cN.mp hl).elim (a l) (b l)
theorem j8:∀i:Ins,(dB i).length<=100
 | .tool d=>by have:=dF d;show(text "tool"++(32::decimal d)).length<=100;rw[aG,aK,show(text "tool").length=4 from by decide+kernel];lia
 | .to x y=>by have:=dF x;have:=dF y;show(text "to"++(32::(decimal x++(32::decimal y)))).length<=100;rw[aG,aK,aG,aK,show(text "to").length=2 from by decide+kernel];lia
 | .go x y=>by have:=dF x;have:=dF y;show(text "go"++(32::(decimal x++(32::decimal y)))).length<=100;rw[aG,aK,aG,aK,show(text "go").length=2 from by decide+kernel];lia
 | .here=>by decide+kernel
 | .at_ x y=>by have:=dF x;have:=dF y;show(text "at"++(32::(decimal x++(32::decimal y)))).length<=100;rw[aG,aK,aG,aK,show(text "at").length=2 from by decide+kernel];lia
 | .by_ x y=>by have:=dF x;have:=dF y;show(text "by"++(32::(decimal x++(32::decimal y)))).length<=100;rw[aG,aK,aG,aK,show(text "by").length=2 from by decide+kernel];lia
 | .run n x y=>by have:=dF n;have:=dF x;have:=dF y;show(text "run"++(32::(decimal n++(32::(decimal x++(32::decimal y)))))).length<=100;rw[aG,aK,aG,aK,aG,aK,show(text "run").length=3 from by decide+kernel];lia
 | .rep n b=>by have:=dF n;show(text "rep"++(32::decimal n)).length<=100;rw[aG,aK,show(text "rep").length=3 from by decide+kernel];lia
mutual
theorem YF:∀i:Ins,Short (mK i)
 | .rep n b=>by
  rw[zi]
  intro l hl
  rcases aZ.mp hl with rfl|hl
  .exact j8 _
  .rcases cN.mp hl with hl|hl
   .exact Fq b l hl
   .rw[a0.mp hl]
    decide+kernel
 | .tool d=>by rw[mK];intro l hl;rw[a0.mp hl];exact j8 _
 | .to x y=>by rw[mK];intro l hl;rw[a0.mp hl];exact j8 _
 | .go x y=>by rw[mK];intro l hl;rw[a0.mp hl];exact j8 _
 | .here=>by rw[mK];intro l hl;rw[a0.mp hl];exact j8 _
 | .at_ x y=>by rw[mK];intro l hl;rw[a0.mp hl];exact j8 _
 | .by_ x y=>by rw[mK];intro l hl;rw[a0.mp hl];exact j8 _
 | .run n x y=>by rw[mK];intro l hl;rw[a0.mp hl];exact j8 _
theorem Fq:∀l:List Ins,Short (jE l)
 |[]=>by rw[ip];intro l hl;cases hl
 |i::r=>by rw[fO];exact(YF i).app (Fq r)
end
section
def UJ(H:Hp)(L:List Bytes)(Q:VK):Prop:=∀p H',H p=ae->cI H H'->H' p=aa (.lst (lv L))->L.length<=10000->Q (.ref p) H'
theorem l_(h:∀n b,i≠ .rep n b):mK i=[dB i]:=by cases i with|rep n b=>exact az Z (h n b)|_=>dsimp only[mK]
theorem UK(k:Nat)(x y:Int):mK (UI k x y)=[dB (UI k x y)]:=l_ fun n b z=>by
 unfold UI at z
 split at z<;>cases z
inductive abF K H(Q:VK):List V->Prop|mk:∀l as hs,(HL K H l as hs)->(hs.length<=50)->(YE hs)->(UJ H (jE (write hs)) Q)->abF K H Q [.ref l]
theorem xC:Ok Y 3 144 (abF K):=by
 refine Y.ok ?_;rintro _ H _ Q nd A ⟨l,as,hs,hl,f,S,k⟩;have T:(as.map V.ref).length=hs.length:=by rw[aE,hl.len]
 refine⟨_,(aI (da (gV (je (pv 0) (fun _=>rfl))) (cy (cT (cO (Ah Y.cs)))) ck) (aI (bB 1 (cT (aR (cP (qH Y) A.mono (cO (bM di (bM bP (pv 0) aY) aY))) (cO (cP (jF Y) A.mono (aR gU (aR (bM di (bM bP (pv 0) aY) aY) (cO (bM di (bM bP (pv 0) aY) aY))))))))) (aI (bB 2 aY) (aI (lD gf (cK lG (pv 2) (dZ Y.nn (pv 0))) (aI (da (cK CI (bM di (bM bP (pv 0) (pv 2)) aY) (bM di (bM bP (pv 0) (cu fK (pv 2) aY)) aY)) (b6 (cQ (fV aX bu bw df (pv 1) (cO (cP (qH Y) A.mono (cO (bM di (bM bP (pv 0) (pv 2)) aY))))))) ck) (aI (bB 3 (cP (H_ Y) A.mono (aR (pv 0) (cO (pv 2))))) (aI (bB 4 (cP (tF Y) A.mono (aR (pv 0) (cO (pv 2))))) (aI (cQ (fV aX bu bw df (pv 1) (cO (cP (HZ Y) A.mono (aR (pv 3) (aR (bM di (pv 4) aY) (cO (bM di (pv 4) aY)))))))) (b6 (ur 2 (pv 3) wL))))))) (cy (pv 1)))))),?_⟩
 cases hs with
 |nil=>have e:=bX.mp (by rw[hl.len];rfl);refine⟨_, .inl ⟨_, .of hl.lst,Z⟩,?_⟩;rw[e];refine⟨zl,fun p g=> ?_⟩;refine k p _ g (aN g) ?_ (by decide+kernel);rw[aH,show lv (jE (write []))=[.str ("tool 1")] from ?_];show[V.str (gh (dB (.tool 1)))]=_;rw[show gh (dB (.tool 1))=("tool 1") from by decide+kernel]
 |cons c B=>
  have VJ:=f;have r:(c::B)[0]? =aa c:=rfl;have U:jE (write (c::B))=[dB (.tool c.d),dB (.at_ c.x c.y)]++jE (qf B.length c ((c::B).drop 1)):=by rw[J3,fO,fO,l_ (by intro _ _ z;cases z),l_ (i:= .at_ c.x c.y) (by intro _ _ z;cases z)];rfl
  generalize E:c::B=hs at*;obtain⟨W,X,Nj⟩:=hl.at r;obtain⟨ox,oy,od⟩:=S.get r;refine⟨_, .inl ⟨_, .of hl.lst,Z⟩,?_⟩;have ji:(!(as.map V.ref).isEmpty)=true:=by
   cases as with
   |nil=>rw[<-E] at T;cases T
   |cons x y=>rfl
  rw[ji];refine kN ?_;refine⟨l,_,_,_,Z,Z, .of hl.lst,cB (j:=0) X,W,hv c,_,_,Z,Z,Nj,Z,c.d,⟨by lia,by lia⟩,?_⟩;refine⟨l,_,_,_,Z,Z, .of hl.lst,cB (j:=0) X,W,hv c,_,_,Z,Z,Nj,Z,l,_,_,_,Z,Z, .of hl.lst,cB (j:=0) X,W,hv c,_,_,Z,Z,Nj,Z,text "at",c.x,c.y,?_,by decide+kernel,⟨by lia,by lia⟩,⟨by lia,by lia⟩,zl,fun p g=> ?_⟩
  .rw[show gh (text "at")=("at":Str) from by decide+kernel]
  dsimp only[pF,uq,IG,tC];refine lE (fun F H'=>E6 fun(q n:Nat) (a:Hole) (D:List Bytes) (v3 v4:Option V)=>A7 (cI H H') (H' p=aa (.lst (lv D))) (hs[q]? =aa a) (D++jE (qf n a (hs.drop (q+1)))=jE (write hs)) ((hs.drop (q+1)).length<=n) (D.length<=2+2*q) (F=[aa (.ref l),aa (.ref p),aa (.int ((q+1:Nat):Int)),v3,v4])) (fun(F:L2.St) (H':Hp)=>match F[2]? with|some (some (V.int z))=>(1000-z).toNat|_=>0) ?_ ?_ ?_
  .exact⟨0,B.length,c,[dB (.tool c.d),dB (.at_ c.x c.y)],ae,ae,aN g,aH,r,U.symm,by rw[<-E];exact aQ _,aQ _,Z⟩
  .rintro F H' ⟨q,n,a,D,v3,v4,O,G,s,d,hn,hD,rfl⟩;have C:=hl.same O;have hqa:=(aV.mp s).1;refine⟨l,_,Z, .inl (.of C.lst),_,_,Z,Z,_,Z,?_⟩;rw[T];refine e_ (fun c1=> ?_) (fun c1=> ?_)
   .have Dr:=aq c1;have I:q+1<hs.length:=by lia
    obtain⟨b,u⟩:∃b,hs[q+1]? =aa b:=⟨_,aP I⟩;obtain⟨ra,hra,TN⟩:=C.at s;obtain⟨rb,Ng,Jq⟩:=C.at u;obtain⟨ax,ay,ad⟩:=S.get s;obtain⟨bx,by',bd⟩:=S.get u;have BU:(hs.drop (q+1)).length=hs.length-(q+1):=cz ..;obtain⟨m,rfl⟩:∃m,n=m+1:=⟨n-1,by lia⟩;rw[J2 u,sE,fO,UK] at d;obtain⟨k1,P,k3⟩:=Bc (a:=a) (b:=b) I;have hg:hs[q+runK hs (q+1) a b]? =aa (hs.getD (q+1+runK hs (q+1) a b-1) b):=by rw[bh,show q+1+runK hs (q+1) a b-1=q+runK hs (q+1) a b by lia,aP (by lia)];rfl
    have e1:Ga (as.map V.ref) (((q+1:Nat):Int)-1)=aa (.ref ra):=by rw[show((q+1:Nat):Int)-1=(q:Int) by lia];exact cB hra
    refine⟨l,_,_,_,Z,Z, .of C.lst,cB Ng,rb,hv b,_,_,Z,Z,Jq,Z,?_⟩;refine⟨_,_,Z,Z,l,_,_,_,Z,Z, .of C.lst,e1,ra,hv a,_,_,Z,Z,TN,Z,Z,_,Z,?_⟩;rw[lF];refine e_ (fun c2=> ?_) (fun c2=> ?_)
    .have FI:¬(b.d:Int)=(a.d:Int):=by simpa using c2
     rw[ak (by lia),fO,ip,l_ (i:= .tool b.d) (by intro _ _ z;cases z)] at d;refine⟨.inl ⟨Z,_, .of G⟩,l,_,_,_,Z,Z, .of C.lst,cB Ng,rb,hv b,_,_,Z,Z,Jq,Z,b.d,⟨by lia,by lia⟩,p,_,_,Z,Z,G,?_,?_⟩
     .rw[mL];exact bo (show D.length<=1000 by lia) (by decide)
     rw[<-wt];have J:=cD (o:= .lst (lv (D++[dB (.tool b.d)]))) O g;have oK:upd H' p (.lst (lv (D++[dB (.tool b.d)]))) p=aa (.lst (lv (D++[dB (.tool b.d)]))):=aH;have R:=d;rw[show[dB (.tool b.d)]++[]=[dB (.tool b.d)] from rfl,<-bJ] at R;have JM:(D++[dB (.tool b.d)]).length<=3+2*q:=by rw[aG];show D.length+1<=_;lia
     have L:=hl.same J;refine⟨l,as,hs,q,a,b,L,f,s,u,fun H2 w=> ?_⟩;refine⟨l,as,hs,q,a,b,Z,L.same w,s,u,fun t ht=> ?_⟩;have M:=aN (o:= .tup [.int (b.x-a.x), .int (b.y-a.y)]) ht;have N:=M _ _ (w _ _ oK);refine⟨.inl ⟨Z,_, .of N⟩,t,_,_,_,Z,Z, .of aH,Z,t,_,_,_,Z,Z, .of aH,Z,runK hs (q+1) a b,b.x-a.x,b.y-a.y,k1,P,⟨by lia,by lia⟩,⟨by lia,by lia⟩,p,_,_,Z,Z,N,?_,?_⟩
     .rw[mL];exact bo (show _<=1000 by lia) (by decide)
     refine⟨_,Z,_,_,Z,Z,?_⟩;refine⟨⟨q+runK hs (q+1) a b,m,_,(D++[dB (.tool b.d)])++[dB (UI (runK hs (q+1) a b) (b.x-a.x) (b.y-a.y))],aa (.int ((runK hs (q+1) a b:Nat):Int)),aa (.ref t),cD ((J.trans w).trans M) g,by rw[aH,wt (D++[dB (.tool b.d)])],hg,?_,?_,?_,?_⟩,?_⟩
     .rw[bJ,show q+runK hs (q+1) a b+1=q+1+runK hs (q+1) a b by lia];exact R
     .rw[cz];lia
     .rw[aG];show _+1<=_;lia
     .rw[show((q+runK hs (q+1) a b+1:Nat):Int)=((q+1:Nat):Int)+((runK hs (q+1) a b:Nat):Int) by lia];rfl
     .show(1000-(((q+1:Nat):Int)+((runK hs (q+1) a b:Nat):Int))).toNat<(1000-((q+1:Nat):Int)).toNat;lia
    .have FI:(b.d:Int)=(a.d:Int):=by simpa using c2
     rw[ai (by lia),ip,dR] at d;have J:=O;have oK:=G;have R:=d;have JM:D.length<=3+2*q:=by lia
     have L:=hl.same J;refine⟨l,as,hs,q,a,b,L,f,s,u,fun H2 w=> ?_⟩;refine⟨l,as,hs,q,a,b,Z,L.same w,s,u,fun t ht=> ?_⟩;have M:=aN (o:= .tup [.int (b.x-a.x), .int (b.y-a.y)]) ht;have N:=M _ _ (w _ _ oK);refine⟨.inl ⟨Z,_, .of N⟩,t,_,_,_,Z,Z, .of aH,Z,t,_,_,_,Z,Z, .of aH,Z,runK hs (q+1) a b,b.x-a.x,b.y-a.y,k1,P,⟨by lia,by lia⟩,⟨by lia,by lia⟩,p,_,_,Z,Z,N,?_,?_⟩
     .rw[mL];exact bo (show _<=1000 by lia) (by decide)
     refine⟨_,Z,_,_,Z,Z,?_⟩;refine⟨⟨q+runK hs (q+1) a b,m,_,D++[dB (UI (runK hs (q+1) a b) (b.x-a.x) (b.y-a.y))],aa (.int ((runK hs (q+1) a b:Nat):Int)),aa (.ref t),cD ((J.trans w).trans M) g,by rw[aH,wt],hg,?_,?_,?_,?_⟩,?_⟩
     .rw[bJ,show q+runK hs (q+1) a b+1=q+1+runK hs (q+1) a b by lia];exact R
     .rw[cz];lia
     .rw[aG];show _+1<=_;lia
     .rw[show((q+runK hs (q+1) a b+1:Nat):Int)=((q+1:Nat):Int)+((runK hs (q+1) a b:Nat):Int) by lia];rfl
     .show(1000-(((q+1:Nat):Int)+((runK hs (q+1) a b:Nat):Int))).toNat<(1000-((q+1:Nat):Int)).toNat;lia
   .have Dr:=AA c1;rw[(jH (by lia)),Nl,ip,bZ] at d;rw[d] at G;exact k p H' g O G (by rw[<-d];lia)
  .rintro F H' Q1 Q2 h z;dsimp only[zI,SV,W_,tY,uv] at z⊢;obtain⟨v,hv,z⟩:=FW z;obtain⟨v3,hv3,p,ys,f3,f4,i2,j2,f5,f6,P,f7,z⟩:=FW z;exact CG hv (CG hv3 ⟨p,ys,f3,f4,i2,j2,f5,f6,P,f7,h _ _ z⟩)
end
end
section
open VbpcText (Bytes text spaced decimal)
open Vbpcak (Hole State Ins insLine sameSteps writeFrom write stepsOf)
section
theorem Ia:∀(l m:List Nat),l.Nodup->(∀x∈l,x∈m)->l.length<=m.length|[],m,_,_=>cg _|x::r,m,hn,hs=>by obtain⟨h1,c⟩:=c8.mp hn;have a:=hs x (aT ..);have:=Ia r (m.erase x) c fun y b=>(L6 (show y≠x from fun z=>h1 (z▸b))).mpr (hs y (aO _ b));rw[FR a] at this;have:=l5 a;dsimp only[aK];lia
theorem Nn(W:Wf s)(b:i<s.holes.length):i∈s.order:=by
 refine Decidable.byContradiction fun c=> ?_;have h:=Ia (i::s.order) (List.range s.holes.length) (c8.mpr ⟨c,W.nd⟩) fun x a=>by
  rcases aZ.mp a with rfl|a
  .exact bU.mpr b
  .exact bU.mpr (W.ord x a)
 rw[aK,bG,W.rY] at h;lia
theorem J7{hs:List Hole}(hg:hs[i]? =aa g)(hh:hs[i+1]? =aa h):mU (hs.take (i+2))=mU (hs.take (i+1))++[.by_ (h.x-g.x) (h.y-g.y)]:=by rw[take_snoc hh,take_snoc hg,bJ];exact Be h (hs.take i) g
theorem tG:∀l:List Hole,(jE (mU l)).length<=l.length
 |[]=>by show(jE []).length<=0;rw[ip];exact aQ _
 |[a]=>by show(jE []).length<=1;rw[ip];exact cg _
 |a::b::r=>by have c:=tG (b::r);show(jE (.by_ (b.x-a.x) (b.y-a.y)::mU (b::r))).length<=_;rw[fO,l_ (by intro _ _ z;cases z),aG,aK];show 1+(jE (mU (b::r))).length<=(b::r).length+1;lia
def DP(a:Hole)(r:List Hole)(px:Int):List Bytes:=[dB .here]++jE (mU (a::r))++[dB (.go (a.x-(r.getLastD a).x+px) (a.y-(r.getLastD a).y))]
theorem xD(a:Hole)(r:List Hole)(px:Int):(DP a r px).length<=r.length+3:=by have:=tG (a::r);unfold DP;rw[aG,aG];dsimp only[aK] at this;show 1+_+1<=_;lia
theorem Fs:∀(a:Hole) (r:List Hole),(a::r)[r.length]? =aa (r.getLastD a)|a,[]=>rfl|a,b::r=>by rw[List.getLastD_cons,<-Fs b r];rfl
inductive RR K H(Q:VK):List V->Prop|mk:∀l as a r px,(HL K H l as (a::r))->(r.length<=50)->(YE (a::r))->(0<=px)->(px<=1000000000)->(UJ H (DP a r px) Q)->RR K H Q [.ref l, .int px]
theorem Cj:Ok Y 2 145 (RR K):=by
 refine Y.ok ?_;rintro _ H _ Q nd q ⟨l,as,a,r,px,hl,D,n,N,J,k⟩;have c:(as.map V.ref).length=r.length+1:=by rw[aE,hl.len];rfl
 refine⟨_,(aI (bB 2 (cT (cO gU))) (aI (fT (nt Z Y.nn (aR aY (cO (dZ Y.nn (pv 0))))) (cJ 3) (aI (bB 4 (cP (tF Y) q.mono (aR (pv 0) (cO (pv 3))))) (b6 (cQ (fV aX bu bw df (pv 2) (cO (cP (jF Y) q.mono (aR gU (aR (bM di (pv 4) aY) (cO (bM di (pv 4) aY))))))))))) (aI (bB 5 (bM bP (pv 0) aY)) (aI (bB 6 (bM bP (pv 0) (CH wN aY))) (aI (cQ (fV aX bu bw df (pv 2) (cO (cP (jF Y) q.mono (aR gU (aR (cu dJ (cu fK (bM di (pv 5) aY) (bM di (pv 6) aY)) (pv 1)) (cO (cu fK (bM di (pv 5) aY) (bM di (pv 6) aY))))))))) (cy (pv 2))))))),?_⟩;refine⟨zl,fun p d=> ?_⟩;have s:gh (dB .here)=("here"):=by decide+kernel
 refine⟨l,_,Z, .inl (.of ((aN d) _ _ hl.lst)),_,_,Z,⟨by decide,by decide,by rw[c];lia,by rw[c];lia⟩,?_⟩;show∃W,_;rw[show(((as.map V.ref).length:Int)-1).toNat=r.length by rw[c];lia];refine iE (fun i u H'=>E2 fun v w=>A3 (cI H H') (H' p=aa (.lst (lv ([dB .here]++jE (mU ((a::r).take (i+1))))))) (u=[aa (.ref l),aa (.int px),aa (.ref p),v,w,ae,ae])) ⟨ae,ae,aN d,?_,Z⟩ ?_ ?_
 .rw[aH];show _=aa (HO.lst (lv ([dB .here]++jE [])));rw[ip];show _=aa (HO.lst [V.str (gh (dB .here))]);rw[s]
 .rintro i u H' O ⟨v,w,e,f,rfl⟩;have b:=hl.same e;obtain⟨g,hg⟩:∃g,(a::r)[i]? =aa g:=⟨_,aP (by rw[aK];lia)⟩;obtain⟨h,hh⟩:∃h,(a::r)[i+1]? =aa h:=⟨_,aP (by rw[aK];lia)⟩;obtain⟨P,R,S⟩:=n.get hg;obtain⟨T,U,hd⟩:=n.get hh;refine⟨l,as,_,i,g,h,by rw[show((i+1:Nat))=1+i by lia];rfl,b,hg,hh,fun t L=> ?_⟩;have E:=aN (o:= .tup [.int (h.x-g.x), .int (h.y-g.y)]) L;have F:=E _ _ f;refine⟨.inl ⟨Z,_, .of F⟩,t,_,_,_,Z,Z, .of aH,Z,t,_,_,_,Z,Z, .of aH,Z,text "by",h.x-g.x,h.y-g.y,?_,by decide+kernel,⟨by lia,by lia⟩,⟨by lia,by lia⟩,p,_,_,Z,Z,F,?_,?_⟩
  .rw[show gh (text "by")=("by":Str) from by decide+kernel]
  .rw[mL,aG];have:=tG ((a::r).take (i+1));rw[bA] at this;exact bo (show 1+_<=1000 by lia) (by decide)
  .refine⟨_,_,cD (e.trans E) d,?_,Z⟩;rw[aH,J7 hg hh,sE,fO,ip,l_ (i:= .by_ (h.x-g.x) (h.y-g.y)) (by intro _ _ z;cases z),bZ,<-bJ,wt];rfl
 .rintro u H' ⟨v,w,e,f,rfl⟩;have b:=hl.same e;rw[show(a::r).take (r.length+1)=a::r from b8 (aQ _)] at f;obtain⟨G,M,I⟩:=b.at (show(a::r)[0]? =aa a from rfl);obtain⟨A,B,m⟩:=b.at (Fs a r);obtain⟨X,ay,ad⟩:=n.get (show(a::r)[0]? =aa a from rfl);obtain⟨zx,zy,zd⟩:=n.get (Fs a r);have C:Ga (as.map V.ref) (-1)=aa (.ref A):=by unfold Ga NO;rw[ak (by decide),ai (by rw[c];lia),c];show(as.map V.ref)[((-1:Int)+((r.length+1:Nat):Int)).toNat]? =_;rw[show((-1:Int)+((r.length+1:Nat):Int)).toNat=r.length by lia];exact B
  refine⟨l,_,_,_,Z,Z, .of b.lst,cB (j:=0) M,?_⟩;refine⟨_,Z,l,_,_,_,Z,Z, .of b.lst,C,?_⟩;refine⟨.inl ⟨Z,_, .of f⟩,G,hv a,_,_,Z,Z,I,Z,A,hv (r.getLastD a),_,_,Z,Z,m,Z,_,_,Z,Z,_,_,Z,Z,?_⟩;refine⟨G,hv a,_,_,Z,Z,I,Z,A,hv (r.getLastD a),_,_,Z,Z,m,Z,_,_,Z,Z,?_⟩;refine⟨text "go",a.x-(r.getLastD a).x+px,a.y-(r.getLastD a).y,?_,by decide+kernel,⟨by lia,by lia⟩,⟨by lia,by lia⟩,p,_,_,Z,Z,f,?_,?_⟩
  .rw[show gh (text "go")=("go":Str) from by decide+kernel]
  .rw[mL,aG];have:=tG (a::r);rw[aK] at this;exact bo (show 1+_<=1000 by lia) (by decide)
  .refine k p _ d (cD e d) ?_ ?_
   .rw[aH];unfold DP;rw[wt];rfl
   .have:=xD a r px;lia
end
end
section
open VbpcText (Bytes text spaced decimal)
open Vbpcak (Hole State Ins insLine sameSteps writeFrom write stepsOf)
section
def sF(s:State)(a:Hole)(r:List Hole):List Bytes:=jE (zj s.panel a.d a (r.getLastD a) (mU (a::r)))
theorem DQ(s:State)(a:Hole)(r:List Hole):sF s a r=[dB (.tool a.d),dB (.to a.x a.y),dB (.rep s.panel.rows []),dB (.rep s.panel.cols [])]++(DP a r s.panel.px++[text "end",dB (.go (-(s.panel.cols*s.panel.px)) s.panel.py),text "end"]):=by unfold sF;rw[J4];rfl
theorem uU(s:State)(a:Hole)(r:List Hole):(sF s a r).length<=r.length+10:=by have:=xD a r s.panel.px;rw[DQ,aG,aG];show 4+(_+3)<=_;lia
inductive abI K C H(Q:VK):List V->Prop|mk:∀b dx lh lo s fs as l cs a r,(BD K H C b s dx fs lh lo as)->(HL K H l cs (a::r))->(r.length<=50)->(YE (a::r))->(UJ H (sF s a r) Q)->abI K C H Q [.ref b, .ref l]
theorem tP:Ok Y 3 146 (abI K CB):=by
 refine Y.ok ?_;rintro _ H _ Q nd d ⟨b,c,lh,lo,s,fs,as,l,cs,a,r,B,hl,i,u,k⟩;obtain⟨c1,D⟩:=B.wf.pc;obtain⟨E,F⟩:=B.wf.pr;obtain⟨w1,G⟩:=B.wf.w1;obtain⟨h1,I⟩:=B.wf.h1;obtain⟨J,L⟩:=B.wf.px;obtain⟨M,N⟩:=B.wf.py;have cx:=B.wf.cx;obtain⟨m,n,q⟩:=hl.at (show(a::r)[0]? =aa a from rfl);obtain⟨O,P,R⟩:=u.get (show(a::r)[0]? =aa a from rfl);refine⟨_,(aI (bB 2 (cT (aR (cP (qH Y) d.mono (cO (bM di (bM bP (pv 1) aY) aY))) (cO (cP (jF Y) d.mono (aR gU (aR (bM di (bM bP (pv 1) aY) aY) (cO (bM di (bM bP (pv 1) aY) aY))))))))) (aI (cQ (fV aX bu bw df (pv 2) (cO (cP (yi Y) d.mono (cO (bS Y.na (pv 0))))))) (aI (cQ (fV aX bu bw df (pv 2) (cO (cP (yi Y) d.mono (cO (bS Y.na (pv 0))))))) (aI (cQ (fV aX eP eQ l6 (pv 2) (cO (cP (Cj Y) d.mono (aR (pv 1) (cO (bS Y.na (pv 0)))))))) (aI (cQ (fV aX bu bw df (pv 2) (cO gU))) (aI (cQ (fV aX bu bw df (pv 2) (cO (cP (jF Y) d.mono (aR gU (aR (cu oX (CH wN (bS Y.na (pv 0))) (bS Y.na (pv 0))) (cO (bS Y.na (pv 0))))))))) (aI (cQ (fV aX bu bw df (pv 2) (cO gU))) (cy (pv 2))))))))),?_⟩;refine⟨l,_,_,_,Z,Z, .of hl.lst,cB n,m,hv a,_,_,Z,Z,q,Z,a.d,⟨by lia,by lia⟩,?_⟩;refine⟨l,_,_,_,Z,Z, .of hl.lst,cB n,m,hv a,_,_,Z,Z,q,Z,l,_,_,_,Z,Z, .of hl.lst,cB n,m,hv a,_,_,Z,Z,q,Z,text "to",a.x,a.y,?_,by decide+kernel,⟨by lia,by lia⟩,⟨by lia,by lia⟩,zl,fun p j=> ?_⟩
 .rw[show gh (text "to")=("to") from by decide+kernel]
 have e:∀X,upd H p (.lst X) p=aa (.lst X):=fun X=>aH;have f:∀X,BD K (upd H p (.lst X)) CB b s c fs lh lo as:=fun X=>B.same (aN j);refine⟨.inl ⟨Z,_, .of (e _)⟩,b,CB,c,fs,_,Z,(f _).at_,Z,(f []).bf.ro,s.panel.rows,⟨by lia,by lia⟩,p,_,_,Z,Z,e _,by show 2<br;decide,?_⟩;rw[gq];refine⟨.inl ⟨Z,_, .of (e _)⟩,b,CB,c,fs,_,Z,(f _).at_,Z,(f []).bf.co,s.panel.cols,⟨by lia,by lia⟩,p,_,_,Z,Z,e _,by show 3<br;decide,?_⟩;rw[gq];refine⟨.inl ⟨Z,_, .of (e _)⟩,b,CB,c,fs,_,Z,(f _).at_,Z,(f []).bf.px,l,cs,a,r,s.panel.px,(fun X=>hl.same (aN j)) _,i,u,by lia,by lia,fun pc t x v y z=> ?_⟩;have S:=xD a r s.panel.px;refine⟨p,pc,_,_,Z,Z,v _ _ (e _),y,?_,?_⟩
 .rw[mL];show 4+_<=br;have:br=16777216:=d8;lia
 have g:∀X,upd t p (.lst X) p=aa (.lst X):=fun X=>aH;have w:∀X,cI H (upd t p (.lst X)):=fun X=>cD ((aN (o:= .lst ([V.str (gh (dB (.tool a.d))),V.str (gh (dB (.to a.x a.y)))]++[V.str (gh (dB (.rep s.panel.rows [])))]++[V.str (gh (dB (.rep s.panel.cols [])))])) j).trans v) j;refine⟨.inl ⟨Z,_, .of (g _)⟩,p,_,_,Z,Z,g _,?_,?_⟩
 .rw[aG,mL];show 4+_<br;have:br=16777216:=d8;lia
 rw[gq];have h:∀X,BD K (upd t p (.lst X)) CB b s c fs lh lo as:=fun X=>B.same (w X);refine⟨.inl ⟨Z,_, .of (g _)⟩,b,CB,c,fs,_,Z,(h _).at_,Z,(h []).bf.co,_,Z,?_⟩;refine⟨b,CB,c,fs,_,Z,(h _).at_,Z,(h []).bf.px,_,_,Z,Z, .inl ⟨by lia,by lia⟩,b,CB,c,fs,_,Z,(h _).at_,Z,(h []).bf.py,?_⟩;have A:0<=(s.panel.cols:Int)*s.panel.px:=FC (by lia) (by lia);refine⟨text "go",-(s.panel.cols*s.panel.px),s.panel.py,?_,by decide+kernel,⟨by lia,by lia⟩,⟨by lia,by lia⟩,p,_,_,Z,Z,g _,?_,?_⟩
 .rw[show gh (text "go")=("go":Str) from by decide+kernel,<-(Int.neg_mul ..)]
 .rw[aG,aG,mL];show 4+_+1<br;have:br=16777216:=d8;lia
 rw[gq];refine⟨.inl ⟨Z,_, .of (g _)⟩,p,_,_,Z,Z,g _,?_,?_⟩
 .rw[aG,aG,aG,mL];show 4+_+1+1<br;have:br=16777216:=d8;lia
 rw[gq];refine k p _ j (w _) ?_ ?_
 .rw[aH,DQ,J6,J6];have C:gh (text "end")=("end":Str):=by decide+kernel
  show _=aa (HO.lst ([V.str (gh (dB (.tool a.d))),V.str (gh (dB (.to a.x a.y))),V.str (gh (dB (.rep s.panel.rows []))),V.str (gh (dB (.rep s.panel.cols [])))]++(lv (DP a r s.panel.px)++[V.str (gh (text "end")),V.str (gh (dB (.go (-(s.panel.cols*s.panel.px)) s.panel.py))),V.str (gh (text "end"))])));rw[C];simp only[bJ,iy,dR];rfl
 .have:=uU s a r;lia
end
end
section
open VbpcText (Bytes text spaced decimal)
open Vbpcak (Hole State Ins insLine sameSteps writeFrom write stepsOf)
section
theorem DR(f:Nat->List Ins):∀l:List Nat,jE (l.flatMap f)=l.flatMap fun d=>jE (f d)
 |[]=>by rw[dv,ip];rfl
 |x::l=>by rw[bR,bR,sE,DR f l]
theorem Np(h:hs≠[]):cC hs≠[]:=by cases hs with|nil=>exact az Z h|cons a r=>intro z;have:=(M.pM (a::r) a.d).mpr ⟨a,aT ..,Z⟩;rw[z] at this;cases this
theorem oO(s:State):(bE s.holes s.order).length=s.order.length:=aE ..
theorem Bh(W:Wf s):YE (bE s.holes s.order):=fun h hh=>by
 obtain⟨i,a,rfl⟩:=bK.mp hh
 obtain⟨h1,b,c⟩:=W.on _ (iO (W.ord i a))
 have:=W.w1
 have:=W.h1
 exact⟨⟨h1.1,by lia⟩,⟨b.1,by lia⟩,c⟩
def uV(s:State)(d:Nat):List Bytes:=match(bE s.holes s.order).filter fun h=>ah (h.d=d) with|[]=>[]|a::r=>sF s a r
theorem J8(h:s.holes≠[]):jE (wK s.panel (cC s.holes) (bE s.holes s.order))=(cC s.holes).flatMap (uV s):=by
 rw[J5 _ _ _ (Np h),DR];congr 1;funext d;unfold uV sF
 cases e:(bE s.holes s.order).filter fun h=>ah (h.d=d) with
 |nil=>exact ip
 |cons a r=>
  have:a∈(bE s.holes s.order).filter fun h=>ah (h.d=d):=by rw[e];exact aT ..
  dsimp only;rw[(aq (b_.mp this).2)]
theorem Ib(W:Wf s)(hd:d∈cC s.holes):∃a r,((bE s.holes s.order).filter fun h=>ah (h.d=d))=a::r:=by
 obtain⟨h,hh,rfl⟩:=(M.pM _ _).mp hd;obtain⟨i,b⟩:=kC hh;have c:h∈(bE s.holes s.order).filter fun g=>ah (g.d=h.d):=by refine b_.mpr ⟨bK.mpr ⟨i,Nn W ((aV.mp b).1),?_⟩,au Z⟩;unfold bb;rw[bh,b];rfl
 cases e:(bE s.holes s.order).filter fun g=>ah (g.d=h.d) with
 |nil=>rw[e] at c;cases c
 |cons a r=>exact⟨a,r,Z⟩
theorem Bj(W:Wf s)(d:Nat):(uV s d).length<=60:=by unfold uV;have h1:=dz (fun h:Hole=>ah (h.d=d)) (bE s.holes s.order);have:=W.qk;have:=W.rY;rw[oO] at h1;cases e:(bE s.holes s.order).filter fun h=>ah (h.d=d) with|nil=>exact cg _|cons a r=>rw[e,aK] at h1;have:=uU s a r;show(sF s a r).length<=60;lia
theorem Ft{f:Nat->List Bytes}(h:∀d,(f d).length<=m):∀l:List Nat,(l.flatMap f).length<=m*l.length|[]=>cg _|x::l=>by rw[bR,aG,aK,Nat.mul_succ];have:=Ft h l;have:=h x;lia
inductive abJ K C H(Q:VK):List V->Prop|mk:∀b dx lh lo s fs as,(BD K H C b s dx fs lh lo as)->(UJ H (jE (wK s.panel (cC s.holes) (bE s.holes s.order))) Q)->abJ K C H Q [.ref b]
theorem qI:Ok Y 4 147 (abJ K CB):=by
 refine Y.okN ["board","lines","diameter","hole","holes"] ?_;rintro _ H _ Q nd I ⟨b,w,lh,lo,s,fs,as,B,k⟩;have W:=B.hl.len;have lH:=B.wf.qk;have Ek:=B.wf.rY;have T9:=xg s.holes;refine⟨_,(aI (da (gV (je (bS Y.na (pv 0)) (fun _=>rfl))) (cy (cT (cO (Ah Y.cs)))) ck) (aI (bB 1 (cT gW)) (aI (fT (eM (cP (qw Y) I.mono (cO (bS Y.na (pv 0))))) (cJ 2) (aI (slc 4 [("hole",3)] (eM (cP (ug Y) I.mono (cO (pv 0)))) (cJ 3) (y8 (cK jt (bM i_ (pv 3) aY) (pv 2))) (pv 3)) (b6 (cQ (fV aX eP eQ l6 (pv 1) (cO (cP (tP Y) I.mono (aR (pv 0) (cO (pv 4)))))))))) (cy (pv 1))))),?_⟩;refine⟨b,CB,w,fs,_,Z,B.at_,Z,B.bf.hl,_, .inl ⟨_, .of B.hl.lst,Z⟩,?_⟩;by_cases c:s.holes=[]
 .have e:=bX.mp (by rw[W,c];rfl);rw[e];refine⟨zl,fun p l=> ?_⟩;refine k p _ l (aN l) ?_ ?_
  .rw[aH,c,show cC []=[] from rfl,DN,show lv (jE [.tool 1])=[.str ("tool 1")] from ?_];show[V.str (gh (dB (.tool 1)))]=_;rw[show gh (dB (.tool 1))=("tool 1") from by decide+kernel]
  .rw[c,show cC []=[] from rfl,DN];decide+kernel
 .have ji:(!(as.map V.ref).isEmpty)=true:=by cases as with|nil=>exact az (bX.mp W.symm) c|cons x y=>rfl
  rw[ji];rw[J8 c] at k;refine kN ⟨zl,fun p l=> ?_⟩;have J:=B.same (aN (o:= .lst []) l);refine⟨b,CB,w,fs,_,Z,J.at_,Z,J.bf.hl,lh,as,s.holes,J.hl,by lia,fun X H2 Zq fH nQ=> ?_⟩;have adM:=(aN l).free Zq;refine⟨X,Z,⟨_, .of nQ⟩,iJ (fun i z H'=>E2 fun L M=>A4 (cI H H') (H' X=aa (.lst (nv (cC s.holes)))) (H' p=aa (.lst (lv (((cC s.holes).take i).flatMap (uV s))))) (z=[aa (.ref b),aa (.ref p),L,ae,M])) ⟨ae,ae,(aN l).trans fH,nQ,fH _ _ aH,Z⟩ (by rintro i z H' _ ⟨_,_,_,q,_,_⟩;exact .of q) ?_ ?_⟩
  .rintro i v z H' hi ⟨L,M,A,hd,C,rfl⟩;obtain⟨d,N,rfl⟩:=o7 hi;have BN:=(aV.mp N).1;have B':=B.same A;obtain⟨a,r,f⟩:=Ib B.wf (bC N);refine⟨b,w,lh,lo,s,fs,as,B',fun pk cs H3 Tu i6 E=> ?_⟩;have O:(cs.map V.ref).length=(bE s.holes s.order).length:=by rw[aE,E.len]
   refine⟨pk,Z,⟨_, .of E.lst⟩,fun D hD=> ?_⟩;refine i9 (K:=K) (a:=pk) (xs:=cs.map V.ref) (fun i H'=>cI H3 H'/\∃m,HL K H' D m (((bE s.holes s.order).take i).filter fun h=>ah (h.d=d))) ⟨aN hD,[],aH, .nil⟩ (fun i H' _ q=> .of (q.1 _ _ E.lst)) ?_ ?_
   .rintro j x H4 hj ⟨P,m,F⟩;obtain⟨c,hc,rfl⟩:=hU hj;obtain⟨g,hg,Ya⟩:=dj E.at_ hc;have n:=fj P Ya;refine⟨Z,?_⟩;refine⟨c,hv g,_,_,Z,Z,n,Z,Z,_,Z,?_⟩;rw[lF,take_snoc hg,fi];have BU:=dz (fun h:Hole=>ah (h.d=d)) ((bE s.holes s.order).take j);rw[bA,oO] at BU;refine e_ (fun R=> ?_) (fun R=> ?_)
    .have S:(g.d:Int)=(d:Int):=by simpa using R
     refine⟨_,F.lst,?_,cD P hD,m++[c],?_⟩
     .rw[aE,F.len];exact bo (show _<=50 by lia) (by decide)
     .rw[show List.filter (fun h:Hole=>ah (h.d=d)) [g]=[g] from du (au (by lia))];exact F.Wt n
    .have S:¬(g.d:Int)=(d:Int):=by simpa using R
     refine⟨P,m,?_⟩;rw[show List.filter (fun h:Hole=>ah (h.d=d)) [g]=[] from dq (by rw[decide_eq_true_iff];lia),bZ];exact F
   .rintro H5 ⟨Ip,m,t⟩;rw[O,cR,f] at t;have G:=i6.trans Ip;have u:=G _ _ C;have Jx:=dz (fun h:Hole=>ah (h.d=d)) (bE s.holes s.order);rw[oO,f,aK] at Jx;have Ir:YE (a::r):=fun h hh=>by rw[<-f] at hh;exact Bh B.wf h (b_.mp hh).1
    refine⟨.inl ⟨Z,_, .of u⟩,b,w,lh,lo,s,fs,as,D,m,a,r,B'.same G,t,by lia,Ir,fun pt H6 V2 T VV adN=> ?_⟩;have gr:=uU s a r;have U:=Ft (Bj B.wf) ((cC s.holes).take i);rw[bA] at U;refine⟨p,pt,_,_,Z,Z,T _ _ u,VV,?_,?_⟩
    .rw[mL,mL];have:br=16777216:=d8;show _<=br;lia
    .refine⟨_,_,cD ((A.trans G).trans T) l,?_,?_,Z⟩
     .rw[aL (cF aH Zq)];exact T _ _ (G _ _ hd)
     .have el:uV s d=sF s a r:=by unfold uV;rw[f]
      rw[aH,take_snoc N,cV,bR,dv,bZ,el,J6]
  .rintro z H' ⟨L,M,A,hd,C,rfl⟩;rw[cZ,cR] at C;refine k p H' l A C ?_;have:=Ft (Bj B.wf) (cC s.holes);lia
end
end
section
open VbpcText (Bytes text spaced decimal)
open Vbpcak (Hole State Ins)
section
def bI(b:Bytes):List Int:=b.map fun c=>c.toNat
theorem J9(a b:Bytes):bI (a++b)=bI a++bI b:=a_
theorem uW(b:Bytes):(bI b).length=b.length:=aE ..
def yj(L:List Bytes):Bytes:=L.flatMap fun l=>l++[10]
theorem xE:∀{L:List Bytes},Short L->(yj L).length<=101*L.length|[],_=>aQ _|l::L,h=>by have a:=xE fun x b=>h x (aO _ b);have:=h l (aT ..);unfold yj at a⊢;rw[bR,aG,aG,aK];show l.length+1+(L.flatMap fun l=>l++[10]).length<=101*(L.length+1);lia
inductive abL(K:aM) H(Q:VK):List V->Prop|mk:∀a L,(H a=aa (.lst (lv L)))->(Short L)->(L.length<=10000)->(MV H (bI (yj L)) Q)->abL K H Q [.ref a]
theorem Ic:Ok Y 1 82 (abL K):=by
 refine Y.okN ["lines","text","line","sign"] ?_;rintro _ H _ Q nd G ⟨a,L,v,e,w,k⟩;refine⟨_,(aI (bB 1 (cT gW)) (aI (fT (eM (pv 0)) (cJ 2) (aI (cQ (fV aX eP eQ l6 (pv 1) (cO (Eo [("sign",3)] (O2 (pv 2)) (cJ 3) iu (ja zL Z Y.nn (by rfl) (cO (pv 3))))))) (b6 (cQ (fV aX bu bw df (pv 1) (cO (ja zL Z Y.nn (by rfl) (cO gU)))))))) (cy (pv 1)))),?_⟩;refine⟨zl,fun p m=> ?_⟩;refine⟨a,Z,⟨_, .of ((aN m) _ _ v)⟩,iJ (fun i n H'=>E1 fun r=>A3 (cI H H') (H' p=aa (.lst ((bI (yj (L.take i))).map V.int))) (n=[aa (.ref a),aa (.ref p),r,ae])) ⟨ae,aN m,aH,Z⟩ (fun i n H' _ ⟨_,f,_,_⟩=> .of (f _ _ v)) ?_ ?_⟩
 .rintro i x n H' b ⟨r,f,d,rfl⟩;obtain⟨l,hl,rfl⟩:∃l,L[i]? =aa l/\x= .str (gh l):=by
   unfold lv at b;rw[bp] at b
   cases h:L[i]? with
   |none=>rw[h] at b;cases b
   |some l=>rw[h] at b;exact⟨l,Z,(aW b).symm⟩
  have I:=e l (bC hl);have J:=(aV.mp hl).1;have z:=xE (L:=L.take i) fun x A=>e x (List.mem_of_mem_take A);rw[bA] at z;refine⟨.inl ⟨Z,_, .of d⟩,_,Z,fun D s=> ?_⟩;have M:=(aS d s).symm;refine XZ (fun j g=>cI H' g/\g D=aa (.lst ((bI (l.take j)).map V.int))) ⟨aN s,aH⟩ ?_ ?_
  .rintro j c g B ⟨o,q⟩;have C:∃u,l[j]? =aa u/\c=u.toNat:=by
    have:((l.map kx).toArray)[j]? =aa c:=B;rw[tH,bp] at this
    cases h:l[j]? with
    |none=>rw[h] at this;cases this
    |some u=>rw[h] at this;exact⟨u,Z,(aW this).symm⟩
   obtain⟨u,E,rfl⟩:=C;refine⟨Z,?_⟩;refine⟨⟨#[u.toNat]⟩,Z,Z,_,q,?_,cD o s,?_⟩
   .rw[aE,uW,bA];exact bo (show min j l.length<=100 by lia) (by decide)
   .rw[aH,take_snoc E,J9,a_];rfl
  .rintro g ⟨o,q⟩;have F:(gh l).cps.size=l.length:=by show(l.map kx).toArray.size=_;rw[bz,aE]
   rw[F,cR] at q;have t:=o _ _ d;refine⟨p,D,_,_,Z,Z,t,q,?_,?_⟩
   .rw[aE,aE,uW,uW];have:br=16777216:=d8;show _<=br;lia
   have y:upd g p (.lst ((bI (yj (L.take i))).map V.int++(bI l).map V.int)) p=aa (.lst ((bI (yj (L.take i))).map V.int++(bI l).map V.int)):=aH;refine⟨.inl ⟨Z,_, .of y⟩,_,Z,by decide+kernel,p,_,_,Z,Z,y,?_,?_⟩
   .rw[aG,aE,aE,uW,uW];have:br=16777216:=d8;lia
   rw[gq];refine⟨_,cD (f.trans o) m,?_,Z⟩;rw[aH,take_snoc hl];unfold yj;rw[cV,bR,dv,bZ,J9,J9,a_,a_,bJ];rfl
 .rintro n H' ⟨r,f,d,rfl⟩;rw[mL,cR] at d;exact k p H' m f d
inductive abM(K:aM) H(Q:VK):List V->Prop|mk:∀a l,(H a=aa (.lst (lv (jE l))))->((jE l).length<=10000)->(MV H (R8 (R9 l)) Q)->abM K H Q [.ref a]
theorem qT:Ok Y 2 156 (abM K):=by
 refine Y.ok ?_;rintro _ H _ Q nd g ⟨a,l,h,b,k⟩;refine⟨_,(aI (bB 1 (cP (Ic Y) g.mono (cO (pv 0)))) (cy (cu l7 (cT (cO (dZ Y.nn (pv 1)))) (pv 1)))),?_⟩;refine⟨a,jE l,h,Fq l,b,fun p j m i c=> ?_⟩;have n:=xE (Fq l);refine⟨p,_,Z, .inl (.of c),zl,fun u d=> ?_⟩;refine⟨u,p,_,_,Z,Z,aH,(aN d) _ _ c,?_,fun q e=> ?_⟩
 .rw[aE,uW];show 1+_<=br;have:br=16777216:=d8;lia
 have f:=i.trans (aN (o:= .lst [.int (((bI (yj (jE l))).map V.int).length:Int)]) d);refine k q _ (f.free e) (f.trans (aN e)) ?_;rw[aH,aE,uW,J1];rfl
theorem yQ:Ok Y 4 175 (NT K CB CR .program):=by refine Y.ok ?_;rintro _ H _ Q nd c ⟨b,g,r,dr,a,lh,lo,s,fs,as,ns,z,e,k⟩;have B:=e.bd;have o:=B.wf.qk;have t:=B.wf.rY;refine⟨_,(cy (cP (qT Y) c.mono (cO (cP (xC Y) c.mono (cO (cP (ug Y) c.mono (cO (pv 0)))))))),b,g,lh,lo,s,fs,as,B,fun p cs v w d h=> ?_⟩;refine⟨p,cs,_,h,by rw[oO];lia,Bh B.wf,fun q x y f i j=> ?_⟩;exact⟨q,_,i,j,fun u A l m n=>k.pure e ((d.trans f).free l) n ((d.trans f).trans m)⟩
theorem sG:Ok Y 5 176 (NT K CB CR .panelProgram):=by
 refine Y.ok ?_;rintro _ H _ Q nd d ⟨b,f,r,dr,a,lh,lo,s,fs,as,ns,z,e,k⟩;have B:=e.bd;refine⟨_,(aI (da (cK jt (bS Y.na (pv 0)) aY) (cy (cT (cO (d_ Y.ci)))) ck) (cy (cP (qT Y) d.mono (cO (cP (qI Y) d.mono (cO (pv 0))))))),?_⟩;refine⟨b,CB,f,fs,_,Z,B.at_,Z,B.bf.al,Z,_,Z,?_⟩;dsimp only[lF]
 cases g:s.panel.alt with
 |true=>
  have c:Vbpcak.step s .panelProgram=(s,[-2]):=by unfold Vbpcak.step;exact jw (by rw[g];rfl)
  rw[c] at k;refine lI ⟨zl,fun p h=> ?_⟩;exact k.pure e h aH (aN h)
 |false=>
  have c:Vbpcak.step s .panelProgram=(s,R8 (R9 (wK s.panel (cC s.holes) (bE s.holes s.order)))):=by unfold Vbpcak.step;exact eD (by rw[g];rfl)
  rw[c] at k;refine kN ⟨b,f,lh,lo,s,fs,as,B,fun q t v i j l=> ?_⟩;refine⟨q,_,j,l,fun u w m n o=> ?_⟩;exact k.pure e (i.free m) o (i.trans n)
end
end
end D
namespace D
open Vbpcak (State)
def mE(p:Nat):Nat:=[3,3,1,0,0,0,0,0,0,0,1,0,0,0,5,0,2,3,0,0,0,0,0].getD p 0
def lX(p:Nat):Nat:=[0,0,0,0,0,0,1,0,0,0,0,0,0,0,0,0,0,0,0,0,1,1,1].getD p 0
theorem Nq:∀k:Fin 23,PyVbpcak.shape (k.val:Int)=aa (mE k.val,lX k.val):=by decide
theorem J_(h:PyVbpcak.shape p=aa x):∃k:Nat,p=(k:Int)/\k<23/\x=(mE k,lX k):=by
 have b:0<=p/\p<23:=by
  unfold PyVbpcak.shape at h;by_cases c:0<=p/\p<23
  .exact c
  .exfalso;iterate 23 rw[ak (by lia)] at h
   cases h
 refine⟨p.toNat,by lia,by lia,?_⟩;have e:=Nq ⟨p.toNat,by lia⟩;have a:((p.toNat:Nat))=p:=by lia
 rw[a] at e;rw[e] at h;exact(aW h).symm
theorem LQ(h:PyFlat.call PyVbpcak.shape l=aa (c,t)):∃(k:Nat) (r:List Int),k<23/\l=(k:Int)::r/\
  ((lX k=0/\mE k<=r.length/\c=[(k:Int)::r.take (mE k)]/\t=r.drop (mE k))\/(lX k=1/\mE k=0/\∃(n:Nat) (a:List Int),r=(n:Int)::a/\n<=a.length/\c=[[(k:Int)],a.take n]/\t=a.drop n)):=by
 cases l with
 |nil=>cases h
 |cons p r=>
  unfold PyFlat.call at h
  dsimp only at h
  cases hs:PyVbpcak.shape p with
  |none=>simp_all
  |some x=>
   obtain⟨k,rfl,hk,rfl⟩:=J_ hs
   rw[hs] at h
   dsimp only at h
   refine⟨k,r,hk,Z,?_⟩
   by_cases c1:r.length<mE k
   .simp_all
   .rw[ak c1] at h
    have b:lX k=0\/(lX k=1/\mE k=0):=by
     have:∀k:Fin 23,lX k.val=0\/(lX k.val=1/\mE k.val=0):=by decide
     exact this ⟨k,hk⟩
    rcases b with b|⟨b,hn⟩
    .rw[b] at h
     cases h
     exact .inl ⟨b,by lia,Z,Z⟩
    .rw[b,hn,lZ,WC] at h
     refine .inr ⟨b,hn,?_⟩
     cases r with
     |nil=>cases h
     |cons m a=>
      unfold PyFlat.rows PyFlat.row at h
      dsimp only at h
      by_cases d:0<=m/\m.toNat<=a.length
      .rw[ai d] at h
       cases h
       exact⟨m.toNat,a,by rw[show((m.toNat:Nat))=m by lia],d.2,Z,Z⟩
      .rw[ak d] at h
       cases h
theorem Ka(h:kD PyVbpcak.shape f (p::r)=aa cs):∃(b:Nat) (c:List (List Int)) (t:List Int) (a:List (List (List Int))),f=b+1/\PyFlat.call PyVbpcak.shape (p::r)=aa (c,t)/\kD PyVbpcak.shape b t=aa a/\cs=c::a:=by
 cases f with
 |zero=>cases h
 |succ f=>unfold kD at h;cases e:PyFlat.call PyVbpcak.shape (p::r) with|none=>simp_all|some x=>obtain⟨c,t⟩:=x;rw[e] at h;dsimp only at h;cases d:kD PyVbpcak.shape f t with|none=>simp_all|some a=>rw[d] at h;exact⟨f,c,t,a,Z,Z,d,(aW h).symm⟩
theorem Nr(h:kD PyVbpcak.shape f []=aa cs):cs=[]:=by cases f with|zero=>exact(aW h).symm|succ f=>exact(aW h).symm
end D
namespace D
open PySem PySem.Spec PyProof.Rows L2
variable {P0:b7} {w0:cW} {K:aM} {b0:Heap} {m0:Str->Option bj} (Y:Txt P0 w0 K b0 m0)
section
open Vbpcak (Hole State)
theorem drop_cons{ns:List Int}(h:ns.drop z=x::r):ns[z]? =aa x/\ns.drop (z+1)=r/\z<ns.length:=by
 have a:z<ns.length:=by
  by_cases c:z<ns.length
  .exact c
  .rw[jH (by lia)] at h;cases h
 rw[c_ a] at h;injection h with h1 b;exact⟨by rw[aP a,h1],b,a⟩
theorem lO{ns t:List Int}(h:ns.drop z=t)(a:z<=ns.length):ns.length-t.length=z:=by rw[<-h,cz];lia
theorem Ie{lo a z:Int}(h:PyInside.within lo a z=af):lo<=z/\z<=a:=by unfold PyInside.within at h;rw[bq] at h;exact⟨aq h.1,aq h.2⟩
section
inductive pV K(CB CR Pt)(k:Nat) H(Q:VK):List V->Prop|mk:∀b dx r dr a lh lo s fs as ns z c t,(CE K CB CR H b dx r dr a lh lo s fs as ns (z+1))->(Fj Pt H)->(ns[z]? =aa (k:Int))->(PyFlat.call PyVbpcak.shape (ns.drop z)=aa (c,t))->(PyInside.call PyVbpcak.bound c=af)->(UG K CB CR Pt H b dx r dr a lh lo (ns.length-t.length) (VbpcakNeutral.step s (dQ c)) Q)->pV K CB CR Pt k H Q [.ref b, .ref r]
theorem UG.ret{b i r dr a lh lo:Addr}{st:State×kc}(k:UG K CB CR Pt H b i r dr a lh lo z st Q)(e:CE K CB CR H b i r dr a lh lo s fs as ns z0)(t:Fj Pt H):tM K CB CR H b i r dr a lh lo z st Q:=by
 intro H' p fs' q u j v w B R h1 y A D kp;refine k H' p fs' q u j v w B R h1 y A D (kp.same fun x g=>by simp at g;rcases g with rfl|rfl|rfl|rfl<;>simp) ?_;have h:∀{x:Addr} {o:HO},H x=aa o->(∀C d f,o≠ .ins C d f)->(∀xs,o≠ .lst xs)->x∉[b,lh,lo,r]:=fun{x o} g l m z=>by
  simp only[aZ,dD,or_false] at z;rcases z with rfl|rfl|rfl|rfl
  .rw[e.bd.at_] at g;exact l _ _ _ (aW g).symm
  .rw[e.bd.hl.lst] at g;exact m _ (aW g).symm
  .rw[e.bd.ol] at g;exact m _ (aW g).symm
  .rw[e.rd] at g;exact l _ _ _ (aW g).symm
 rcases t with t|⟨c,n,t2⟩
 .exact .inl (kp _ _ t (h t (by intro _ _ _ z;cases z) (by intro _ z;cases z)))
 .exact .inr ⟨c,kp _ _ n (h n (by intro _ _ _ z;cases z) (by intro _ z;cases z)),kp _ _ t2 (h t2 (by intro _ _ _ z;cases z) (by intro _ z;cases z))⟩
theorem call_k{ns:List Int}{z k:Nat}(g:ns[z]? =aa (k:Int))(h:PyFlat.call PyVbpcak.shape (ns.drop z)=aa (c,t)):z<ns.length/\k<23/\
  ((lX k=0/\∃xs,ns.drop (z+1)=xs++t/\xs.length=mE k/\c=[(k:Int)::xs])\/(lX k=1/\∃(n:Nat) (xs:List Int),ns[z+1]? =aa (n:Int)/\ns.drop (z+2)=xs++t/\xs.length=n/\z+1<ns.length/\c=[[(k:Int)],xs])):=by
 obtain⟨i,r,hk,e,h⟩:=LQ h
 obtain⟨j,a,l⟩:=drop_cons e
 have m:i=k:=by
  rw[j] at g
  have:=aW g
  lia
 subst m
 refine⟨l,hk,?_⟩
 rcases h with⟨b,h1,d,f⟩|⟨b,h1,n,o,p,hn,d,f⟩
 .exact .inl ⟨b,r.take (mE i),by rw[a,f,d5],by rw[bA];lia,d⟩
 .rw[p] at a
  obtain⟨q,s,u⟩:=drop_cons a
  exact .inr ⟨b,n,o.take n,q,by rw[s,f,d5],by rw[bA];lia,u,d⟩
theorem Ck(n:lX k=0)(h1:mE k=0)(f:∀s,VbpcakNeutral.step s (dQ [[(k:Int)]])=Vbpcak.step s c):∀vs H Q,pV K CB CR Pt k H Q vs->NT K CB CR c H Q vs:=by
 rintro vs H Q ⟨b,g,r,dr,a,lh,lo,s,fs,as,ns,z,o,t,e,i,j,l,p,d⟩;obtain⟨q,hk,h⟩:=call_k j l;rcases h with⟨_,xs,m,u,rfl⟩|⟨h,_⟩
 .have ex:xs=[]:=bX.mp (by lia);subst ex;rw[f,lO (t:=t) m (by assumption)] at d;exact⟨b,g,r,dr,a,lh,lo,s,fs,as,ns,z+1,e,d.ret e i⟩
 .lia
theorem abN(n:lX k=0)(h1:mE k=0)(f:∀s,VbpcakNeutral.step s (dQ [[(k:Int)]])=Vbpcak.step s c):∀vs H Q,pV K CB CR Pt k H Q vs->UH K CB CR Pt c H Q vs:=by
 rintro vs H Q ⟨b,g,r,dr,a,lh,lo,s,fs,as,ns,z,o,t,e,i,j,l,p,d⟩;obtain⟨q,hk,h⟩:=call_k j l;rcases h with⟨_,xs,m,u,rfl⟩|⟨h,_⟩
 .have ex:xs=[]:=bX.mp (by lia);subst ex;rw[f,lO (t:=t) m (by assumption)] at d;exact⟨b,g,r,dr,a,lh,lo,s,fs,as,ns,z+1,e,i,d⟩
 .lia
theorem abO(v:lX k=0)(h1:mE k=1)(g:PyVbpcak.bound (k:Int)=([(-1000000000000000000,1000000000000000000)],[]))(i:∀s x,VbpcakNeutral.step s (dQ [[(k:Int),x]])=Vbpcak.step s (c x)):∀vs H Q,pV K CB CR Pt k H Q vs->sp1 K CB CR c H Q vs:=by
 rintro vs H Q ⟨b,j,r,dr,a,lh,lo,s,fs,as,ns,z,w,t,e,l,m,n,d,f⟩;obtain⟨y,hk,h⟩:=call_k m n;rcases h with⟨_,xs,o,p,rfl⟩|⟨h,_⟩
 .obtain⟨x,rfl⟩:∃x,xs=[x]:=by match xs,p.trans h1 with|[x],_=>exact⟨x,Z⟩
  obtain⟨q,u,A⟩:=drop_cons o;have hw: -1000000000000000000<=x/\x<=1000000000000000000:=by unfold PyInside.call at d;dsimp only at d;rw[g] at d;simp only[PyInside.each,PyInside.lists,fq] at d;exact Ie d
  rw[i,lO (t:=t) u (by assumption)] at f;exact⟨b,j,r,dr,a,lh,lo,s,fs,as,ns,z+1,x,e,q,hw.1,hw.2,f.ret e l⟩
 .lia
theorem ac9(v:lX k=0)(h1:mE k=2)(f:∀s x y,VbpcakNeutral.step s (dQ [[(k:Int),x,y]])=Vbpcak.step s (c x y)):∀vs H Q,pV K CB CR Pt k H Q vs->sp2 K CB CR c H Q vs:=by
 rintro vs H Q ⟨b,g,r,dr,a,lh,lo,s,fs,as,ns,z,w,t,e,i,j,l,A,d⟩;obtain⟨B,hk,h⟩:=call_k j l;rcases h with⟨_,xs,m,n,rfl⟩|⟨h,_⟩
 .obtain⟨x,y,rfl⟩:∃x y,xs=[x,y]:=by match xs,n.trans h1 with|[x,y],_=>exact⟨x,y,Z⟩
  obtain⟨o,p,C⟩:=drop_cons m;obtain⟨q,u,D⟩:=drop_cons p;rw[f,lO (t:=t) u (by assumption)] at d;exact⟨b,g,r,dr,a,lh,lo,s,fs,as,ns,z+1,x,y,e,o,q,d.ret e i⟩
 .lia
theorem YG(B:lX k=0)(h1:mE k=3)(g:∀s x y d,VbpcakNeutral.step s (dQ [[(k:Int),x,y,d]])=Vbpcak.step s (c x y d)):∀vs H Q,pV K CB CR Pt k H Q vs->sp3 K CB CR c H Q vs:=by
 rintro vs H Q ⟨b,i,r,dr,a,lh,lo,s,fs,as,ns,z,C,t,e,j,l,m,D,f⟩;obtain⟨E,hk,h⟩:=call_k l m;rcases h with⟨_,xs,n,o,rfl⟩|⟨h,_⟩
 .obtain⟨x,y,d,rfl⟩:∃x y d,xs=[x,y,d]:=by match xs,o.trans h1 with|[x,y,d],_=>exact⟨x,y,d,Z⟩
  obtain⟨p,q,F⟩:=drop_cons n;obtain⟨u,v,G⟩:=drop_cons q;obtain⟨w,A,I⟩:=drop_cons v;rw[g,lO (t:=t) A (by assumption)] at f;exact⟨b,i,r,dr,a,lh,lo,s,fs,as,ns,z+1,x,y,d,e,p,u,w,f.ret e j⟩
 .lia
theorem ac_(I:lX k=0)(h1:mE k=5)(m:∀s d f g i j,VbpcakNeutral.step s (dQ [[(k:Int),d,f,g,i,j]])=Vbpcak.step s (c d f g i j)):∀vs H Q,pV K CB CR Pt k H Q vs->sp5 K CB CR c H Q vs:=by
 rintro vs H Q ⟨b,n,r,dr,a,lh,lo,s,fs,as,ns,z,J,t,e,o,p,q,L,l⟩;obtain⟨M,hk,h⟩:=call_k p q;rcases h with⟨_,xs,u,v,rfl⟩|⟨h,_⟩
 .obtain⟨d,f,g,i,j,rfl⟩:∃d f g i j,xs=[d,f,g,i,j]:=by match xs,v.trans h1 with|[d,f,g,i,j],_=>exact⟨d,f,g,i,j,Z⟩
  obtain⟨w,x,N⟩:=drop_cons u;obtain⟨y,A,O⟩:=drop_cons x;obtain⟨B,C,P⟩:=drop_cons A;obtain⟨D,E,R⟩:=drop_cons C;obtain⟨F,G,S⟩:=drop_cons E;rw[m,lO (t:=t) G (by assumption)] at l;exact⟨b,n,r,dr,a,lh,lo,s,fs,as,ns,z+1,d,f,g,i,j,e,w,y,B,D,F,l.ret e o⟩
 .lia
theorem anyR(y:lX k=1)(m:PyVbpcak.bound (k:Int)=([],[(-1000000000000000000,1000000000000000000,0,100)]))(o:∀s l,VbpcakNeutral.step s (dQ [[(k:Int)],l])=Vbpcak.step s (c l)):∀vs H Q,pV K CB CR Pt k H Q vs->spR K CB CR c H Q vs:=by
 rintro vs H Q ⟨b,p,r,dr,a,lh,lo,s,fs,as,ns,z,A,t,e,q,u,v,f,i⟩;obtain⟨B,hk,h⟩:=call_k u v;rcases h with⟨h,_⟩|⟨_,n,xs,w,g,j,C,rfl⟩
 .lia
 .have hl:xs.length<=100:=by unfold PyInside.call at f;dsimp only at f;rw[m] at f;simp only[PyInside.each,PyInside.lists,fq,cX,bq,decide_eq_true_iff] at f;exact f.1.2
  have x:(ns.drop (z+1+1)).take n=xs:=by rw[g,<-j];exact DW ..
  have d:z+1+1+n<=ns.length:=by have:=congrArg List.length g;rw[cz,aG] at this;lia
  rw[o,lO (by rw[<-kA,g,<-j];exact uk ..) d,<-x] at i;exact⟨b,p,r,dr,a,lh,lo,s,fs,as,ns,z+1,n,e,w,d,by lia,i.ret e q⟩
theorem YH(B:lX k=1)(o:PyVbpcak.bound (k:Int)=([],[(0,255,0,16900)]))(p:∀s l,VbpcakNeutral.step s (dQ [[(k:Int)],l])=Vbpcak.step s (c (VbpcakNeutral.bytes l))):∀vs H Q,pV K CB CR Pt k H Q vs->spT K CB CR c H Q vs:=by
 rintro vs H Q ⟨b,q,r,dr,a,lh,lo,s,fs,as,ns,z,C,t,e,u,v,w,f,i⟩;obtain⟨D,hk,h⟩:=call_k v w;rcases h with⟨h,_⟩|⟨_,n,xs,y,g,j,E,rfl⟩
 .lia
 .have hl:xs.length<=16900/\∀x∈xs,0<=x/\x<256:=by unfold PyInside.call at f;dsimp only at f;rw[o] at f;simp only[PyInside.each,PyInside.lists,fq,cX,bq,decide_eq_true_iff] at f;refine⟨f.1.2,fun x A=> ?_⟩;have:=Ie (gD.mp f.2 x A);lia
  have m:(ns.drop (z+1+1)).take n=xs:=by rw[g,<-j];exact DW ..
  have d:z+1+1+n<=ns.length:=by have:=congrArg List.length g;rw[cz,aG] at this;lia
  rw[p,lO (by rw[<-kA,g,<-j];exact uk ..) d,<-m] at i;exact⟨b,q,r,dr,a,lh,lo,s,fs,as,ns,z+1,n,e,y,d,by lia,by rw[m];exact hl.2,i.ret e u⟩
end
end
section
open Vbpcak (Hole State)
theorem LR(k:PE X e te):PE X e (fun b H Q=>te b H fun v a=>(∀x C d f,v= .ref x->a x=aa (.ins C d f)->∀o,X.K.lookup x=aa o->o.cls≠ .type "list")->Q v a):=fun l s b H Q I h=>fX (k l s b H _ I h) (by rintro u n ⟨v,a,c,r,q⟩;exact⟨v,a,c,r,q fun x C d f p m o ho i=>by
 obtain⟨_,_,_,g,_⟩:=c.gT x _ m
 have j:=c.BI x o ho
 rw[g] at j
 rw[<-aW j] at i
 cases i⟩)
section
structure CA P w K(mg:Str->Option bj) base(CB CR Pt aC)(cs:List Addr):Prop where
 tup:∀H,oW K H aC (oZ.map V.ref)
 len:cs.length=23
 nd:cs.Nodup
 fns:∀k f,oZ[k]? =aa f->∃ps,Ky P w K mg base 8 f ps (pV K CB CR Pt k)
include Y in
theorem Txt.ca:CA P0 w0 K m0 b0 CB CR Pt aC oZ:=by refine⟨Y.t2,Z,by decide,fun k f a=> ?_⟩;match k,a with|0,a=>obtain rfl:758=f:=aW a;exact iB (Cb Y) Y.rr (YG Z rfl (fun _ _ _ _=>rfl))|1,a=>obtain rfl:765=f:=aW a;exact iB (ES Y) Y.rr (YG Z rfl (fun _ _ _ _=>rfl))|2,a=>obtain rfl:772=f:=aW a;exact iB (ET Y) Y.rr (abO Z rfl rfl (fun _ _=>rfl))|3,a=>obtain rfl:779=f:=aW a;exact iB (B8 Y) Y.rr (Ck Z rfl (fun _=>rfl))|4,a=>obtain rfl:786=f:=aW a;exact iB (B_ Y) Y.rr (Ck Z rfl (fun _=>rfl))|5,a=>obtain rfl:793=f:=aW a;exact iB (B9 Y) Y.rr (Ck Z rfl (fun _=>rfl))|6,a=>obtain rfl:800=f:=aW a;exact iB (vS Y) Y.rr (anyR Z rfl (fun _ _=>rfl))|7,a=>obtain rfl:807=f:=aW a;exact iB (AB Y) Y.rr (Ck Z rfl (fun _=>rfl))|8,a=>obtain rfl:814=f:=aW a;exact iB (yE Y) Y.rr (Ck Z rfl (fun _=>rfl))|9,a=>obtain rfl:821=f:=aW a;exact iB (yG Y) Y.rr (Ck Z rfl (fun _=>rfl))|10,a=>obtain rfl:828=f:=aW a;exact iB (yH Y) Y.rr (abO Z rfl rfl (fun _ _=>rfl))|11,a=>obtain rfl:835=f:=aW a;exact iB (ER Y) Y.rr (Ck Z rfl (fun _=>rfl))|12,a=>obtain rfl:840=f:=aW a;exact iB (Fl Y) Y.rr (abN Z rfl (fun _=>rfl))|13,a=>obtain rfl:847=f:=aW a;exact iB (Fo Y) Y.rr (abN Z rfl (fun _=>rfl))|14,a=>obtain rfl:854=f:=aW a;exact iB (Cc Y) Y.rr (ac_ Z rfl (fun _ _ _ _ _ _=>rfl))|15,a=>obtain rfl:861=f:=aW a;exact iB (uI Y) Y.rr (Ck Z rfl (fun _=>rfl))|16,a=>obtain rfl:868=f:=aW a;exact iB (EZ Y) Y.rr (ac9 Z rfl (fun _ _ _=>rfl))|17,a=>obtain rfl:875=f:=aW a;exact iB (Hu Y) Y.rr (YG Z rfl (fun _ _ _ _=>rfl))|18,a=>obtain rfl:882=f:=aW a;exact iB (yQ Y) Y.rr (Ck Z rfl (fun _=>rfl))|19,a=>obtain rfl:889=f:=aW a;exact iB (sG Y) Y.rr (Ck Z rfl (fun _=>rfl))|20,a=>obtain rfl:896=f:=aW a;exact iB (HR Y) Y.rr (YH Z rfl (fun _ _=>rfl))|21,a=>obtain rfl:903=f:=aW a;exact iB (Ci Y) Y.rr (YH Z rfl (fun _ _=>rfl))|22,a=>obtain rfl:910=f:=aW a;exact iB (Ff Y) Y.rr (YH Z rfl (fun _ _=>rfl))|k+23,a=>cases a
theorem RS{cs:List Addr}(hn:cs.Nodup)(h:cs[k]? =aa f):cs.idxOf f=k:=by obtain⟨h1,a⟩:=aV.mp h;exact a▸(hn.idxOf_getElem k h1)
inductive LS K Pt H(Q:VK):List V->Prop|mk:∀a ns,(jD K H a (ns.map V.int))->(DZ ns=af)->(Fj Pt H)->(∀H' p,H' p=aa (.lst ((h9 ns).map V.int))->Q (.ref p) H')->LS K Pt H Q [.ref a]
theorem Ig(k:fk H H' xs)(n:(∃u,H a=aa u)->a∉xs)(h:jD K H a ys):jD K H' a ys:=by
 rcases h with(h|⟨u,h⟩)|h
 .exact .inl (.inl (k _ _ h (n ⟨_,h⟩)))
 .exact .inl (.inr ⟨u,k _ _ h (n ⟨_,h⟩)⟩)
 .exact .inr h
theorem BD.abP{b p c lh lo:Addr}(B:BD K H CB b s c fs lh lo as)(k:fk H H' [p])(d:H p=aa (.lst xs))(f:p≠lh)(g:p≠lo):BD K H' CB b s c fs lh lo as:=by
 refine⟨k _ _ B.at_ (by simpa using dE B.at_ d (by intro z;cases z)),B.bf,⟨k _ _ B.hl.lst (by simpa using bF f),B.hl.at_.mono fun a h q=> ?_⟩,k _ _ B.ol (by simpa using bF g),B.ne,B.wf⟩;refine vR k (fun x i u e j=> ?_) q;rw[a0.mp i,d] at e;cases e
 exact⟨(by intro z;cases z),(by intro o z;cases z)⟩
theorem Kb:Ok Y 9 181 (LS K Pt):=by
 refine Y.ok ?_;rintro _ H _ Q nd P ⟨a,ns,ha,I,hT,k⟩;let R:Addr->Prop:=fun f=>∃k:Nat,oZ[k]? =aa f;let S:Addr->Sp:=fun f=>pV K CB CR Pt (oZ.idxOf f);have FNS:∀f,R f->∃ps,Ky P0 w0 K m0 b0 8 f ps (S f):=fun f ⟨k,hk⟩=>by have:=Y.ca.fns k f hk;show∃ps,Ky P0 w0 K m0 b0 8 f ps (pV K CB CR Pt (oZ.idxOf f));rw[RS Y.ca.nd hk];exact this
 refine⟨_,(aI (bB 1 (LR (acD (Y.kk (Qx Y):OkK P0 w0 K m0 b0 1 "Reader" CR _ (EN CR)) P.mono (cO (pv 0))))) (aI (bB 2 (LR (Pl (Y.kk (QX Y)) P.mono))) (aI (bB 3 (cT gW)) (aI (lD gf (jv (jd (Uc Y) P.mono (pv 1)) (fun _=>rfl)) (aI (bB 4 (bM di (pK Y.rr) (jd (gP Y) P.mono (pv 1)))) (aI (bB 5 (GA R S (pv 4) FNS P (aR (pv 2) (cO (pv 1))))) (aI (cQ (fV aX bu bw df (pv 3) (cO (dZ Y.nn (pv 5))))) (b6 (cQ (fV aX eP eQ l6 (pv 3) (cO (pv 5))))))))) (cy (pv 3)))))),?_⟩;have B6:∀(H':Hp) (x:Addr) (C' d:Addr) (T:List (Str×V)),H' x=aa (.ins C' d T)->(∀o,K.lookup x=aa o->o.cls≠ .type "list")->jD K H' a (ns.map V.int)->a≠x:=fun H' x C' d T i hk hs e=>by
  subst e;rcases hs with(h|⟨u,h⟩)|⟨o,its,n,h1,l,_⟩
  .rw[i] at h;cases h
  .rw[i] at h;cases h
  .exact hk o h1 l
 refine fun r dr B7 hdr ndr=>⟨r,dr,a,aH,Z,fun C5=> ?_⟩;have U:upd (upd (upd H dr (.own r)) r (.ins CR dr [])) r (.ins CR dr (rf a 0)) r=aa (.ins CR dr (rf a 0)):=aH;have q:cI H (upd (upd (upd H dr (.own r)) r (.ins CR dr [])) r (.ins CR dr (rf a 0))):=fun x o i=>by rw[aL (aS i B7),aL (aS i B7),aL (aS i hdr)];exact i
 have ar:=B6 _ r CR dr _ U (C5 r CR dr _ Z U) (kj q ha);generalize upd (upd (upd H dr (.own r)) r (.ins CR dr [])) r (.ins CR dr (rf a 0))=H1 at U q C5⊢;refine fun b C TM hdx ndx=>⟨b,C,aH,fun H2 fs0 E F NV EU W VX=>⟨Z,fun ada=> ?_⟩⟩;have fH:cI H1 H2:=fun x o i=>by refine VX x o ?_ (by simpa using aS i TM);rw[aL (aS i TM),aL (aS i hdx)];exact i
 have X:∀x,upd (upd H1 C (.own b)) b (.ins CB C []) x=ae->H1 x=none:=fun x i=>by have n1:x≠b:=cF aH i;have n2:x≠C:=cF ((aL ndx).trans aH) i;rw[aL n1,aL n2] at i;exact i
 have ab:a≠b:=B6 H2 b CB C _ W.at_ (ada b CB C _ Z W.at_) (kj fH (kj q ha));have rb:b≠r:=(aS U TM).symm;refine⟨zl,fun p hp=> ?_⟩;have i6:=fH.trans (aN (o:= .lst []) hp);have YI:∃raw,kD PyVbpcak.shape ns.length ns=aa raw/\rG PyVbpcak.bound raw=af/\h9 ns=PyFlat.told (vc VbpcakNeutral.step VbpcakNeutral.start (raw.map dQ))/\(h9 ns).length<=10000000:=by
  unfold DZ at I
  cases h:kD PyVbpcak.shape ns.length ns with
  |none=>rw[h] at I;cases I
  |some raw=>rw[h] at I;simp only[bq] at I;obtain⟨⟨⟨⟨_,_⟩,h3⟩,_⟩,h5⟩:=I;refine⟨raw,Z,h3,?_,aq h5⟩;unfold h9 PyVbpcak.calls;rw[h]
 obtain⟨raw,YI,adb,abQ,ade⟩:=YI;have ha3:(∀H',jD K H' a (ns.map V.int))\/((∃u,upd H2 p (.lst []) a=aa u)/\a≠E/\a≠F/\a≠p/\a≠Pt):=by
  have tr:∀u,H a=aa u->(∀ps,u≠ .kX ps)->(∀H',jD K H' a (ns.map V.int))\/((∃u,upd H2 p (.lst []) a=aa u)/\a≠E/\a≠F/\a≠p/\a≠Pt):=fun u w hn=> .inr ⟨⟨u,i6 _ _ (q _ _ w)⟩,aS (q _ _ w) (X _ NV),aS (q _ _ w) (X _ EU),aS (q _ _ w) (fH.free hp),hT.ne w hn⟩
  rcases ha with(h|⟨u,h⟩)|h
  .exact tr _ h (by intro ps z;cases z)
  .exact tr _ h (by intro ps z;cases z)
  .exact .inl fun _=> .inr h
 dsimp only[pF,uq];refine lE (fun σ H'=>E11 fun(s:State) (fs:List (Str×V)) (as:List Addr) (lh lo:Addr) (z T:Nat) (UN:List (List (List Int))) (D:List (List Int)) (v4 v5:Option V)=>A11 (CE K CB CR H' b C r dr a lh lo s fs as ns z) (Fj Pt H') (H' p=aa (.lst ((PyFlat.told D).map V.int))) (p≠lh) (p≠lo) (((∀H',jD K H' a (ns.map V.int))\/((∃u,H' a=aa u)/\a≠lh/\a≠lo/\a≠p/\a≠Pt))) (kD PyVbpcak.shape T (ns.drop z)=aa UN) (rG PyVbpcak.bound UN=af) (z<=ns.length) (PyFlat.told D++PyFlat.told (vc VbpcakNeutral.step s (UN.map dQ))=h9 ns) (σ=[aa (.ref a),aa (.ref r),aa (.ref b),aa (.ref p),v4,v5])) (fun(σ:L2.St) (H':Hp)=>match H' r with|some (.ins _ _ fs)=>(match fs.lookup ("position":Str) with|some (V.int z)=>(ns.length-z).toNat|_=>0)|_=>0) ?_ ?_ ?_
 .refine⟨qV 1000 1000 0,fs0,[],E,F,0,ns.length,raw,[],ae,ae,⟨W.same (aN hp),i6 _ _ U,kj i6 (kj q ha),ab,ar,rb⟩,hT.same (q.trans i6),aH,(aS W.hl.lst hp).symm,(aS W.ol hp).symm,ha3,YI,adb,cg _,abQ.symm,Z⟩
 .rintro σ H' ⟨s,fs,as,lh,lo,z,T,UN,D,v4,v5,e,tb,hq,npl,npo,hA,Zb,YJ,Sm,heq,rfl⟩;refine⟨r,dr,_,Z,e.rd,(fun z':Int=>oN a z' (m:=("has_more":Str)) (by decide+kernel) (by decide+kernel)) _,r,dr,a,ns,z,e.rd,e.sq,_,Z,?_⟩;refine e_ (fun c1=> ?_) (fun c1=> ?_)
  .have Dr:=aq c1;obtain⟨x0,r0,hdz⟩:∃x0 r0,ns.drop z=x0::r0:=⟨_,_,c_ Dr⟩;rw[hdz] at Zb;obtain⟨f2,c,t,Wc,rfl,LU,adf,rfl⟩:=Ka Zb;rw[<-hdz] at LU;obtain⟨k0,_,Xi,e0,_⟩:=LQ LU;have hz:ns[z]? =aa (k0:Int):=(drop_cons e0).1;obtain⟨adO,_,hcz⟩:=call_k hz LU;have htz:∃z',t=ns.drop z'/\z<z'/\z'<=ns.length:=by
    rcases hcz with⟨_,xs,A,_⟩|⟨_,n,xs,_,A,_,h3,_⟩
    .refine⟨z+1+xs.length,by rw[<-kA,A];exact(uk ..).symm,by lia,?_⟩;have:=congrArg List.length A;rw[cz,aG] at this;lia
    .refine⟨z+2+xs.length,by rw[<-kA,A];exact(uk ..).symm,by lia,?_⟩;have:=congrArg List.length A;rw[cz,aG] at this;lia
   obtain⟨z',ht,hzz,hz'⟩:=htz;obtain⟨g,hg⟩:∃g,oZ[k0]? =aa g:=⟨_,aP (by rw[Y.ca.len];exact Xi)⟩;have Wv:PyInside.call PyVbpcak.bound c=af/\rG PyVbpcak.bound Wc=true:=by unfold rG at YJ⊢;rw[jU,bq] at YJ;exact YJ
   have A:=e.taken (z+1);have G:p≠r:=dE hq e.rd (by intro z;cases z);have J:upd H' r (.ins CR dr (rf a ((z+1:Nat):Int))) p=aa (.lst ((PyFlat.told D).map V.int)):=(aL G).trans hq;have tb1:Fj Pt (upd H' r (.ins CR dr (rf a ((z+1:Nat):Int)))):=tb.upd e.rd (by intro ps z;cases z) (by intro c y z;cases z);refine⟨r,dr,_,Z,e.rd,(fun z':Int=>oN a z' (m:=("take":Str)) (by decide+kernel) (by decide+kernel)) _,r,dr,a,ns,z,(k0:Int),e.rd,e.sq,hz,aC,oZ.map V.ref,_,_,Z,Z,Y.ca.tup _,cB (j:=k0) (v:= .ref g) (by rw[bp,hg];rfl),?_⟩;refine⟨g,Z,⟨k0,hg⟩,?_⟩;show pV K CB CR Pt (oZ.idxOf g) _ _ _;rw[RS Y.ca.nd hg];refine⟨b,C,r,dr,a,lh,lo,s,fs,as,ns,z,c,t,A,tb1,hz,LU,Wv.1,fun H3 pl fs' mF lu as' gr zf B3 R3 h1 l n1 n2 kp3 tb3=> ?_⟩;rw[(lO ht.symm hz')] at R3;have abR:∀x o,upd H' r (.ins CR dr (rf a ((z+1:Nat):Int))) x=aa o->x≠b->x≠lh->x≠lo->x≠r->x≠Pt->H3 x=aa o:=fun x o i L M N O m5=>kp3 x o i (by simp[L,M,N,O,m5]);have B:H3 p=aa (.lst ((PyFlat.told D).map V.int)):=abR p _ J (dE J A.bd.at_ (by intro z;cases z)) npl npo G (tb1.ne J (by intro ps z;cases z));generalize mW:VbpcakNeutral.step s (dQ c)=st at*;have abS:PyFlat.told (D++[st.2])++PyFlat.told (vc VbpcakNeutral.step st.1 (Wc.map dQ))=h9 ns:=by rw[<-heq,b5];show _=PyFlat.told D++PyFlat.told ((VbpcakNeutral.step s (dQ c)).2::vc VbpcakNeutral.step (VbpcakNeutral.step s (dQ c)).1 (Wc.map dQ));rw[mW];unfold PyFlat.told;rw[cV,bR,bR,dv,bZ,bJ]
   have hlen:(PyFlat.told D).length+(1+st.2.length)<=10000000:=by have:=congrArg List.length abS;unfold PyFlat.told at this;rw[cV,bR,dv,bZ,aG,aG,aK] at this;unfold PyFlat.told;lia
   have Sk:br=16777216:=d8;refine⟨.inl ⟨Z,_, .of B⟩,pl,_,Z, .inl (.of zf),p,_,_,Z,Z,B,?_,?_⟩
   .rw[aE];lia
   rw[aE];refine⟨.inl ⟨Z,_, .of aH⟩,p,pl,_,_,Z,Z,aH,(aL ((aS J gr).symm)).trans zf,?_,?_⟩
   .rw[aG,aE,aE];show(PyFlat.told D).length+1+st.2.length<=br;lia
   rw[gq];have kp4:fk H3 (upd H3 p (.lst ((PyFlat.told D).map V.int++[V.int (st.2.length:Int)]++st.2.map V.int))) [p]:=ik;have abT:p≠mF:=by
    rcases h1 with h1|h1
    .rw[h1];exact npl
    .exact aS J h1
   have abU:p≠lu:=by
    rcases l with l|l
    .rw[l];exact npo
    .exact aS J l
   have hA':(∀H',jD K H' a (ns.map V.int))\/((∃u,upd H' r (.ins CR dr (rf a ((z+1:Nat):Int))) a=aa u)/\a≠lh/\a≠lo/\a≠p/\a≠Pt):=by
    rcases hA with h|⟨⟨u,h⟩,hh⟩
    .exact .inl h
    .exact .inr ⟨⟨u,(aL ar).trans h⟩,hh⟩
   have sq4:jD K (upd H3 p (.lst ((PyFlat.told D).map V.int++[V.int (st.2.length:Int)]++st.2.map V.int))) a (ns.map V.int):=by
    rcases hA' with h|⟨_,L,M,N,O⟩
    .exact h _
    .exact Ig kp4 (fun _=>by simpa using N) (Ig kp3 (fun _=>by simp[ab,ar,L,M,O]) A.sq)
   have Zl:r≠p:=bF G;refine⟨⟨st.1,fs',as',mF,lu,z',f2,Wc,D++[st.2],_,_,⟨B3.abP kp4 B abT abU,(aL Zl).trans R3,sq4,ab,ar,rb⟩,tb3.upd B (by intro ps z;cases z) (by intro c y z;cases z),?_,abT,abU,?_,by rw[<-ht];exact adf,Wv.2,hz',abS,Z⟩,?_⟩
   .rw[aH];unfold PyFlat.told;rw[cV,bR,dv,bZ,a_,b5,bJ];rfl
   .rcases hA' with h|⟨⟨u,w⟩,L,M,N,O⟩
    .exact .inl h
    .refine .inr ⟨⟨u,(aL N).trans (abR a u w ab L M ar O)⟩,?_,?_,N,O⟩
     .rcases h1 with h1|h1
      .rw[h1];exact L
      .exact aS w h1
     .rcases l with l|l
      .rw[l];exact M
      .exact aS w l
   .rw[aL Zl,R3,e.rd];show((ns.length:Int)-(z':Int)).toNat<((ns.length:Int)-(z:Int)).toNat;lia
  .have Dr:=AA c1;rw[(jH (by lia))] at Zb;have:=Nr Zb;subst this;have e9:PyFlat.told D=h9 ns:=by rw[<-heq];exact(bZ _).symm
   rw[e9] at hq;exact k H' p hq
 .rintro σ H' Q1 Q2 h z;dsimp only[tB,F6] at z⊢;obtain⟨v,hv,r',dr',fs',rfl,e2,e3,_,d2,a2,ns2,z2,e5,e6,kk,e7,z⟩:=FW z;exact CG hv ⟨_,dr',fs',Z,e2,e3,_,d2,a2,ns2,z2,e5,e6,kk,e7,h _ _ z⟩
end
end
section
open PySem.W PySem.Calls
abbrev rS:OpenSpec:=iV
theorem LV{c:Params}{h:Heap}:∀{ns:List Int} {vs:List bj},WellAll c h vs (ns.map .int)->Vals (ns.map V.int) vs
 |[],_,x=>by cases x;exact .nil
 |n::r,_,x=>by cases x with|cons a b=>cases a;exact .cons ⟨_,Z⟩ (LV b)
theorem LW{R:WRecords}{cl:Str->Option Addr}{h:Heap}:∀{ns:List Int} {vs:List bj},Vals (ns.map V.int) vs->∃as,ReadsAllW R cl h vs (ns.map .int) as
 |[],_,x=>by cases x;exact⟨_, .nil⟩
 |n::r,_,x=>by cases x with|cons a b=>obtain⟨t,rfl⟩:=a;obtain⟨as,q⟩:=LW b;exact⟨_, .cons (.int n t) q⟩
theorem Kc{k:Nat}{q:b7}{loose:List Str}{XP:(Str->Option bj)->Heap->Prop}{YP:cW->Heap->Prop}{d W:DefRec}{K:Params->aM}{c Pt fN:Addr}
  (X:rS.wellSaid=af) (hr:jI k callerA) (hdn:W∈recsOf q)
  (hY:∀(w:cW) (h:Heap),YP w h->(K w.params).In h) (O:∀w:cW,PySem.W.codeHdIn (K w.params) c Pt=af) (B:∀w:cW,(K w.params).lookup Pt=ae)
  (XE:∀w:cW,qO (K w.params) hX W.name=aa (aa (.ref fN))/\∃o fd,(K w.params).lookup fN=aa o/\o.data= .func fd/\fd.code= .ref c)
  (F:∀(w:cW) (mg:Str->Option bj) (P:Addr),mg d.name=aa (.ref P)->∀base:Heap,(K w.params).In base->base.Ns hX mg->Mk0 base mg c Pt->Ky rS.prog w (K w.params) mg base k P ["calls"] (LS (K w.params) Pt)):
  PySem.W.WalkOS q loose XP YP rS d [] (fun f vs=>PySem.call f vs):=by
 intro w Cz g mg mb G Y P o pm cd doc dV kV ho hd adP hD hmg hg J L as JF adg NX VN EU
 obtain⟨⟨ns,u⟩,e1,Q⟩:=PySem.W.os_pre_some JF
 obtain⟨e3,Y_⟩:=Codec.encAll_of_decAll rS.args J (ns,u) e1
 subst e3
 have D:=hY w _ Y
 replace B:=B w
 have hF:=F w mg P hmg
 have i:g.heap.TableAt c Pt #[]:=by
  obtain⟨a',o',fd',c',P',h1,E,l,S,h5,s⟩:=G.T.tab W hdn
  obtain⟨n1,o2,fd2,n2,n3,n4⟩:=XE w
  rw[um D G.T.g n1] at h1
  cases h1
  rw[D _ _ n2] at E
  cases E
  rw[n3] at l
  cases l
  rw[n4] at S
  cases S
  obtain⟨o3,vs3,f1,f2,f3,f4⟩:=s.1
  obtain⟨o4,vs4,_,_,_,_,_,_,_,g1,g2,g3,g4,_⟩:=ID D (O w)
  rw[f1] at g1
  cases g1
  rw[f3] at g3
  cases g3
  rw[f4] at g4
  cases g4
  exact s
 replace O:=O w
 generalize K w.params=K at*
 have adh:WellAll w.params g.heap L [.list (ns.map WData.int)]:=VN
 clear VN
 cases adh with
 |cons x1 x2=>
 cases x2
 cases x1 with
 | @list a vs _ I qX=>
 have hv:=LV qX
 have hct:=i.isCodeTable
 replace i:=i.2
 have nPt:∀{b:Addr} {o:Obj},g.heap.get? b=aa o->(∀vs,o.data≠ .fields vs)->b≠Pt:=fun e d z=>by
  rw[z,i] at e
  cases e
  exact d _ Z
 have t:(ns.map V.int).length<=br:=by
  rw[hv.length]
  have z2:WData.weightAll (ns.map WData.int)<=1048576:=(PySem.W.layableW_iff.mp (gD.mp adg _ aT)).2.2
  have:=PySem.W.length_le_weightAllW (ns.map WData.int)
  have l1:=hv.length
  rw[aE] at this l1
  exact bY (by lia) (show 1048576<=br by decide)
 obtain⟨H,M,T,hS⟩:∃H:Hp,H Pt=aa (.kX #[])/\(∀b u,H b=aa u->b=Pt/\u= .kX #[]\/b=a/\K.lookup a=ae/\u= .N9 ⟨.type "list",ae, .seq vs.toArray 0,#[]⟩ (.lst (ns.map V.int)))/\jD K H a (ns.map V.int):=by
  refine⟨fun b=>if b=Pt then aa (.kX #[]) else if b=a/\K.lookup a=ae then aa (.N9 ⟨.type "list",ae, .seq vs.toArray 0,#[]⟩ (.lst (ns.map V.int))) else ae,ai Z,fun b u e=> ?_,?_⟩
  .grind
  .cases hk:K.lookup a with
   |none=>exact .inl (.inr ⟨_,(ak (nPt I fun _ z=>nomatch z)).trans (ai ⟨Z,Z⟩)⟩)
   |some o=>
    have Q:=D a o hk
    rw[I] at Q
    cases Q
    exact .inr ⟨_,vs.toArray,_,hk,Z,Z,Z,by simpa [hv.length] using t,by exact hv⟩
 have gT:vd rS.prog w H g.heap:=fun b u q=>by
  rcases T b u q with⟨rfl,rfl⟩|⟨rfl,_,rfl⟩
  .exact i
  .exact⟨I,t,vs,_,hv,I⟩
 have Y8:∀{b:Addr} {o:Obj},g.heap.get? b=aa o->(∀vs n,o.data≠ .seq vs n)->(∀vs,o.data≠ .fields vs)->H b=none:=fun{b o} e d1 d2=>by
  cases q:H b with
  |none=>rfl
  |some u=>
   rcases T b u q with⟨z,_⟩|⟨z,_⟩
   .rw[z,i] at e
    cases e
    exact az Z (d2 _)
   .rw[z,I] at e
    cases e
    exact az Z (d1 _ _)
 have j:∀{b:Addr} {m:Str->Option bj},g.heap.Ns b m->(IE g.heap H).Ns b m:=fun{b m} ⟨o,es,ep,e,d,r⟩=>⟨o,es,ep,zz e (Y8 e (by rw[d];intro vs n z;cases z) (by rw[d];intro vs z;cases z)),d,r⟩
 have C:K.In (IE g.heap H):=fun b o e=>zz (D b o e) (by
  cases q:H b with
  |none=>rfl
  |some u=>
   rcases T b u q with⟨z,_⟩|⟨z,y,_⟩
   .rw[z,B] at e
    cases e
   .rw[z,y] at e
    cases e)
 have M0:Mk0 (IE g.heap H) mg c Pt:=by
  obtain⟨o,es,ep,e,d,_⟩:=id G.T.g
  refine⟨ID C O,?_,fun z=> ?_⟩
  .obtain⟨bm,ob,h1,E,l,S,h5,s⟩:=G.T.bmain
   refine⟨bm,ob,h1,E,fun z=> ?_,fun z=> ?_,zz l (Y8 l (by rw[s];intro vs n z;cases z) (by rw[s];intro vs z;cases z)),S,h5,s⟩
   .rw[<-z,l] at e
    cases e
    rw[s] at d
    cases d
   .rw[z,i] at l
    cases l
    cases s
  .rw[z,i] at e
   cases e
   cases d
 obtain⟨fd,_,hbd,hF⟩:=hF _ C (j G.T.g) M0
 refine PySem.W.enter_call (mO (hF.run callerA [] g H ⟨[.ref a],[]⟩ [.ref a] [.ref a] _ hr ⟨Z,⟨C,j G.T.g,⟨mb,j G.T.b,G.T.builtins⟩,let ⟨mc,h1,E⟩:=G.T.nolimit;⟨mc,j h1,E⟩⟩,fun b o e=>SS e,yT (Mb _ _),trivial,fun b hb=>(nomatch hb),gT, .of_eq hg⟩ (hbd g [.ref a] D Z) (.cons rfl .nil) (⟨a,ns,hS,Q, .inl M,fun H' p hp=>show∃p,V.ref _= .ref p/\_ from⟨p,Z,hp⟩⟩:LS K Pt H (fun v H'=>∃p,v= .ref p/\H' p=aa (.lst ((h9 ns).map V.int))) _)) fun r s' x=> ?_)
 cases r with
 |error e=>exact x.elim
 |ok fl=>
 cases fl with
 |ret u=>
  obtain⟨v,H',os,bare,un,YK,r',p,rfl,hp⟩:=x
  obtain⟨A,adi⟩:=un.BG Pt _ M
  have N:s'.heap.get? Pt=aa {cls:= .none,data:= .fields (#[]++A)}:=YK Pt _ adi
  cases r'
  obtain⟨_,its,n,rv,hq⟩:=YK p _ hp
  obtain⟨as,NX⟩:=LW (R:=[]) (cl:=classAt Cz.heap) (h:=s'.heap) rv
  have kept:∀b o,b≠Pt->g.heap.get? b=aa o->s'.heap.get? b=aa o:=fun b o n e=>by
   cases U:H b with
   |none=>exact un.keep b o e U (fun z=>nomatch z) (by simp)
   |some u2=>
    rcases T b u2 U with⟨z,_⟩|⟨z,_,z3⟩
    .exact az z n
    .rw[z3] at U
     rw[z,I] at e
     cases e
     exact z▸((YK a _ (un.zw a _ _ (z▸U))).1)
  exact⟨.inl ⟨_,_,_,Z,fun _=>rfl,ReadsW.list hq Z rfl NX,(OpenSpec.post_iff X Y_ _ _).mpr rfl,fun z=>SG (show ag=af from z)⟩,⟨fun b o e=>by
   by_cases n:b=Pt
   .subst n
    rw[i] at e
    cases e
    exact .inr (.inl ⟨hct,Z,#[],A,Z,N⟩)
   .exact .inl (kept b o n e),fun b o e=>by
   by_cases n:b=Pt
   .subst n
    exact⟨_,N⟩
   .exact⟨o,kept b o n e⟩⟩,os,bare⟩
 |_=>exact x.elim
end
end D
open PySem PySem.W PyProof.Rows PySem.Calls
namespace D
set_option maxHeartbeats 0 in
theorem abX:sreFenced rS.prog.main=true:=by decide+kernel
set_option maxHeartbeats 0 in
theorem abY:((moduleNames rS.prog.main.body).isEmpty||lookedIntoSs (moduleNames rS.prog.main.body) rS.prog.main.body)=true:=by decide+kernel
set_option maxHeartbeats 0 in
theorem abZ:namesResolve rS.prog=true:=by decide+kernel
set_option maxHeartbeats 0 in
theorem ab0:rS.prog.boundNames.all (fun n=> !worldNames.contains n)=true:=by decide+kernel
set_option maxHeartbeats 0 in
theorem ab1:noRoadLSs {strict:= !(importedModules rS.prog.main.body).all cThrough.contains,foot:=ae,bare:=(["vars","dir","locals"]:List Str).filter (readsOut rS.prog rS.prog.main.body)} rS.prog.main.body=true:=by decide+kernel
set_option maxHeartbeats 0 in
theorem ab2:(namesMeet rS.prog rS.prog.main.body fun _ n=>attrL n)=true:=by decide+kernel
set_option maxHeartbeats 0 in
theorem ab3:(rS.prog.boundNames.contains rS.name&& !startupNames.contains rS.name&&specDef rS.prog rS.name rS.args.length&&rS.args.all Codec.fits&&rS.ret.ok)=true:=by decide+kernel
theorem YL:rS.wellSaid=true:=by have h:=ab3;simp only[bq] at h;unfold OpenSpec.wellSaid looksOpen;rw[abX,abY,abZ,ab0,ab1,ab2,h.1.1.1.1,h.1.1.1.2,h.1.1.2,h.1.2,h.2];rfl
end D
namespace D
open PySem PySem.Spec PyProof.Rows L2
section
variable {P:b7} {w:cW} {K:aM} {h base:Heap} {mg:Str->Option bj}
theorem bz0{F:List bj->Prop}(h:F []):∀b:List bj,b.length=0->F b:=fun b e=>by
 cases b with
 |nil=>exact h
 |cons a b=>cases e
theorem bz1{F:List bj->Prop}{n:Nat}(h:∀a,∀b:List bj,b.length=n->F (a::b)):∀b:List bj,b.length=n+1->F b:=fun b e=>by
 cases b with
 |nil=>cases e
 |cons a b=>exact h a b (Nat.succ.inj e)
theorem fm{x q:Str}{st:Stmt}{ps:List Str}{f:Addr}{oc:bj}{od d:Option Addr}{h:Array (Option bj)}{kV a e g ct:bj}
  (l:K.lookup f=aa ⟨oc,od, .func (nj x q (qh st) (oF st) (fZ st) .none kV a e d g ct),h⟩:=by k_is) (c:Bq K g q=true:=by k_is) (k:jh K (.ref f)=true:=by k_is)
  (i:∀(kV a e:bj) (d:Option Addr) (j ct:bj) (b:List bj),b.length=ps.length->bindArgs (nj x q (qh st) (oF st) (fZ st) .none kV a e d j ct) ⟨b,[]⟩=pure (ps.zip b):=by intro _ _ _ _ _ _;repeat (first|exact bz0 Z|refine bz1 fun _=> ?_)):Fn K x q st ps f g:=⟨oc,od,kV,a,e,d,ct,h,l,c,k,fun s b _ hl=> .of_eq (i _ _ _ _ _ _ b hl)⟩
theorem mi(X:K.In h)(G:h.Ns hX mg){x:Str}{z:Int}{t:Tok}(e:qO K hX x=aa (aa (.int z t)):=by k_is):∃t,mg x=aa (.int z t):=⟨_,um X G e⟩
theorem ms(X:K.In h)(G:h.Ns hX mg){x:Str}{z:Str}{t:Tok}(e:qO K hX x=aa (aa (.str z t)):=by k_is):∃t,mg x=aa (.str z t):=⟨_,um X G e⟩
theorem mn(X:K.In h)(G:h.Ns hX mg){x:Str}(e:qO K hX x=aa none:=by k_is):mg x=none:=PySem.W.mg_none_of X G e
theorem mr(X:K.In h)(G:h.Ns hX mg){x:Str}{f:Addr}(e:qO K hX x=aa (aa (.ref f)):=by k_is):mg x=aa (.ref f):=um X G e
theorem tp{a:Addr}{od:Option Addr}{its:Array bj}{n:Nat}{b:Array (Option bj)}{xs:List V}(l:K.lookup a=aa ⟨.type "tuple",od, .seq its n,b⟩:=by k_is)(hv:Vals xs its.toList:=by repeat first|exact .nil|refine .cons ⟨_,Z⟩ ?_|refine .cons rfl ?_)(hs:its.size<=br:=by decide):∀H,oW K H a xs:=fun H=> .inr ⟨_,its,n,l,Z,Z,hs,hv⟩
theorem cm{C:Addr}(a:md K C Str.empty=true:=by k_is)(b:oQ K C=true:=by k_is)(c:wu K C=true:=by k_is)(d:f_ K (.ref C) "__setattr__"=aa (aa (.builtin "object.__setattr__")):=by k_is):Kx K C:=⟨a,b,c,d⟩
theorem na{C:Addr}{f:Str}(e:f_ K (.ref C) f=aa none:=by k_is):qg K C f:=e
theorem Bk{P:b7}{w:cW}{knd:Wx P w Key}:∀{b:List DictEntry} {vs:List (Key×bj)},Pairs knd b vs->b.map (·.hash)=vs.map (fun kv=>knd.hash kv.1)->∀e∈b,∃k,knd.is k e.key=af/\e.hash=knd.hash k
 |_,_, .nil,_,e,a=>nomatch a
 |_,_, .cons (e:=g) (kv:=kv) h1 h c,hh,e,a=>by
  rw[b5,b5] at hh;injection hh with d f;rcases aZ.mp a with rfl|a
  .exact⟨kv.1,h1,d⟩
  .exact Bk c f e a
def rvL(b:List (Key×V)):List (Key×bj):=b.map fun p=>(p.1,match p.2 with| .ref a=> .ref a|_=> .none)
theorem UP{a:Addr}{o:Obj}{c:Array DictEntry}{f:Nat}{b:List (Key×V)}(l:K.lookup a=aa o:=by k_is)(ex:o.ExactDict:=by exact⟨Z,Z,Z⟩)(d:o.data= .dict c f:=by rfl)(hs:(a==iq)=false:=by decide)(pr:Pairs (gp P w) c.toList (rvL b):=by repeat first|exact .nil|refine .cons rfl rfl ?_)(hh:c.toList.map (·.hash)=(rvL b).map (fun kv=>(gp P w).hash kv.1):=by rfl)(nd:((rvL b).map (·.1)).Nodup:=by decide+kernel)(kv:KV b (rvL b):=by repeat first|exact .nil|refine .cons ⟨Z,Z⟩ ?_):Js P w K a b:=⟨hs,fun h X=>⟨_,kv,o,c,f,X _ _ l,ex,d,fun e g=>Bk pr hh e (fU.mpr g),pr,nd⟩⟩
end
end D
namespace PySem.W
structure Fast:Prop where
 (tw11242699511955437991 tw4219208021326779666 tw4913564959397022342 tw17043450329926697083 tw12480792118154464427 tw14666626852115975321 tw14810023523023050296 tw10090619269180523915 tw2586051068028323401 tw8734090035592929067 tw14057657791389581026 tw11244159702059217270 tw6528017282963647822 tw13786323666649568589 tw1140659508914366430 tw1990230293894630459 tw18074800494866455151 tw1711432761094581083 tw10228639618290804633 tw16330839764138018743 tw18372964193389717339 tw11717011530239898012 tw3870016573896303941 tw16878497736633955968 tw2854501163258445363 tw14760141253679781178 tw2478000827175387666 tw8007909382219694760 tw15960217803727590314 tw12791753374311222976 tw17544769244836484393 tw11472523349476967785 tw4813340905067686221 tw12771270531883361558 tw13526438167383686833 tw1085453331687792208 tw14572947128180737671 tw13826374743131913249 tw11753262602582785953 tw3416225697025381912 tw842349321907502440 tw1581048733119820618 tw6088905613595913815 tw4851900391321658351 tw6530655019003804593 tw5619428861576534498 tw3682800190607974467 tw9402234050629082746 tw1824653670195401502 tw9152280551001317732 tw9523101563276830839 tw14979051307539749926 tw8681267645965464694 tw5804224119149988793 tw10232255976776164715 tw4688012887802569658 tw2288066764016248666 tw17368339609129662845 tw10039779939274257525 tw1027662819090067516 tw5788010712776321640 tw5966452836978756084 tw352184837055873631 tw15973727834156526232 tw1470264299053610056 tw14445457854256398292 tw17903283353848572824 tw11039691004045754942 tw16477629610270028649 tw6156154139807620233 tw14490011308475099205 tw3094738592631074315 tw68240180679695043 tw8963090090012678513 tw14847314509229198628 tw8177600168707771688 tw12427121179519781386 tw14119349695061492237 tw15788605425225158801 tw9309396255549668320 tw5604952082502763178 tw10652534699983043497 tw7172298967386537481 tw16881305724759470727 tw6965435238336027205 tw3062442894486349593 tw17893741656491506426 tw16744300660200264833 tw8307370962319894168 tw856279404589814794 tw12346973053957628194 tw12669826745421522154 tw8942744337802265676 tw1900614125660680900 tw13014879045797792457 tw13970756137980809686 tw17853409093283378857 tw8100745035701645250 tw3260823076132523630 tw15423810872838105718 tw6535720229497829553 tw2075456861844414523 tw13093982460280164612 tw9801990052847870584 tw1607243139559077308 tw10363775774028552215 tw10398092873608477160 tw2097485719404604205 tw18041648355017536724 tw2972634253443615037 tw3165198197784421212 tw5609887630313375603 tw9410825744137662068 tw9362144180578799026 tw16521179126980230156 tw10211960216443977862 tw2829550890936715582 tw1899579814126731642 tw11910239916069863767 tw12894750232121076320 tw9268799185321147124 tw2332162456409677698 tw8818070583246097499 tw17268500610890197955 tw2046868737712460237 tw10066112305170587406 tw8612212676847229560 tw16026096150088205478 tw18435443001798720385 tw1563601590456052837 tw14899571489880962565 tw720657998136506090 tw10371932744481115835 tw268638970274418277 tw12512760641490016026 tw14723734409222949188 tw11841988839793457286 tw1058815911182482950 tw12449975615460972583 tw16994883683180030669 tw13336408626586672120 tw12004545147815463087 tw14653889015600642639 tw13155954822641872616 tw3844062562875166381 tw11417126962216679993 tw12022621963365549440 tw7629198087928141743 tw12379904111909939438 tw10734298875031764552 tw4619291034076375220 tw16851488475690843906 tw1020519110040055339 tw5916757979777817720 tw9374709412420666946 tw17463699648631130356 tw406761001639631879 tw422928630254913314 tw14450965259001280630 tw2839495469127261710 tw14308664003736395895 tw12459937394045091153 tw329693194958972614 tw8825532020680977855 tw7682172796620858304 tw13390872994095857576 tw12300533986793535380 tw13234610271385367514 tw16009816586618201332 tw17677061477755969359 tw15783338362903287523 tw15708394890820033768 tw13897156227363764390 tw12879879312342992916 tw11767640697594675849 tw10821772622181504807 tw8008230451058609863 tw13767926537149605667 tw10799016104768213628 tw7787672538876409815 tw10893083364312749798 tw16908519154317922488 tw3891280070810075831 tw5201286875530809635 tw8850455407402388825 tw6302229351611829999 tw1496598853644004206 tw15450639376949729871 tw8279170030815734680 tw18404390324886589254 tw5741328878884622073 tw16811759037259299513 tw4002115681246142923 tw16426795131533191268 tw12393831062759873752 tw8944102752235334274 tw7546933114927006569 tw4061436024670289273 tw11985190974135695694 tw5039559303809799378 tw994166942817507278 tw16596165025205132063 tw18404184689859246929 tw8597337203249694668 tw9496083876469474926 tw12250680416154634979 tw12105019863004231144 tw13612545941164760164 tw1608131926630384844 tw6217387298400880426 tw6019801717110423341 tw4464547038614364846 tw5789220147913319572 tw3652447657345318489 tw3289472285797612336 tw17762190965544797785 tw10445304252377702790 tw11382995104371152878 tw9033478828722955259 tw15468625448323866982 tw10749477741022149341 tw16208580835745932405 tw7249582927866066625 tw13299929535799932341 tw4135364955544058239 tw9837629685729219053 tw7697312598456089504 tw1329389837881316058 tw14497203421232778126 tw5742070884862891561 tw10098109821642315388 tw11830731287060300765 tw668344092441935743 tw17869062467078003727 tw15030834568868347189 tw12564688785825055073 tw5925853244810863779 tw14092284834254345368 tw3716764261157242969 tw9654056054537519493 tw10940491728600360360 tw4069117945790505790 tw16040430029683462199 tw1906990434018899108 tw12430981019635383627 tw11738573619402583338 tw8128192891465858755 tw9657336086118399906 tw9576078484771503481 tw17450354003957481786 tw3818850349955840275 tw12479101245104721432 tw8128646672033065148 tw16607658462602448314 tw4235727929314308257 tw7944904308828359481 tw5888967196190262431 tw3134642682337478103 tw16783693180374909239 tw1018082328283177255 tw7438491564461408581 tw12213399163999538860 tw7453603506594428942 tw11849019094482235003 tw14588734148652575003 tw16457455459640802652 tw7056634714379051914 tw9580510477311654109 tw17745434266828700569 tw13386394812910821430 tw3084953508175186684 tw17873636553658814004 tw6235564084713530580 tw10857229257998872033 tw8616700524577004319 tw16059597298503649572 tw7442461090081977889 tw1518414198742180098 tw14006330736498857856 tw5311146775654622215 tw822995436490443906 tw2931557548583592968 tw1500466703211069458 tw10312363748544156051 tw17733122054720502481 tw6541816223235670871 tw12576085842585207424 tw8658482860608397338 tw18429050682529776512 tw14271526366012833337 tw5063126667992425011 tw1063653824806528870 tw9408833161419541114 tw4924054839998940921 tw6663748857739639313 tw11108791446231175860 tw978383556787803740 tw872532742640336277 tw17666745765142717058 tw6948409455784948375:True)
end PySem.W
def Q2:PySem.Program:={iU with main:={iU.main with body:=[D.top 130,D.top 181]}}
noncomputable def L2s:List y6:=[aD "WRONG_FIT",aD "TOO_MANY_ROWS",aD "GREATEST_SIDE_fitting",aD "GREATEST_GAP",aD "MOST_UPRIGHT_ROWS",aD "count_along",aD "best_fit",aD "fit_boards",aD "OUT_OF_RANGE",aD "POINT_TAKEN",aD "TOO_MANY_HOLES",aD "TOO_MANY_IN_PANEL",aD "GREATEST_DIAMETER",aD "MOST_HOLES",aD "MOST_IN_PANEL",aD "is_on_board",aD "is_point_taken",aD "is_panel_too_full",aD "add_hole",aD "are_all_on_board",aD "have_unlike_points",aD "load_holes",aD "order_without",aD "drop_hole",aD "diameters",aD "numbers_of_diameter",aD "count_left",aD "HOME",aD "way",aD "step",aD "round_length",aD "kept_length",aD "count_changes",aD "steps_from",aD "step_table",aD "NO_CHANGE",aD "best_turn",aD "detour",aD "best_move",aD "turned",aD "moved",aD "change_once",aD "improve_order",aD "is_order",aD "cheapest",aD "walk_cheapest",aD "nearest_order",aD "grouped_order",aD "WRONG_PANEL",aD "PANEL_TOO_LARGE",aD "MOST_COLUMNS",aD "MOST_ROWS",aD "GREATEST_PANEL_SIDE",aD "is_panel_in_range",aD "change_panel",aD "is_turned",aD "copied_holes",aD "panel_holes",aD "find_hole",aD "Reader",aD "KNOWN_SIGNS",aD "OTHER_SIGN",aD "WRONG_SIGN",aD "LEAST_WORD_BYTE",aD "GREATEST_WORD_BYTE",aD "BYTE_COUNT",aD "COMMENT",aD "MOST_DIGITS",aD "sign_table",aD "lines_of",aD "has_wrong_byte",aD "words_of",aD "is_passed_over",aD "is_number",aD "bytes_of",aD "NUMBER_RANGES",aD "MOST_LOOPS",aD "Program",aD "is_in_range",aD "has_right_form",aD "has_right_place",aD "add_line",aD "read_line",aD "read_program",aD "WRONG_LINE",aD "TOO_MUCH",aD "MOST_LINES_DONE",aD "MOST_DRILLED",aD "Machine",aD "do_tool",aD "do_to",aD "do_go",aD "do_here",aD "do_at",aD "do_by",aD "do_run",aD "DOINGS",aD "line_behind_rep",aD "line_behind_end",aD "do_line",aD "is_too_much",aD "run_program",aD "run_text",aD "rest_through",aD "numbers_left",aD "shortest_rest",aD "shortest_rests",aD "first_onward",aD "shortest_round",aD "FIRST_WIDTH",aD "FIRST_HEIGHT",aD "FIRST_CHANGE_COST",aD "GREATEST_SIDE_state",aD "GREATEST_CHANGE_COST",aD "WRONG_BOARD",aD "Board",aD "renew_board",aD "grown_tree",aD "children_lists",aD "walked_order",aD "PROGRAM_WITHOUT_HOLES",aD "MOST_IN_RUN",aD "tool_line",aD "point_line",aD "rep_line",aD "kept_holes",aD "offset",aD "run_size",aD "run_line",aD "program_lines",aD "copy_lines",aD "panel_tool_lines",aD "panel_program_lines",aD "NO_ORDER",aD "WRONG_BUDGET",aD "TOO_MANY_FOR_BEST",aD "PANEL_TURNS_COPIES",aD "GREATEST_BUDGET",aD "MOST_FOR_BEST",aD "told_holes",aD "told_program",aD "call_board",aD "call_hole",aD "call_drop",aD "call_holes",aD "call_tools",aD "call_order",aD "call_set_order",aD "call_length",aD "call_nearest",aD "call_grouped",aD "call_improve",aD "call_best",aD "call_tree",aD "call_walk",aD "call_panel",aD "call_panelholes",aD "call_find",aD "call_fit",aD "call_program",aD "call_panelprogram",aD "call_run",aD "call_check",aD "call_load",aD "CALLS"]
local macro_rules| `(tactic|refine $h (q:= $q) (loose:= $l) $as*)=> `(tactic|refine($h (q:=Q2) (loose:=L2s) $as*))
open PySem PySem.W PyProof.Rows D L2
set_option maxRecDepth 100000 in
set_option maxHeartbeats 0 in
theorem PySem.Challenge.cw_drillrounds_s01_answers_holds : PySem.Challenge.rw_drillrounds_s01_answers.Holds := by
 have YL:iV.wellSaid=true:=D.YL;w_on;k_headS;(case hw=>exact⟨[.list [.int 3]],by decide+kernel,by decide+kernel⟩);obtain⟨dn,hdn,C9⟩:∃dn∈recsOf Q2,dn.name=("nearest_left":Str):=by
  have h:((recsOf Q2).any fun dn=>ah (dn.name=("nearest_left":Str)))=true:=by decide+kernel
  obtain⟨dn,h1,h2⟩:=zq.mp h;exact⟨dn,h1,aq h2⟩
 refine Kc (k:=9) (c:=646) (Pt:=642) (fN:=647) D.YL ⟨rfl,by decide,by decide⟩ hdn (fun w h Y=>kIn_of Y) (fun w=>rfl) (fun w=>rfl) (fun w=> ?n) (fun w mg fa hmg base X G M0=> ?f);case n=>rw[C9];exact⟨by k_is,_,_,by k_is,rfl,rfl⟩
 have T:Txt rS.prog w (_root_.PySem.Challenge.cw_drillrounds_s01_answers_holds.heap_1 w.params) base mg:=by
  constructor;case mk0=>exact M0
  case gc=>exact⟨_,mr X G,fm⟩
  case mth=>
   intro n hn;iterate 9 (obtain _|n:=n;exact⟨cm,_,_,⟨by k_is,by k_is,by k_is⟩,fm⟩)
   lia
  all_goals repeat' first|exact UP|refine List.forall_mem_cons.2 ⟨?_,?_⟩|exact fun _ h=>nomatch h|exact mn X G|exact mi X G|exact ms X G|exact mr X G|exact⟨cm,na⟩|exact⟨by k_is,by k_is⟩|exact tp|exact⟨_,_,mr X G,fm⟩
 obtain⟨f,h1,h2⟩:=Kb T;cases h1.symm.trans hmg
 exact h2
