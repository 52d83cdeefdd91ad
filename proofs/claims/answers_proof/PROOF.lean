import PyProof.Rows.All
import Wide.All
import OpenK.AllK
import Wide.FinOn
import PyProof.EqAt
import PyProof.EqKinds
import PyProof.TupleCall
import KE.BitLaws
import KE.OsGo
import Open.SpecLaws
import PySem.Challenge.RW_fewregisters_s01_answers
set_option Elab.async false
set_option linter.all false
set_option maxRecDepth 100000
set_option maxHeartbeats 4000000
open PyProof.Rows renaming AllBare->uL,Call_->O6,Constant_none->Z2,FormattedValue_plain->avO,IntsAre->aaw,bitAnd_not->ayp,bitAnd_pn->ayq,bitAnd_pp->ayo,callWith_builtin1->axG,callWith_type1->JC,iadd_int->axF,in_str->ax6,join_list->ax2,join_tuple->ax3,notIn_str->ax7,signs_ofString->axY,split_le->ax1,toString_length_le->ax0,Subscript_->aag,bitAnd_np->ZP,bitAnd_pp->Jp,boot_enumerate->avx,envOfC->qV,joinParts_cons->avP,nat_or_add_and->OV,subscriptTail->aah,subscriptTail_builtinR->au2
open PySem renaming Around->cX,BindsTo->C_,DictEntry->Pn,Expr->bf,FuncData->bg,IsEnum->Df,IsRangeIter->auK,Keyword->sM,Model->zK,NameKind->k6,Operator->C5,KeyKind->aur,Within->ZW,boot_len->dQ,call->av2,evalArgs_none->avc,intText?->avJ,intText_digits->awi,intText_neg->awh,mem_of_lookup->lP,Result->JH,Shared->aw,World->a9,assign->zM,assignEach->C7,atKey->uS,attributeBase->mS,backTo->jI,backToKw->zQ,behindInMarks->zL,binaryOp->oj,bindArgs->sH,bindC->xV,bindL->xU,bootBuiltins->kg,builtinsNs->ZZ,call->mQ,call_list_seq->avb,call_meets->xW,call_meetsIn->aan,call_range_1->auM,callerA->Dk,cellsFrom->iQ,checkBuiltinCall->Pu,checkTypeCall->avX,codeAny->sG,codeAny_call_builtin->Pw,codeAny_mono->sI,compEnvC->oo,compPost->aam,compareOp->jJ,comprehension->avj,evalPart_none->au1,excClassObj->aay,foldedSetIterable->O7,getAttr->JF,getItem->zN,handedOut->aaB,holding->CZ,inplaceOp->xS,intBits_le_64->auN,interactive->auH,isTrue->Jw,keywordEach->zR,leaving->aaf,letOwnedTupleGo->O4,mainGlobals->mO,model->aR,newFunctionEnv->avh,noteFrame->JR,notedBy->De,operate->aai,pastItsLine_dict->auV,plainObj_wpAny_Assign_Attribute->auX,pushCells->xX,pushCells_keeps->Ph,pyIter->JA,pyNext->Jz,raiseStmt->aaC,rangeSize_one->auL,rawInt->sF,seqIndex_neg->Pa,seqIndex_of->O_,setAttr->JG,setFlight->JV,setItem->O2,sizeLine_eq->JD,sliceBounds->zU,standAt->Jx,starEach->cJ,storeName->Z0,strLen_append->avQ,strValues->aas,subscripted->Pb,swapsWith->sE,sysModules->oh,tupleKind->CY,tupleKind_room_in1->JS,typeIs_int->aaj,typeIs_str->zS,typeLookup->om,unaryOp->Z4,valueAt->lQ,wpAny->aM,wpAny_Assign_Name->auJ,wpAny_Call_Name_kw->xT,wpAny_Call_method->aap,wpAny_Name->Z1,wpAny_assign_Name->auI,wpAny_bind->cv,wpAny_call->JJ,wpAny_execs_cons->Z3,wpAny_execs_nil->C6,wpAny_field->Pr,wpAny_getItem_list_neg->au3,wpAny_getItem_of->avm,wpAny_holding->O3,wpAny_in_of->avn,wpAny_isSubtype_exc->avU,wpAny_isTrue_Compare1->auF,wpAny_letOwnedTupleGo_enum->avw,wpAny_loadName_cell->auB,wpAny_loadName_local->auA,wpAny_loadPart'->Py,wpAny_loadPart_at->uV,wpAny_lookBehind->auU,wpAny_mono->k4,wpAny_newObj_type->avk,wpAny_nextOf_list_end->avY,wpAny_notIn_of->avo,wpAny_nsSet1->auT,wpAny_passesOwn->zO,wpAny_pure->eQ,wpAny_pyIter_enum->Po,wpAny_pyIter_list->JB,wpAny_pyIter_revIter->avt,wpAny_pyIter_zip->avz,wpAny_setField->aaz,wpAny_standAt->C8,wpAny_truthy_bool->uM,wpAny_typeLookup_exc->JX
open PySem.Around renaming under->aac
open Array renaming find?_toList->auR,getElem?_eq_some_iff->JW,length_toList->Jy,toList->auG
open PySem.AutoListH renaming list___mul___list_int_3->axW
open PySem.AutoSeq1 renaming list_extend_list_list_0->axT
open Bool renaming and_eq_true->eW,and_false->ZK,and_true->ZN,eq_iff_iff->fu,false_and->O5,false_eq_true->kX,false_ne_true->gq,false_or->avl,not_false->awg,not_true->awf,or_assoc->auo,or_eq_true->Pl,or_false->au5,true_and->Jm
open PySem.Builtin.Int renaming intBits->avM,intBits->PH
open PySem.Builtin.List renaming listFitsIndex->axV,listTooLong->Pf
open PySem.Builtin.Range renaming rangeSize->axf
open PySem.Builtin.Str renaming occurrences->aat,partsBetween->avH,strKind->uT,strSliceIndices->uU,strKind->avE
open PySem.Builtin renaming bitAnd->auQ,bitOr->Z5,bitXor->Z6,bitAnd->gO,bitNot->gP,bitOr->lO,bitXor->OX
open PySem.Calls renaming Name_function_global->auC,callWith_builtin->JP,evalArgs_plain->Pe,spliced_cons->C9,spliced_nil->O9
open Char renaming toNat->JT
open Classical renaming byContradiction->uK,not_forall->axc,not_imp->axd
open PySem.CmpOp renaming In->auD,NotIn->auE
open PySem.Code renaming frames->auY,isFrame->aad
open PySem.DictEntry renaming refKey->axC
open PySem.EntryCells renaming newEntry->avS
open PySem.F renaming args_str_split_2->aav,entry_str_split->aau,slot_dict_items->avv,slot_int_rmul->ave,slot_str_split->Pp,args_dict_get_3->avr,attrBase_Exception->Px,entry_dict_get->avq,excBase_Exception->Pt,plainAttrs_dict->avs,plainAttrs_list->aax,slot_dict_get->aao,slot_dict_getitem->avp,slot_dict_setdefault->avN,store_Exception->avV
open False renaming elim->iA
open ForInStep renaming yield->Pk
open Function renaming comp->ays,comp_def->ayt
open PySem.Heap.DictOf renaming new->axX
open PySem.Heap.IsSliceOf renaming new->axH
open PySem.Heap.Ns1 renaming of_empty->auW
open PySem.Heap renaming SameBut->Jv,get?_push_of_some->fc,get?_push_size->h7,get?_update_ne->avW,get?_update_other->zT,get?_update_self->Pc,lt_size->cR,size_push->mR
open Ql59.Ins renaming fetch->at9,keep->ayr
open Int renaming add_comm->auc,fdiv_eq_ediv_of_nonneg->auP,mul_le_mul_of_nonneg_left->auh,natAbs_eq->ZS,natCast_nonneg->auO,neg_tmod->aud,tdiv_eq_ediv_of_nonneg->OY,tmod_eq_emod_of_nonneg->aue,tmod_nonneg->auf,toNat_natCast->gR
open Ql59.Item renaming ins->qQ,label->OQ
open List renaming all_cons->Pd,all_eq_true->uR,all_map->Jq,any_cons->zI,any_eq_true->ON,append_assoc->kf,append_nil->qR,cons_append->n_,contains_eq_mem->aui,countP_cons->atW,dropLast_concat_getLast->aul,drop_drop->Dg,drop_eq_getElem_cons->xY,drop_eq_nil_of_le->PD,drop_zero->avB,ext_getElem?->at6,filterMap_append->Jn,filterMap_cons->Jo,filter_append->kU,filter_congr->OJ,filter_cons->kb,filter_cons_of_neg->OT,filter_cons_of_pos->OU,filter_eq_nil_iff->CS,filter_eq_self->ZM,filter_filter->ZL,filter_sublist->su,find?_append->auk,find?_cons->qP,find?_eq_none->xH,findIdx?_append->av8,findIdx?_cons->av9,findIdx?_eq_none_iff->OP,findIdx?_eq_some_iff_getElem->OO,flatMap_append->aaE,flatMap_cons->xP,flatten_cons->JQ,foldl->OZ,foldl_append->lN,foldl_cons->og,foldl_nil->ZO,forIn_nil->avg,getD_eq_getElem?_getD->ef,getElem?_append_left->qS,getElem?_append_right->uQ,getElem?_cons_zero->avu,getElem?_eq_getElem->mN,getElem?_eq_none->zG,getElem?_eq_some_iff->d0,getElem?_map->qJ,getElem?_of_mem->zX,getElem?_range->uI,getElem?_replicate->qO,getElem?_set_ne->hX,getElem?_set_self->i7,getElem?_take->av5,getElem?_take_of_lt->JM,getElem?_zipIdx->atV,getElem_inj->xM,intercalate->sS,length->sN,length_append->cj,length_cons->cG,length_drop->sO,length_eq_zero_iff->CU,length_filter_le->uJ,length_map->aA,length_nil->sP,length_pos_iff->avD,length_range->OK,length_set->mM,length_singleton->avd,length_take->fw,lookup->qT,lookup_cons->zV,map_append->gA,map_congr_left->ke,map_cons->cM,map_map->kY,map_nil->jH,map_replicate->Dl,map_set->uX,mem_append->eO,mem_append_left->hZ,mem_append_right->iz,mem_cons->cu,mem_cons_of_mem->dn,mem_cons_self->pE,mem_eraseDups->atU,mem_filter->fq,mem_filterMap->CT,mem_flatMap->xF,mem_map->kW,mem_map_of_mem->awc,mem_of_find?_eq_some->OM,mem_of_getElem?->cP,mem_or_eq_of_mem_set->awb,mem_range->CP,mem_range'_1->aua,mem_singleton->sy,mem_zipIdx_iff_getElem?->OR,nil_append->sC,nodup_append->lM,nodup_cons->qN,nodup_nil->at5,nodup_range->xG,not_mem_nil->hU,of_mem_zip->aae,range->bD,range'->at8,range_succ->sm,replicate->cW,replicate_succ->Dc,reverse_cons->aub,size_toArray->eY,sum_append->at0,sum_cons->qL,takeWhile_cons->at7,take_add_one->OS,take_append_drop->Jr,take_of_length_le->eX,take_zero->avC,toList_toArray->avI,zip->z7,zipIdx_append->auj
open List.cons renaming inj->mT,injEq->axe
open PySem.MeetsSeq renaming list_pop_last->axU
open PySem.NameKind renaming cell->aal,free->Dd
open Nat renaming add_assoc->Jh,add_comm->ZU,add_mul->PF,add_zero->Jj,and_comm->ZQ,and_le_left->ZR,and_le_right->at3,and_two_pow_sub_one_eq_mod->Jl,digitChar->aar,div_add_mod->OH,eq_of_testBit_eq->qK,exists_testBit_of_ne_zero->ZH,ge_two_pow_of_testBit->ZG,le_add_right->xO,le_of_eq->JI,le_of_lt->Ju,le_of_not_lt->aaJ,le_of_succ_le->Pj,le_refl->aX,le_succ->sJ,le_trans->i8,log2_lt->avL,lt_irrefl->qM,lt_of_le_of_lt->uH,lt_of_lt_of_le->eP,lt_or_ge->lL,lt_pow_two_of_testBit->at1,lt_succ_of_lt->aak,lt_succ_self->aab,lt_two_pow_self->atX,min_eq_left->aaH,mod_eq_of_lt->at4,mod_lt->OI,mul_add->awd,mul_comm->Pg,mul_le_mul_right->av7,ne_of_gt->zP,ne_of_lt->gQ,or_lt_two_pow->OW,pow_le_pow_right->sq,pow_succ->CQ,strongRecOn->avA,sub_zero->Jk,succ_ne_self->avy,testBit_and->jG,testBit_eq_decide_div_mod_eq->ZJ,testBit_lt_two_pow->zF,testBit_mod_two_pow->ZI,testBit_or->xK,testBit_two_pow->uG,testBit_two_pow_mul_add->xI,testBit_two_pow_sub_one->Ji,testBit_xor->xJ,toDigits->Dh,toDigits_of_lt_base->avF,two_pow_pos->n8,xor_lt_two_pow->atZ,zero_add->OG,zero_le->iO,zero_testBit->atY
open Ne renaming symm->mP
open PySem.NumText renaming AllDigits->avG,digitsVal->PR
open PySem.Obj renaming data_mapFields->aaA,isFreed_of_fields->avT,mapFields->zW,mapSeq->JO
open Option renaming getD_none->au6,getD_some->ZF,isSome_iff_exists->au0,isSome_map->Pm,isSome_some->avi,map_eq_some_iff->avf,map_some->zE,none->Pq
open Option.some renaming inj->eB,injEq->OL
open Or renaming inl->JU,inr->Dj
open PySem.PassesOwn renaming leaving->awj,never->fP
open Prod renaming fst->av_,snd->awa
open Prod.mk renaming injEq->aun
open PySem.PyData renaming keyHash->pG
open PyFlat renaming call->Js,calls->xQ,played->z6,row->aum,rows->zH,told->z4
open PyQl59 renaming answers->uW,answers_asked->PB,calls->awl,shape->kZ,whole->gT
open PySem.Challenge renaming pw_fewregisters_s01_answers->ayn,rw_fewregisters_s01_answers->aya
open PySem.EqMixed renaming eq_bool_str->axl,eq_int_str->axn,eq_str_bool->axp,eq_str_int->axq,ne_bool_str->axw,ne_int_str->axy,ne_str_bool->axA,ne_str_int->axB
open PySem.EqNone renaming eq_bool_none->axk,eq_int_none->axm,eq_none_bool->axh,eq_none_int->axi,eq_none_none->axg,eq_none_str->axj,eq_str_none->axo,ne_bool_none->axv,ne_int_none->axx,ne_none_bool->axs,ne_none_int->axt,ne_none_none->axr,ne_none_str->axu,ne_str_none->axz
open PySem.IsL renaming update->axS
open PySem.SC renaming startswith->ax4
open PySem.StrLaws renaming found_one->avK,sliceText->Di,sliceText_nat->ax9,strSliceIndices_plain->ax8,subAt_eq->ayu
open PySem.W.Codec renaming and_of->ayd,inInt->ayc,inInt_iff->ayf,inList->ayb,inNat_iff->aye,map_inj->ayh
open PySem.W.Dflts renaming noKw->aym,none->ayl
open PySem.W renaming Frag->aV,WData->avZ,WalkOS->av1,callWith_K->JK,cellsFrom_some->auZ,codeIn->JN,emptyDict->uO,findIn->uN,fnOf->jK,handedIn->auS,hasDictIn->O8,hideAll->auw,hideAll_get->auy,hideAll_none->ZY,instObj->xR,isFn->JL,keepIn->qU,lookIn->Z7,makesIn->Z_,methodObj->ZX,mg_of->PV,nsIn->k7,nsOkIn->avR,ns_none_of->Pz,of_hideAll->auz,plainGet->JE,plainOver->Z8,takerIn->Z9
open PySem.W.KIN renaming call_text->ax5,signs_num->axZ
open PySem.W.Looks renaming here->axD,of_pure->ax_
open PySem.W.OpenSpec renaming post_iff->ayk,pre_iff->av0
open PySem.W.WData renaming int->sQ,list->ayg
open PySem.W.WData.int renaming inj->ayi
open PySem.W.WData.list renaming inj->ayj
open PySem.Within renaming cons->axE
open Ql59 renaming Abs->ot,B->bo,Code->d6,HALF->uZ,Ins->ck,LONG->x8,Live->av6,MANY->aaK,MOST->JZ,ROOM->awk,Read->jn,St->aaF,VARS->Dm,Work->fg,allocated->jo,assigned->uY,begun->pF,behindLast->PN,calcOf->av3,changed->oq,coloured->PM,degree->zZ,digit->lS,givesOf->fO,insOf->aH,intOf->z3,kept->awe,line->ZT,lineOf->iB,liveBehind->zY,liveSets->aaI,meets->jL,most->xZ,name->fh,natOf->sU,nexts->av4,numbered->f_,ops->PQ,parted->eZ,read->Dn,right->kh,runs->lR,spec->ow,spilled->PJ,step->k8,target->bN,txt->du,upd->qW,usesOf->gS,words->qX,wrap->aaD
open Ql59Neutral renaming asked->awm,asked1->aaL,byteInts->J0,callOf->ou,long->aaM,most->O0,natural->i_,octets->x6,step->cS,whole64->PU
open PySem.SeqAt renaming EqAt->au7
open PySem.SeqAt.EqAt renaming bool_bool->axL,bool_int->axM,bool_none->axK,bool_str->axN,int_bool->axO,int_int->axP,int_none->au_,int_str->aus,none_bool->axJ,none_int->au8,none_str->au9,same->axI,str_bool->axQ,str_int->aut,str_none->ava,str_str->axR
open PySem.Str renaming empty->aaa,join->aaq,length->au4,ofString->cY
open Sum renaming inl->bT,inr->aJ
open Sum.inl renaming inj->zJ
open Sum.inr renaming inj->Jt
open True renaming intro->uP
open UInt8 renaming ofNat->aaG,toNat_inj->xN
open PySem.Value renaming bool->CW,builtin->JY,bytes->auu,float->auv,int->CV,isInt->aup,isStrOf->auq,none->i9,ref->c9,str->O1,type->ZV
section
variable{a0 a1 a2 a3 a4 a5 a6:Type}{r:Prop}{A0 A1 A2 A3 A4 A5 A6:Prop}{B0 B1 B2 B3 B4:a0->Prop}{C0 C1 C2 C3 C4:a0->a1->Prop}{D0 D1 D2 D3 D4 D5 D6:a0->a1->a2->Prop}{E0 E1 E2 E3 E4 E5:a0->a1->a2->a3->Prop}{F0 F1 F2 F3:a0->a1->a2->a3->a4->Prop}{G0 G1 G2 G3 G4:a0->a1->a2->a3->a4->a5->Prop}{H0 H1 H2 H3:a0->a1->a2->a3->a4->a5->a6->Prop}
def b8(h0:A0)(h1:A1)(h:A2):A0/\A1/\A2:=⟨h0,h1,h⟩
def pH(h0:A0)(h1:A1)(h2:A2)(h:A3):A0/\A1/\A2/\A3:=⟨h0,h1,h2,h⟩
def k9(h0:A0)(h1:A1)(h2:A2)(h3:A3)(h:A4):A0/\A1/\A2/\A3/\A4:=⟨h0,h1,h2,h3,h⟩
def sV(h0:A0)(h1:A1)(x)(h2:B0 x)(h:B1 x):A0/\A1/\∃x,B0 x/\B1 x:=⟨h0,h1,x,h2,h⟩
def cg(h0:A0)(x)(h1:B0 x)(h:B1 x):A0/\∃x,B0 x/\B1 x:=⟨h0,x,h1,h⟩
def k_(h0:A0)(x)(y)(h1:C0 x y)(h:C1 x y):A0/\∃x y,C0 x y/\C1 x y:=⟨h0,x,y,h1,h⟩
def aF(x)(h0:B0 x)(h:B1 x):∃x,B0 x/\B1 x:=⟨x,h0,h⟩
def aW(x)(h0:B0 x)(h1:B1 x)(h:B2 x):∃x,B0 x/\B1 x/\B2 x:=⟨x,h0,h1,h⟩
def d7(x)(h0:B0 x)(h1:B1 x)(h2:B2 x)(h:B3 x):∃x,B0 x/\B1 x/\B2 x/\B3 x:=⟨x,h0,h1,h2,h⟩
def ki(x)(y)(h:C0 x y):∃x y,C0 x y:=⟨x,y,h⟩
def cD(x)(y)(h0:C0 x y)(h:C1 x y):∃x y,C0 x y/\C1 x y:=⟨x,y,h0,h⟩
def aB(x)(y)(h0:C0 x y)(h1:C1 x y)(h:C2 x y):∃x y,C0 x y/\C1 x y/\C2 x y:=⟨x,y,h0,h1,h⟩
def cC(x)(y)(h0:C0 x y)(h1:C1 x y)(h2:C2 x y)(h:C3 x y):∃x y,C0 x y/\C1 x y/\C2 x y/\C3 x y:=⟨x,y,h0,h1,h2,h⟩
def gU(x)(y)(h0:C0 x y)(h1:C1 x y)(h2:C2 x y)(h3:C3 x y)(h:C4 x y):∃x y,C0 x y/\C1 x y/\C2 x y/\C3 x y/\C4 x y:=⟨x,y,h0,h1,h2,h3,h⟩
def pI(x)(y)(z)(h0:D0 x y z)(h:D1 x y z):∃x y z,D0 x y z/\D1 x y z:=⟨x,y,z,h0,h⟩
def fQ(x)(y)(z)(h0:D0 x y z)(h1:D1 x y z)(h:D2 x y z):∃x y z,D0 x y z/\D1 x y z/\D2 x y z:=⟨x,y,z,h0,h1,h⟩
def kj(x)(y)(z)(h0:D0 x y z)(h1:D1 x y z)(h2:D2 x y z)(h:D3 x y z):∃x y z,D0 x y z/\D1 x y z/\D2 x y z/\D3 x y z:=⟨x,y,z,h0,h1,h2,h⟩
def iC(x)(y)(z)(h0:D0 x y z)(h1:D1 x y z)(h2:D2 x y z)(h3:D3 x y z)(h:D4 x y z):∃x y z,D0 x y z/\D1 x y z/\D2 x y z/\D3 x y z/\D4 x y z:=⟨x,y,z,h0,h1,h2,h3,h⟩
def u6(x)(y)(z)(h0:D0 x y z)(h1:D1 x y z)(h2:D2 x y z)(h3:D3 x y z)(h4:D4 x y z)(h5:D5 x y z)(h:D6 x y z):∃x y z,D0 x y z/\D1 x y z/\D2 x y z/\D3 x y z/\D4 x y z/\D5 x y z/\D6 x y z:=⟨x,y,z,h0,h1,h2,h3,h4,h5,h⟩
def gC(x)(y)(z)(u)(h0:E0 x y z u)(h1:E1 x y z u)(h2:E2 x y z u)(h3:E3 x y z u)(h:E4 x y z u):∃x y z u,E0 x y z u/\E1 x y z u/\E2 x y z u/\E3 x y z u/\E4 x y z u:=⟨x,y,z,u,h0,h1,h2,h3,h⟩
def cO(x)(y)(z)(u)(h0:E0 x y z u)(h1:E1 x y z u)(h2:E2 x y z u)(h3:E3 x y z u)(h4:E4 x y z u)(h:E5 x y z u):∃x y z u,E0 x y z u/\E1 x y z u/\E2 x y z u/\E3 x y z u/\E4 x y z u/\E5 x y z u:=⟨x,y,z,u,h0,h1,h2,h3,h4,h⟩
def sW(x)(y)(z)(u)(v)(h0:F0 x y z u v)(h1:F1 x y z u v)(h2:F2 x y z u v)(h:F3 x y z u v):∃x y z u v,F0 x y z u v/\F1 x y z u v/\F2 x y z u v/\F3 x y z u v:=⟨x,y,z,u,v,h0,h1,h2,h⟩
def jq(x)(y)(z)(u)(v)(w)(h0:G0 x y z u v w)(h1:G1 x y z u v w)(h2:G2 x y z u v w)(h:G3 x y z u v w):∃x y z u v w,G0 x y z u v w/\G1 x y z u v w/\G2 x y z u v w/\G3 x y z u v w:=⟨x,y,z,u,v,w,h0,h1,h2,h⟩
def kl(x)(y)(z)(u)(v)(w)(h0:G0 x y z u v w)(h1:G1 x y z u v w)(h2:G2 x y z u v w)(h3:G3 x y z u v w)(h:G4 x y z u v w):∃x y z u v w,G0 x y z u v w/\G1 x y z u v w/\G2 x y z u v w/\G3 x y z u v w/\G4 x y z u v w:=⟨x,y,z,u,v,w,h0,h1,h2,h3,h⟩
def lg(x)(y)(z)(u)(v)(w)(s)(h0:H0 x y z u v w s)(h1:H1 x y z u v w s)(h2:H2 x y z u v w s)(h:H3 x y z u v w s):∃x y z u v w s,H0 x y z u v w s/\H1 x y z u v w s/\H2 x y z u v w s/\H3 x y z u v w s:=⟨x,y,z,u,v,w,s,h0,h1,h2,h⟩
def aq(h0:B0 x)(h:B1 x):∃x,B0 x/\B1 x:=⟨_,h0,h⟩
def eA(h:A0/\A1)(k:A0->A1->r):r:=k h.1 h.2
def cT(h:A0/\A1/\A2)(k:A0->A1->A2->r):r:=k h.1 h.2.1 h.2.2
def fz(h:A0/\A1/\A2/\A3)(k:A0->A1->A2->A3->r):r:=k h.1 h.2.1 h.2.2.1 h.2.2.2
def fi(h:A0/\A1/\A2/\A3/\A4)(k:A0->A1->A2->A3->A4->r):r:=k h.1 h.2.1 h.2.2.1 h.2.2.2.1 h.2.2.2.2
def iR(h:A0/\A1/\A2/\A3/\A4/\A5)(k:A0->A1->A2->A3->A4->A5->r):r:=k h.1 h.2.1 h.2.2.1 h.2.2.2.1 h.2.2.2.2.1 h.2.2.2.2.2
def pJ(h:A0/\A1/\A2/\A3/\A4/\A5/\A6)(k:A0->A1->A2->A3->A4->A5->A6->r):r:=k h.1 h.2.1 h.2.2.1 h.2.2.2.1 h.2.2.2.2.1 h.2.2.2.2.2.1 h.2.2.2.2.2.2
def ja(h:A0/\A1/\∃x,B0 x/\B1 x)(k:A0->A1->∀x,B0 x->B1 x->r):r:=let⟨h0,h1,x,h2,h⟩:=h;k h0 h1 x h2 h
def mU(h:A0/\A1/\∃x,B0 x/\∃y z u,E0 x y z u/\E1 x y z u)(k:A0->A1->∀x,B0 x->∀y z u,E0 x y z u->E1 x y z u->r):r:=let⟨h0,h1,x,h2,y,z,u,h3,h⟩:=h;k h0 h1 x h2 y z u h3 h
def iD(h:A0/\∃x,B0 x/\B1 x)(k:A0->∀x,B0 x->B1 x->r):r:=let⟨h0,x,h1,h⟩:=h;k h0 x h1 h
def pK(h:A0/\∃x y,C0 x y/\C1 x y)(k:A0->∀x y,C0 x y->C1 x y->r):r:=let⟨h0,x,y,h1,h⟩:=h;k h0 x y h1 h
def u7(h:A0/\∃x y,C0 x y/\C1 x y/\C2 x y)(k:A0->∀x y,C0 x y->C1 x y->C2 x y->r):r:=let⟨h0,x,y,h1,h2,h⟩:=h;k h0 x y h1 h2 h
def eE(h:∃x,B0 x)(k:∀x,B0 x->r):r:=h.elim λx h=>k x h
def ar(h:∃x,B0 x/\B1 x)(k:∀x,B0 x->B1 x->r):r:=h.elim λx h=>k x h.1 h.2
def bc(h:∃x,B0 x/\B1 x/\B2 x)(k:∀x,B0 x->B1 x->B2 x->r):r:=h.elim λx h=>k x h.1 h.2.1 h.2.2
def u9(h:∃x,B0 x/\B1 x/\B2 x/\B3 x/\B4 x)(k:∀x,B0 x->B1 x->B2 x->B3 x->B4 x->r):r:=h.elim λx h=>k x h.1 h.2.1 h.2.2.1 h.2.2.2.1 h.2.2.2.2
def lh(h:∃x y,C0 x y)(k:∀x y,C0 x y->r):r:=h.elim λx h=>h.elim λy h=>k x y h
def bZ(h:∃x y,C0 x y/\C1 x y)(k:∀x y,C0 x y->C1 x y->r):r:=h.elim λx h=>h.elim λy h=>k x y h.1 h.2
def bb(h:∃x y,C0 x y/\C1 x y/\C2 x y)(k:∀x y,C0 x y->C1 x y->C2 x y->r):r:=h.elim λx h=>h.elim λy h=>k x y h.1 h.2.1 h.2.2
def lj(h:∃x y,C0 x y/\C1 x y/\C2 x y/\C3 x y)(k:∀x y,C0 x y->C1 x y->C2 x y->C3 x y->r):r:=h.elim λx h=>h.elim λy h=>k x y h.1 h.2.1 h.2.2.1 h.2.2.2
def iE(h:∃x y,C0 x y/\C1 x y/\C2 x y/\C3 x y/\C4 x y)(k:∀x y,C0 x y->C1 x y->C2 x y->C3 x y->C4 x y->r):r:=h.elim λx h=>h.elim λy h=>k x y h.1 h.2.1 h.2.2.1 h.2.2.2.1 h.2.2.2.2
def sX(h:∃x y,C0 x y/\C1 x y/\∃z,D0 x y z/\D1 x y z/\D2 x y z)(k:∀x y,C0 x y->C1 x y->∀z,D0 x y z->D1 x y z->D2 x y z->r):r:=let⟨x,y,h0,h1,z,h2,h3,h⟩:=h;k x y h0 h1 z h2 h3 h
def gb(h:∃x y z,D0 x y z/\D1 x y z)(k:∀x y z,D0 x y z->D1 x y z->r):r:=h.elim λx h=>h.elim λy h=>h.elim λz h=>k x y z h.1 h.2
def bR(h:∃x y z,D0 x y z/\D1 x y z/\D2 x y z)(k:∀x y z,D0 x y z->D1 x y z->D2 x y z->r):r:=h.elim λx h=>h.elim λy h=>h.elim λz h=>k x y z h.1 h.2.1 h.2.2
def fR(h:∃x y z u,E0 x y z u/\E1 x y z u)(k:∀x y z u,E0 x y z u->E1 x y z u->r):r:=h.elim λx h=>h.elim λy h=>h.elim λz h=>h.elim λu h=>k x y z u h.1 h.2
def ox(h:∃x y z u,E0 x y z u/\E1 x y z u/\E2 x y z u/\E3 x y z u/\E4 x y z u/\E5 x y z u)(k:∀x y z u,E0 x y z u->E1 x y z u->E2 x y z u->E3 x y z u->E4 x y z u->E5 x y z u->r):r:=h.elim λx h=>h.elim λy h=>h.elim λz h=>h.elim λu h=>k x y z u h.1 h.2.1 h.2.2.1 h.2.2.2.1 h.2.2.2.2.1 h.2.2.2.2.2
def qY(h:∃x y z u v,F0 x y z u v/\F1 x y z u v)(k:∀x y z u v,F0 x y z u v->F1 x y z u v->r):r:=h.elim λx h=>h.elim λy h=>h.elim λz h=>h.elim λu h=>h.elim λv h=>k x y z u v h.1 h.2
def lT(h:∃x y z u v,F0 x y z u v/\F1 x y z u v/\F2 x y z u v)(k:∀x y z u v,F0 x y z u v->F1 x y z u v->F2 x y z u v->r):r:=h.elim λx h=>h.elim λy h=>h.elim λz h=>h.elim λu h=>h.elim λv h=>k x y z u v h.1 h.2.1 h.2.2
def dS(h:∃x y z u v w,G0 x y z u v w)(k:∀x y z u v w,G0 x y z u v w->r):r:=h.elim λx h=>h.elim λy h=>h.elim λz h=>h.elim λu h=>h.elim λv h=>h.elim λw h=>k x y z u v w h
def sY(h:∃x y z u v w,G0 x y z u v w/\G1 x y z u v w)(k:∀x y z u v w,G0 x y z u v w->G1 x y z u v w->r):r:=h.elim λx h=>h.elim λy h=>h.elim λz h=>h.elim λu h=>h.elim λv h=>h.elim λw h=>k x y z u v w h.1 h.2
def oy(h:∃x y z u v w s,H0 x y z u v w s/\H1 x y z u v w s)(k:∀x y z u v w s,H0 x y z u v w s->H1 x y z u v w s->r):r:=h.elim λx h=>h.elim λy h=>h.elim λz h=>h.elim λu h=>h.elim λv h=>h.elim λw h=>h.elim λs h=>k x y z u v w s h.1 h.2
end
namespace Z
open Ql59
variable{c:Code}{v i:Nat}
def aaN{α:Type} [BEq α] [LawfulBEq α] {a:α}{l:List α}:a∈l.eraseDups<->a∈l:=by exact atU
def aaO(c:Code)(k:Nat):(liveBy c k).length=(insOf c).length:=by
 cases k with
 |zero=>simp[liveBy]
 |succ k=>simp[liveBy,liveStep]
def u_(c:Code)(l:List (List Nat))(i v:Nat):v∈(liveStep c l).getD i []<->
  ∃x,(insOf c)[i]?=some x/\(v∈usesOf x\/(givesOf x≠some v/\∃j∈nexts c i,v∈l.getD j [])):=by
 unfold liveStep;rw[ef,qJ,atV];cases h:(insOf c)[i]?with
 |none=>simp
 |some x=>
  simp only[zE,ZF,OG,aaN,eO,fq,xF];constructor
  ·rintro(h1|⟨⟨j,h1,h2⟩,h3⟩)
   ·exact aF x rfl (.inl h1)
   ·exact aF x rfl (.inr (cg (by simpa using h3) j h1 h2))
  ·rintro⟨y,hy,h⟩;cases hy;rcases h with h1|⟨h3,j,h1,h2⟩
   ·exact .inl h1
   ·exact .inr ⟨aF j h1 h2,by simpa using h3⟩
theorem PX{c:Code}{v:Nat}:∀{k i:Nat},v∈(liveBy c k).getD i []->Live c v i
 |0,i,h=>by
  exfalso;rw[liveBy,ef,qJ]at h;cases e:(insOf c)[i]?<;>simp[e]at h
 |k+1,i,h=>by
  rw[liveBy,u_]at h;refine ar h λx hx h=>?_;rcases h with h|⟨h1,j,h2,h3⟩
  ·exact .used i x hx h
  ·exact .on i j x hx h1 h2 (PX h3)
theorem PY{c:Code}{v:Nat}:∀{k i:Nat},v∈(liveBy c k).getD i []->v∈(liveBy c (k+1)).getD i []
 |0,i,h=>by
  exfalso;rw[liveBy,ef,qJ]at h;cases e:(insOf c)[i]?<;>simp[e]at h
 |k+1,i,h=>by
  rw[liveBy,u_]at h;rw[liveBy,u_];refine ar h λx hx h=>?_;refine aF x hx ?_;rcases h with h|⟨h1,j,h2,h3⟩
  ·exact .inl h
  ·exact .inr (cg h1 j h2 (PY h3))
def z8(c:Code)(v k:Nat):Nat:=(bD (insOf c).length).countP λi=>decide (v∈(liveBy c k).getD i [])
def aaP(c:Code)(v k:Nat):z8 c v k<=(insOf c).length:=by have h:=List.countP_le_length (p:=λi=>decide (v∈(liveBy c k).getD i [])) (l:=bD (insOf c).length);simpa[z8]using h
theorem PZ{α:Type}{p q:α->Bool}:∀{l:List α},(∀a∈l,p a=true->q a=true)->(∃a∈l,p a=false/\q a=true)->l.countP p<l.countP q
 |[],_,⟨a,h,_⟩=>by simp at h
 |x::r,hi,⟨a,ha,h1,h2⟩=>by
  have hle:r.countP p<=r.countP q:=List.countP_mono_left λb hb=>hi b (dn _ hb);rcases cu.mp ha with rfl|jr
  ·rw[List.countP_cons_of_neg (by simp[h1]),List.countP_cons_of_pos h2];lia
  ·have:=PZ (l:=r) (λb hb=>hi b (dn _ hb)) (aW a jr h1 h2);have hx:=hi x (by simp);rw[atW,atW];split<;>split<;>simp_all<;>lia
def aaQ{k:Nat}(h:v∈(liveBy c k).getD i []):i<(insOf c).length:=by
 rw[ef]at h;cases e:(liveBy c k)[i]?with
 |none=>simp[e]at h
 |some x=>have:=(d0.mp e).1;rwa [aaO]at this
def aaR(c:Code)(v k:Nat):(∀i,v∈(liveBy c (k+1)).getD i []->v∈(liveBy c k).getD i [])\/z8 c v k<z8 c v (k+1):=by
 by_cases h:∀i,v∈(liveBy c (k+1)).getD i []->v∈(liveBy c k).getD i []
 ·exact .inl h
 ·right;obtain⟨i,hi⟩:=axc.mp h;obtain⟨h1,h2⟩:=axd.mp hi;exact PZ (λa _ ha=>by simpa using PY (by simpa using ha)) ⟨i,CP.mpr (aaQ h1),by simpa using h2,by simpa using h1⟩
theorem P0{c:Code}{v k:Nat}(h:∀i,v∈(liveBy c (k+1)).getD i []->v∈(liveBy c k).getD i []):
  ∀m i,v∈(liveBy c (k+m+1)).getD i []->v∈(liveBy c (k+m)).getD i []
 |0,i,hi=>h i hi
 |m+1,i,hi=>by
  have e1:k+(m+1)+1=(k+m+1)+1:=by lia
  have e2:k+(m+1)=(k+m)+1:=by lia
  rw[e1,liveBy,u_]at hi;rw[e2,liveBy,u_];refine ar hi λx hx hi=>?_;refine aF x hx ?_;rcases hi with hi|⟨h1,j,h2,h3⟩
  ·exact .inl hi
  ·exact .inr (cg h1 j h2 (P0 h m j h3))
theorem P1(c:Code)(v:Nat):∀k,(∃m,m<k/\∀i,v∈(liveBy c (m+1)).getD i []->v∈(liveBy c m).getD i [])\/k<=z8 c v k
 |0=> .inr (iO _)
 |k+1=>by
  rcases P1 c v k with⟨m,hm,h⟩|h
  ·exact .inl (aF m (by lia) h)
  ·rcases aaR c v k with h'|h'
   ·exact .inl (aF k (by lia) h')
   ·exact .inr (by lia)
def P2(c:Code)(v i:Nat)(h:v∈(liveBy c (rounds c+1)).getD i []):v∈(liveBy c (rounds c)).getD i []:=by
 rcases P1 c v (rounds c)with⟨m,hm,hs⟩|hle
 ·have e:rounds c=m+(rounds c-m):=by lia
  rw[e]at h⊢;exact P0 hs _ i h
 ·have:=aaP c v (rounds c);unfold rounds at hle this;lia
def J1:v∈(liveSets c).getD i []<->Live c v i:=by
 constructor
 ·exact PX
 ·intro h;induction h with
  |used i x hx hu=>
   exact P2 c v i (by rw[liveBy,u_];exact(aF x hx (.inl hu)))
  |on i j x hx hg hj _ ih=>
   exact P2 c v i (by rw[liveBy,u_];exact(aF x hx (.inr (cg hg j hj ih))))
def aaS:Live c v i<->∃x,(insOf c)[i]?=some x/\(v∈usesOf x\/(givesOf x≠some v/\∃j∈nexts c i,Live c v j)):=by
 constructor
 ·intro h;cases h with
  |used _ x hx hu=>exact aF x hx (.inl hu)
  |on _ j x hx hg hj hl=>exact aF x hx (.inr (cg hg j hj hl))
 ·rintro⟨x,hx,h|⟨h1,j,h2,h3⟩⟩
  ·exact .used i x hx h
  ·exact .on i j x hx h1 h2 h3
def sZ:v∈liveBehind c i<->∃j∈nexts c i,Live c v j:=by
 unfold liveBehind;rw[xF];constructor
 ·rintro⟨j,h1,h2⟩;exact⟨j,h1,J1.mp h2⟩
 ·rintro⟨j,h1,h2⟩;exact⟨j,h1,J1.mpr h2⟩
def P4{L:Nat->Nat->Prop}
  (hf:∀i x v,(insOf c)[i]?=some x->(v∈usesOf x\/(givesOf x≠some v/\∃j∈nexts c i,L j v))->L i v) (h:Live c v i):L i v:=by
 induction h with
 |used i x hx hu=>exact hf i x v hx (.inl hu)
 |on i j x hx hg hj _ ih=>exact hf i x v hx (.inr (cg hg j hj ih))
end Z
namespace Z
section
variable{m v n:Nat}{p:Nat->Bool}
def bitsOf(m:Nat):List Nat:=(bD m).filter m.testBit
def J2(h:m.testBit v=true):v<m:=by have h1:2^v<=m:=ZG h;exact eP atX h1
def Dp:v∈bitsOf m<->m.testBit v=true:=by simp only[bitsOf,fq,CP];exact⟨λh=>h.2,λh=>⟨J2 h,h⟩⟩
def J3{n':Nat}(h:∀v,n<=v->p v=false)(hn:n<=n'):(bD n').filter p=(bD n).filter p:=by
 obtain⟨d,rfl⟩:∃d,n'=n+d:=⟨n'-n,by lia⟩;induction d with
 |zero=>rfl
 |succ d ih=>rw[<-Jh,sm,kU,ih (by lia),kb,h (n+d) (by omega)];simp
def Dq(h:m<2^n):bitsOf m=(bD n).filter m.testBit:=by
 have h1:∀v,n<=v->m.testBit v=false:=λv hv=>zF (eP h (sq (by lia) hv));have h2:∀v,m<=v->m.testBit v=false:=λv hv=>by
  cases e:m.testBit v with
  |false=>rfl
  |true=>have:=J2 e;lia
 rcases Nat.le_total m n with J4|J4
 ·exact(J3 h2 J4).symm
 ·exact J3 h1 J4
def aaT(m:Nat):(bitsOf m).Nodup:=xG.sublist su
def aaU:bitsOf 0=[]:=rfl
def J5:(bD n).find? p=some v<->p v=true/\v<n/\∀u,u<v->p u=false:=by rw[List.find?_range_eq_some];simp[CP]
def P5(h:m≠0):∃v,m.testBit v=true/\∀u,u<v->m.testBit u=false:=by
 obtain⟨i,hi⟩:=ZH h;have:∃v,(bD (i+1)).find? m.testBit=some v:=by
  cases e:(bD (i+1)).find? m.testBit with
  |some v=>exact⟨v,rfl⟩
  |none=>rw[xH]at e;exact absurd hi (e i (by simp))
 obtain⟨v,hv⟩:=this;rw[J5]at hv;exact aF v hv.1 hv.2.2
def P6(h:m.testBit v=true)(hl:∀u,u<v->m.testBit u=false):∃q,m=2^(v+1)*q+2^v:=by
 refine⟨m/2^(v+1),?_⟩;have e:m%2^(v+1)=2^v:=by
  apply qK;intro i;rw[ZI,uG];by_cases hi:i<v+1
  ·by_cases hv:v=i
   ·subst hv;simp[h]
   ·have:=hl i (by lia);simp[this,hv]
  ·have:v≠i:=by lia
   simp[hi,this]
 have:=OH m (2^(v+1));lia
def P7(h:m.testBit v=true)(hl:∀u,u<v->m.testBit u=false):m&&&(m-1)=m-2^v/\2^v<=m:=by
 obtain⟨q,hq⟩:=P6 h hl;have hp:0<2^v:=n8 v
 have e1:m-1=2^(v+1)*q+(2^v-1):=by lia
 refine⟨?_,by lia⟩;have e2:m-2^v=2^(v+1)*q+0:=by lia
 rw[e2,e1];have bH:2^v<2^(v+1):=by rw[CQ];lia
 apply qK;intro i;rw[jG,hq,xI q (show 2^v<2^(v+1) from bH),xI q (show 2^v-1<2^(v+1) by lia),xI q (show 0<2^(v+1) by lia)];by_cases hi:i<v+1
 ·simp only[hi,if_true,atY,uG,Ji];by_cases hv:v=i
  ·subst hv;simp
  ·simp[hv]
 ·simp[hi]
def aaV(h:m.testBit v=true)(hl:∀u,u<v->m.testBit u=false):bitsOf m=v::bitsOf (m^^^2^v):=by
 have hm:m<2^m:=atX;have hv:v<m:=J2 h;have hx:m^^^2^v<2^m:=atZ hm (Nat.pow_lt_pow_right (by lia) hv);rw[Dq hm,Dq hx];have key:∀d,v<v+1+d->(bD (v+1+d)).filter m.testBit=v::(bD (v+1+d)).filter (m^^^2^v).testBit:=by
  intro d _;induction d with
  |zero=>
   rw[Jj,sm,kU,kU];have e1:(bD v).filter m.testBit=[]:=by rw[CS];intro u hu;simp[hl u (by simpa using hu)]
   have e2:(bD v).filter (m^^^2^v).testBit=[]:=by
    rw[CS];intro u hu;have:u<v:=by simpa using hu
    simp[xJ,hl u this,uG,show v≠u by lia]
   rw[e1,e2];simp[h,xJ,uG]
  |succ d ih=>
   rw[<-Jh,sm,kU,kU,ih (by lia),n_];congr 1;congr 1;rw[kb,kb,xJ,uG];simp[show v≠v+1+d by lia]
 obtain⟨d,hd⟩:∃d,m=v+1+d:=⟨m-(v+1),by omega⟩;have:=key d (by lia)
 rw[<-hd]at this;exact this
def aaW(h:m.testBit v=true)(hl:∀u,u<v->m.testBit u=false):m^^^2^v=m-2^v:=by
 obtain⟨q,hq⟩:=P6 h hl;have hp:0<2^v:=n8 v
 have e2:m-2^v=2^(v+1)*q+0:=by omega
 have bH:2^v<2^(v+1):=by rw[CQ];omega
 rw[e2];apply qK;intro i;rw[xJ,hq,xI q (show 2^v<2^(v+1) from bH),xI q (show 0<2^(v+1) by omega)];by_cases hi:i<v+1
 ·simp[hi]
 ·simp[hi,uG,show v≠i by lia]
def aaX(h:m.testBit v=true)(hl:∀u,u<v->m.testBit u=false):m^^^2^v<m:=by have:=aaW h hl;have:=(P7 h hl).2;have hp:0<2^v:=n8 v;omega
theorem P8:∀(n m:Nat),m<2^n->((bD n).map λv=>if m.testBit v=true then 2^v else 0).sum=m
 |0,m,h=>by simp at h;simp[h]
 |n+1,m,h=>by
  rw[sm,gA,at0];have e:((bD n).map λv=>if m.testBit v=true then 2^v else 0)=(bD n).map λv=>if(m%2^n).testBit v=true then 2^v else 0:=by apply ke;intro v hv;rw[ZI];simp[CP.mp hv]
  rw[e,P8 n _ (OI _ (n8 n))];have hd:=OH m (2^n)
  have hq:m/2^n<2:=Nat.div_lt_of_lt_mul (by rw[CQ]at h;exact h);have ht:m.testBit n=decide (m/2^n%2=1):=by rw[ZJ]
  simp only[cM,jH,qL,List.sum_nil,ht];have:m/2^n=0\/m/2^n=1:=by generalize m/2^n=q at hq;lia
  rcases this with h0|h0<;>rw[h0]at hd⊢<;>simp<;>lia
end
section
variable{m:Nat}
def cw(m v:Nat):Nat:=m-(m&&&2^v)
def P9(m v:Nat):m&&&2^v=if m.testBit v=true then 2^v else 0:=by
 apply qK;intro i;rw[jG,uG];by_cases hv:v=i
 ·subst hv;split<;>simp_all
 ·split<;>simp[hv,uG]
def va(m v u:Nat):(cw m v).testBit u=(m.testBit u&&decide (u≠v)):=by
 unfold cw;rw[P9];by_cases h:m.testBit v=true
 ·rw[if_pos h];have hp:0<2^v:=n8 v
  have bH:2^(v+1)=2*2^v:=by rw[CQ];lia
  have h1:=OH m (2^(v+1));have hr:m%2^(v+1)<2^(v+1):=OI _ (n8 _);have lU:2^v<=m%2^(v+1):=by apply ZG;rw[ZI];simp[h]
  have e:m-2^v=2^(v+1)*(m/2^(v+1))+(m%2^(v+1)-2^v):=by omega
  rw[e,xI _ (by omega)];have hm:m.testBit u=(2^(v+1)*(m/2^(v+1))+m%2^(v+1)).testBit u:=by rw[h1]
  rw[hm,xI _ hr];by_cases hu:u<v+1
  ·rw[if_pos hu,if_pos hu];generalize hR:m%2^(v+1)=R at*;have e2:R=2^v*1+(R-2^v):=by omega
   have e3:R.testBit u=(2^v*1+(R-2^v)).testBit u:=by rw[<-e2]
   rw[e3,xI _ (show R-2^v<2^v by lia)];by_cases vc:u<v
   ·rw[if_pos vc];simp[show u≠v by lia]
   ·have:u=v:=by lia
    subst this;simp only[qM,if_false,ne_eq,not_true_eq_false,decide_false,ZK];exact zF (by lia)
  ·rw[if_neg hu,if_neg hu];simp[show u≠v by lia]
 ·rw[if_neg h,Jk];by_cases vc:u=v
  ·subst vc;simp at h;simp[h]
  ·simp[vc]
def P_(m v:Nat):cw m v<=m:=Nat.sub_le _ _
def aaY{v:Nat}(h:m.testBit v=true):cw m v<m:=by
 unfold cw;rw[P9,if_pos h];have hp:0<2^v:=n8 v
 have:=ZG h;omega
def x9(m v u:Nat):(m|||2^v).testBit u=(m.testBit u||decide (u=v)):=by rw[xK,uG];congr 1;by_cases h:v=u<;>simp[h,eq_comm]
def lt_pow_of_bits{n:Nat}(h:∀v,m.testBit v=true->v<n):m<2^n:=by
 apply at1;intro i hi;cases e:m.testBit i with
 |false=>rfl
 |true=>have:=h i e;lia
end
end Z
namespace Z
open Ql59
section
variable{n m v own u left d8 gW:Nat}{g:List (Nat×Nat)}{met dU order iS seen:List Nat}
structure Gr (g:List (Nat×Nat)) (met:List Nat) (n:Nat):Prop where
 len:met.length=n
 bit:∀(v m:Nat),met[v]?=some m->∀u,m.testBit u=g.contains (v,u)
 lt:∀v u,g.contains (v,u)=true->v<n/\u<n
 sym:∀v u,g.contains (v,u)=g.contains (u,v)
 irr:∀v,g.contains (v,v)=false
abbrev lst(n m:Nat):List Nat:=(bD n).filter m.testBit
def ve:v∈lst n m<->v<n/\m.testBit v=true:=by simp[lst]
def Dr(n m v:Nat):lst n (cw m v)=(lst n m).filter λu=>u !=v:=by unfold lst;rw[ZL];apply OJ;intro u _;rw[va];by_cases h:u=v<;>simp[h]
def J6(n m:Nat):(lst n m).Nodup:=xG.sublist su
def Ds(n:Nat):lst n (2^n-1)=bD n:=by unfold lst;rw[ZM];intro v hv;rw[Ji];simpa using hv
def aaZ(h:own<=n):(lst n m).filter (λv=>decide (v<own))=lst own m:=by
 unfold lst;rw[ZL];have e:((bD n).filter λv=>decide (v<own)&&m.testBit v)=(bD own).filter λv=>decide (v<own)&&m.testBit v:=
  J3 (λv hv=>by simp[show¬v<own by lia]) h
 rw[e];apply OJ;intro v hv;simp[CP.mp hv]
def Qa(hv:v<n)(h:m.testBit v=true):(lst n m).length=(lst n (cw m v)).length+1:=by
 rw[Dr];have lV:v∈lst n m:=ve.mpr ⟨hv,h⟩
 have lW:=J6 n m;generalize lst n m=l at*;induction l with
 |nil=>simp at lV
 |cons x r ih=>
  rw[qN]at lW;by_cases hx:x=v
  ·subst hx;have:(r.filter λu=>u !=x)=r:=by
    rw[ZM];intro u hu;have:u≠x:=λe=>lW.1 (e▸hu)
    simpa using this
   simp[this]
  ·have hm:v∈r:=by rcases cu.mp lV with h|h;exact absurd h.symm hx;exact h
   have:=ih hm lW.2;simp only[kb,cG];rw[if_pos (by simpa using hx)];simp[this]
def Qb(hv:v<n)(h:m.testBit v=true):
  degree g (lst n m) u=degree g (lst n (cw m v)) u+(if g.contains (u,v)=true then 1 else 0):=by
 unfold degree;rw[Dr];have lV:v∈lst n m:=ve.mpr ⟨hv,h⟩
 have lW:=J6 n m;generalize lst n m=l at*;induction l with
 |nil=>simp at lV
 |cons x r ih=>
  rw[qN]at lW;by_cases hx:x=v
  ·subst hx;have e:(r.filter λu=>u !=x)=r:=by
    rw[ZM];intro u hu;have:u≠x:=λe=>lW.1 (e▸hu)
    simpa using this
   rw[kb (p:=λu=>u !=x),if_neg (by simp),e,kb];split<;>simp
  ·have hm:v∈r:=by rcases cu.mp lV with h|h;exact absurd h.symm hx;exact h
   have:=ih hm lW.2;rw[kb (p:=λu=>u !=v),if_pos (by simpa using hx),kb,kb];split
   ·rw[cG,cG];lia
   ·exact this
def aa0(G:Gr g met n)(hm:met[v]?=some m)(hl:left<2^n):degree g (lst n left) v=(bitsOf (m&&&left)).length:=by have hb:m&&&left<2^n:=uH at3 hl;rw[Dq hb];unfold degree lst;rw[ZL];congr 1;apply OJ;intro u _;rw[jG,G.bit v m hm u]
def Gr.mlt(G:Gr g met n)(hm:met[v]?=some m):m<2^n:=
 lt_pow_of_bits λu hu=>(G.lt v u (by rw[<-G.bit v m hm u];exact hu)).2
def aa1(G:Gr g met n)(hm:met[v]?=some m):degree g (bD n) v=(bitsOf m).length:=by rw[<-Ds n,aa0 G hm (by have:=n8 n;omega)];congr 2;rw[Jl,at4 (G.mlt hm)]
def aa2{left:List Nat}:∀{l:List Nat},most g left l=none->l=[]
 |[],_=>rfl
 |x::r,h=>by
  unfold most at h;split at h
  ·cases h
  ·split at h<;>cases h
theorem Dt{g:List (Nat×Nat)}{left:List Nat}(v:Nat):∀l:List Nat,most g left (l++[v])=match most g left l with
  |none=>some v
  |some u=>if degree g left v<=degree g left u then some u else some v
 |[]=>by simp[most]
 |x::r=>by
  rw[n_,most,Dt v r,most];cases e:most g left r with
  |none=>simp only[]
  |some u=>
   simp only[];by_cases h1:degree g left v<=degree g left u
   ·simp only[h1,if_true];by_cases h2:degree g left u<=degree g left x
    ·simp only[h2,if_true];rw[if_pos (by lia)]
    ·simp only[h2,if_false];rw[if_pos h1]
   ·simp only[h1,if_false];by_cases h2:degree g left u<=degree g left x
    ·simp only[h2,if_true]
    ·simp only[h2,if_false];rw[if_neg (by lia),if_neg h1]
theorem z9{g:List (Nat×Nat)}{left:List Nat}:∀{l:List Nat}{v:Nat},most g left l=some v->v∈l
 |[],v,h=>by simp[most]at h
 |x::r,v,h=>by
  unfold most at h;split at h
  ·cases h;simp
  ·rename_i u hu;split at h
   ·cases h;simp
   ·cases h;exact dn _ (z9 hu)
structure Tk (g:List (Nat×Nat)) (n own k left d8:Nat) (dU order:List Nat):Prop where
 hl:left<2^n
 ez:∀v,d8.testBit v=(left.testBit v&&decide (degree g (lst n left) v<k))
 dl:dU.length=n
 dg:∀v,left.testBit v=true->dU[v]?=some (degree g (lst n left) v)
 od:taken g k own n (bD n)=order++taken g k own (lst n left).length (lst n left)
 al:∀v,v∈order<->v<n/\left.testBit v=false
 nd:order.Nodup
def Tk.lt{k:Nat}(T:Tk g n own k left d8 dU order)(h:left.testBit v=true):v<n:=by
 rcases lL v n with h'|h'
 ·exact h'
 ·exact absurd h (by rw[zF (eP T.hl (sq (by lia) h'))];simp)
def Tk.start{k:Nat}(hd:dU.length=n)(hg:∀v,v<n->dU[v]?=some (degree g (bD n) v))
  (he:∀v,d8.testBit v=(decide (v<n)&&decide (degree g (bD n) v<k))):Tk g n own k (2^n-1) d8 dU []where
 hl:=by have:=n8 n;omega
 ez:=λv=>by rw[Ds,he,Ji]
 dl:=hd
 dg:=λv hv=>by rw[Ds];rw[Ji]at hv;exact hg v (by simpa using hv)
 od:=by rw[Ds,OK];rfl
 al:=λv=>by simp[Ji]
 nd:=at5
def Tk.pick{k:Nat}(T:Tk g n own k left d8 dU order)
  (h:d8.testBit v=true) (Qc:∀u,u<v->d8.testBit u=false):
  left.testBit v=true/\taken g k own n (bD n)=(order++[v])++taken g k own (lst n (cw left v)).length (lst n (cw left v)):=by
 have h1:=T.ez v;rw[h]at h1;have h2:left.testBit v=true/\degree g (lst n left) v<k:=by simpa using h1.symm
 have hv:=T.lt h2.1;refine⟨h2.1,?_⟩;rw[T.od,Qa hv h2.1,taken];have hf:(lst n left).find? (λv=>decide (degree g (lst n left) v<k))=some v:=by
  show((bD n).filter left.testBit).find? _=some v;rw[List.find?_filter,J5];refine b8 (by simp[h2.1,h2.2]) hv λu hu=>?_;have:=T.ez u
  rw[Qc u hu]at this;simpa using this.symm
 rw[hf];simp only[];rw[<-Dr,kf];rfl
def Tk.aa3{k:Nat}(T:Tk g n own k left 0 dU order):(lst n left).find? (λv=>decide (degree g (lst n left) v<k))=none:=by
 rw[xH];intro v hv;have h1:=T.ez v
 have:=(ve.mp hv).2;simp[this]at h1;simpa using h1
def Tk.aa4{k:Nat}(T:Tk g n own k left 0 dU order)(ho:own<=n)
  (h:most g (lst n left) (lst own left)=some v):
  left.testBit v=true/\taken g k own n (bD n)=(order++[v])++taken g k own (lst n (cw left v)).length (lst n (cw left v)):=by
 have hm:=z9 h;have hv:=(ve.mp hm);refine⟨hv.2,?_⟩;rw[T.od,Qa (by lia) hv.2,taken,T.aa3];simp only[];rw[aaZ ho,h];simp only[];rw[<-Dr,kf];rfl
def Tk.next{k:Nat}(T:Tk g n own k left d8 dU order)(hv:left.testBit v=true)
  (ht:taken g k own n (bD n)=(order++[v])++taken g k own (lst n (cw left v)).length (lst n (cw left v)))
  (vf:iS.length=n) (hd:∀u,(cw left v).testBit u=true->iS[u]?=some (degree g (lst n (cw left v)) u))
  (he:∀u,gW.testBit u=((cw left v).testBit u&&decide (degree g (lst n (cw left v)) u<k))):Tk g n own k (cw left v) gW iS (order++[v])where
 hl:=uH (P_ _ _) T.hl
 ez:=he
 dl:=vf
 dg:=hd
 od:=ht
 al:=λu=>by
  rw[eO,T.al u,va];by_cases vc:u=v
  ·subst vc;simp[T.lt hv]
  ·simp[vc]
 nd:=by
  rw[lM];refine b8 T.nd (by simp) λa ha b hb e=>?_;simp at hb;subst hb;subst e;have:=(T.al a).mp ha
  rw[hv]at this;simp at this
structure Ti (g:List (Nat×Nat)) (n k left v d8:Nat) (dU:List Nat) (seen:List Nat):Prop where
 dl:dU.length=n
 dg:∀u,(cw left v).testBit u=true->dU[u]?=some (degree g (lst n left) u-(if u∈seen then 1 else 0))
 ez:∀u,d8.testBit u=((cw left v).testBit u&&decide (degree g (lst n left) u-(if u∈seen then 1 else 0)<k))
def Ti.start{k:Nat}(T:Tk g n own k left d8 dU order)
  (he:∀u,gW.testBit u=(d8.testBit u&&(cw left v).testBit u)):Ti g n k left v gW dU []where
 dl:=T.dl
 dg:=λu hu=>by rw[va]at hu;simp only[hU,if_false,Jk];exact T.dg u (by simp at hu;exact hu.1)
 ez:=λu=>by rw[he,T.ez,va];simp only[hU,if_false,Jk];cases left.testBit u<;>simp[Bool.and_comm]
def Ti.step{k d:Nat}(I:Ti g n k left v d8 dU seen)
  (hu:(cw left v).testBit u=true) (hm:g.contains (u,v)=true) (hv:v<n) (hlv:left.testBit v=true) (jb:u∉seen) (hd:dU[u]?=some d) (hk:0<k)
  (he:∀x,gW.testBit x=(d8.testBit x||(decide (x=u)&&decide (d-1=k-1)))):
  1<=d/\Ti g n k left v gW (dU.set u (d-1)) (seen++[u]):=by
 have h1:=I.dg u hu;rw[hd]at h1;simp only[jb,if_false,Jk,OL]at h1;have h2:=Qb (g:=g) (u:=u) hv hlv;rw[if_pos hm]at h2;refine⟨by lia,by rw[mM];exact I.dl,λx hx=>?_,λx=>?_⟩
 ·by_cases x_:x=u
  ·subst x_;have bH:x<dU.length:=(d0.mp hd).1
   rw[i7 bH,h1];simp
  ·rw[hX (λe=>x_ e.symm),I.dg x hx];simp[x_]
 ·rw[he,I.ez];by_cases x_:x=u
  ·subst x_;simp only[jb,if_false,Jk,hu,Jm,eO,sy,or_true,if_true,decide_true,<-h1];rw[fu];simp;omega
  ·simp[x_]
def Ti.done{k:Nat}(G:Gr g met n)(T:Tk g n own k left d8 dU order)(hm:met[v]?=some m)(hv:left.testBit v=true)
  (hs:seen=bitsOf (m&&&cw left v)) (I:Ti g n k left v gW iS seen):
  (∀u,(cw left v).testBit u=true->iS[u]?=some (degree g (lst n (cw left v)) u))/\
  (∀u,gW.testBit u=((cw left v).testBit u&&decide (degree g (lst n (cw left v)) u<k))):=by
 have key:∀u,(cw left v).testBit u=true->degree g (lst n left) u-(if u∈seen then 1 else 0)=degree g (lst n (cw left v)) u:=λu hu=>by
  rw[Qb (T.lt hv) hv,hs];have e:u∈bitsOf (m&&&cw left v)<->g.contains (u,v)=true:=by rw[Dp,jG,hu,ZN,G.bit v m hm u,G.sym]
  by_cases h:g.contains (u,v)=true
  ·rw[if_pos h,if_pos (e.mpr h)];lia
  ·rw[if_neg h,if_neg (λq=>h (e.mp q))];lia
 refine⟨λu hu=>by rw[I.dg u hu,key u hu],λu=>?_⟩;rw[I.ez];cases hu:(cw left v).testBit u with
 |false=>simp
 |true=>rw[key u hu]
def Tk.all{k:Nat}(T:Tk g n own k 0 d8 dU order):order=taken g k own n (bD n)/\order.Nodup/\∀v,v∈order<->v<n:=by
 refine b8 ?_ T.nd λv=>by rw[T.al];simp
 have:=T.od;have e:lst n 0=[]:=by simp[lst]
 rw[e]at this;simpa[taken]using this.symm
end
section
variable{n v m r:Nat}{holders:List Nat}{fA:List (Option Nat)}
def jM(holders:List Nat)(m:Nat):Option Nat:=(bD holders.length).find? λr=>holders.getD r 0&&&m==0
def jN(g:List (Nat×Nat))(k:Nat)(l:List (Nat×Option Nat))(v:Nat):List (Nat×Option Nat):=
 let near:=l.filterMap λx=>if g.contains (v,x.1)=true then x.2 else none
 l++[(v,(bD k).find? λr=>!(near.contains r))]
def Du(g:List (Nat×Nat))(k:Nat)(order:List Nat):given g k order=order.reverse.foldl (jN g k) []:=rfl
structure Gv (n k:Nat) (holders:List Nat) (fA:List (Option Nat)) (l:List (Nat×Option Nat)):Prop where
 hl:holders.length=k
 hb:∀(r m:Nat),holders[r]?=some m->∀u,m.testBit u=true<->(u,some r)∈l
 ml:fA.length=n
 mh:∀(v:Nat)(x:Option Nat),(v,x)∈l->fA[v]?=some x
 rg:∀(v r:Nat),(v,some r)∈l->r<k
def Gv.start(n k:Nat):Gv n k (cW k 0) (cW n none) []where
 hl:=by simp
 hb:=λr m h u=>by
  rw[qO]at h;split at h
  ·cases h;simp
  ·cases h
 ml:=by simp
 mh:=λv x h=>by simp at h
 rg:=λv r h=>by simp at h
def Qe{a b:Nat}:(a&&&b==0)=false<->∃u,a.testBit u=true/\b.testBit u=true:=by
 rw[beq_eq_false_iff_ne];constructor
 ·intro h;obtain⟨i,hi⟩:=ZH h;rw[jG]at hi;exact⟨i,by simpa using hi⟩
 ·rintro⟨u,h1,h2⟩ e;have:(a&&&b).testBit u=true:=by rw[jG,h1,h2];rfl
  rw[e]at this;simp at this
theorem Qg{α:Type}{p q:α->Bool}:∀{l:List α},(∀a∈l,p a=q a)->l.find? p=l.find? q
 |[],_=>rfl
 |x::r,h=>by
  rw[qP,qP,h x (by simp),Qg λa ha=>h a (dn _ ha)]
def Gv.free{g:List (Nat×Nat)}{met:List Nat}{k:Nat}{l:List (Nat×Option Nat)}(G:Gr g met n)(I:Gv n k holders fA l)(hm:met[v]?=some m):
  jN g k l v=l++[(v,jM holders m)]:=by
 unfold jN jM;simp only[];rw[I.hl];congr 3;apply Qg;intro r hr;have km:r<holders.length:=by rw[I.hl];simpa using hr
 have e:holders[r]?=some (holders.getD r 0):=by simp[ef,mN km]
 have hb:=I.hb r _ e;rw[fu];constructor
 ·intro h;cases q:(holders.getD r 0&&&m==0)with
  |true=>rfl
  |false=>
   obtain⟨u,h1,h2⟩:=Qe.mp q;exfalso;have:r∈l.filterMap λx=>if g.contains (v,x.1)=true then x.2 else none:=CT.mpr ⟨(u,some r),(hb u).mp h1,by rw[G.bit v m hm u]at h2;rw[if_pos h2]⟩
   rw[show(l.filterMap λx=>if g.contains (v,x.1)=true then x.2 else none).contains r=true from List.elem_eq_true_of_mem this]at h;cases h
 ·intro h;cases q:(l.filterMap λx=>if g.contains (v,x.1)=true then x.2 else none).contains r with
  |false=>rfl
  |true=>
   exfalso;have:r∈l.filterMap λx=>if g.contains (v,x.1)=true then x.2 else none:=by simpa using q
   refine ar (CT.mp this) λx hx h1=>?_;split at h1
   ·rename_i hc;have jO:(x.1,some r)∈l:=by rw[<-h1];exact hx
    have:=Qe.mpr ⟨x.1,(hb x.1).mpr jO,by rw[G.bit v m hm];exact hc⟩;rw[this]at h;cases h
   ·cases h1
def aa6(h:jM holders m=some r):r<holders.length:=by have:=OM h;simpa using this
def Gv.none_{k:Nat}{l:List (Nat×Option Nat)}(I:Gv n k holders fA l)(hv:v<n)(hn:∀x,(v,x)∉l):
  Gv n k holders (fA.set v none) (l++[(v,none)])where
 hl:=I.hl
 hb:=λr m h u=>by rw[I.hb r m h u];simp
 ml:=by rw[mM];exact I.ml
 mh:=λu x h=>by
  rcases eO.mp h with h|h
  ·have:u≠v:=λe=>hn x (e▸h);rw[hX (λe=>this e.symm)];exact I.mh u x h
  ·simp at h;obtain⟨rfl,rfl⟩:=h;rw[i7 (by rw[I.ml];exact hv)]
 rg:=λu r h=>by
  rcases eO.mp h with h|h
  ·exact I.rg u r h
  ·simp at h
def Gv.J7{k:Nat}{l:List (Nat×Option Nat)}(I:Gv n k holders fA l)(hv:v<n)(hn:∀x,(v,x)∉l)(hr:r<k)(hh:holders[r]?=some m):
  Gv n k (holders.set r (m|||2^v)) (fA.set v (some r)) (l++[(v,some r)])where
 hl:=by rw[mM];exact I.hl
 hb:=λr' m' h u=>by
  by_cases e:r'=r
  ·subst e;rw[i7 (by rw[I.hl];exact hr)]at h;cases h;rw[x9];simp[I.hb r' m hh u]
  ·rw[hX (λq=>e q.symm)]at h;rw[I.hb r' m' h u];simp[e]
 ml:=by rw[mM];exact I.ml
 mh:=λu x h=>by
  rcases eO.mp h with h|h
  ·have:u≠v:=λe=>hn x (e▸h);rw[hX (λe=>this e.symm)];exact I.mh u x h
  ·simp at h;obtain⟨rfl,rfl⟩:=h;rw[i7 (by rw[I.ml];exact hv)]
 rg:=λu r' h=>by
  rcases eO.mp h with h|h
  ·exact I.rg u r' h
  ·simp at h;lia
theorem Dv{g:List (Nat×Nat)}{k:Nat}:∀(o:List Nat)(l:List (Nat×Option Nat)),(o.foldl (jN g k) l).map (·.1)=l.map (·.1)++o
 |[],l=>by simp
 |v::r,l=>by
  rw[og,Dv r];simp[jN]
def Dw(g:List (Nat×Nat))(k:Nat)(order:List Nat):(given g k order).map (·.1)=order.reverse:=by rw[Du,Dv];simp
def iT(l:List (Nat×Option Nat))(v:Nat):Option Nat:=(l.find? λx=>x.1==v).bind λx=>x.2
def z_{l:List (Nat×Option Nat)}{x:Option Nat}(hn:(l.map (·.1)).Nodup)(h:(v,x)∈l):iT l v=x/\(l.find? λx=>x.1==v)=some (v,x):=by
 have:(l.find? λx=>x.1==v)=some (v,x):=by
  induction l with
  |nil=>simp at h
  |cons y r ih=>
   rw[cM,qN]at hn;rw[qP];rcases cu.mp h with rfl|h
   ·simp
   ·have:y.1≠v:=λe=>hn.1 (e▸kW.mpr (aq h rfl));have hf:(y.1==v)=false:=by simpa using this
    rw[hf];exact ih hn.2 h
 exact⟨by unfold iT;rw[this];rfl,this⟩
def Gv.aa7{k:Nat}{l:List (Nat×Option Nat)}(I:Gv n k holders fA l)(hn:(l.map (·.1)).Nodup)(ha:∀v,v<n->v∈l.map (·.1)):
  fA=(bD n).map (iT l):=by
 apply at6;intro i;rw[qJ];rcases lL i n with h|h
 ·rw[uI h];refine ar (kW.mp (ha i h)) λx hx e=>?_;have jO:(i,x.2)∈l:=by rw[<-e];exact hx
  rw[I.mh i x.2 jO,zE,(z_ hn jO).1]
 ·rw[zG (by rw[I.ml];exact h),zG (by simpa using h)];rfl
def aa8{l:List (Nat×Option Nat)}(hn:(l.map (·.1)).Nodup)(ha:∀v,v<n->v∈l.map (·.1)):
  ((bD n).filter λv=>l.any λx=>x.1==v&&x.2.isNone)=(bD n).filter λv=>(iT l v).isNone:=by
 apply OJ;intro v hv;refine ar (kW.mp (ha v (by simpa using hv))) λx hx e=>?_;have jO:(v,x.2)∈l:=by rw[<-e];exact hx
 rw[(z_ hn jO).1,fu];constructor
 ·intro h;refine ar (ON.mp h) λy hy h=>?_;simp at h;have J8:(v,y.2)∈l:=by rw[<-h.1];exact hy
  have:=(z_ hn jO).1.symm.trans (z_ hn J8).1;rw[this];simp[h.2]
 ·intro h;exact ON.mpr ⟨x,hx,by simp[e];simpa using h⟩
end
section
variable{us:List Nat}{v n:Nat}
def cy(us:List Nat)(n v:Nat):Nat:=match us.findIdx? λu=>u==v with
 |some k=>n+k
 |none=>v
def Qh{k:Nat}:(us.findIdx? λu=>u==v)=some k->us[k]?=some v:=by intro h;rw[OO]at h;obtain⟨hk,h1,_⟩:=h;rw[mN hk];simpa using h1
def J9(h:v∈us):∃k,(us.findIdx? λu=>u==v)=some k/\k<us.length:=by
 cases e:us.findIdx? λu=>u==v with
 |some k=>
  have:=Qh e;exact aF k rfl ((d0.mp this).1)
 |none=>
  rw[OP]at e;simpa using e v h
def Qi(h:v∉us):(us.findIdx? λu=>u==v)=none:=by
 rw[OP];intro x hx;have:x≠v:=λe=>h (e▸hx)
 simpa using this
def oz(h:v∉us):cy us n v=v:=by unfold cy;rw[Qi h]
def lX(h:v∈us):∃k,cy us n v=n+k/\us[k]?=some v/\k<us.length:=by refine ar (J9 h) λk e hk=>?_;exact aW k (by unfold cy;rw[e]) (Qh e) hk
def fF(i:Ins):List Nat:=usesOf i++(givesOf i).toList
def dI(vs:List Nat)(i:Ins):Bool:=match givesOf i with
 |some d=>vs.contains d
 |none=>false
def fG(vs:List Nat)(from_ v:Nat):Nat:=from_+(vs.findIdx? λu=>u==v).getD 0
def gc(vs:List Nat)(from_:Nat)(i:Ins)(n:Nat):List Ins:=
 let us:=(usesOf i).filter vs.contains
 (us.map λv=> .fetch (cy us n v) (fG vs from_ v))++
  (changed (cy us n) (if dI vs i=true then n+us.length else(givesOf i).getD 0) i::(if dI vs i=true then [.keep (fG vs from_ ((givesOf i).getD 0)) (n+us.length)]else []))
def cH(vs:List Nat)(i:Ins)(n:Nat):Nat:=n+((usesOf i).filter vs.contains).length+(if dI vs i=true then 1 else 0)
def Dx(vs:List Nat)(from_:Nat)(i:Ins)(r:Code)(n:Nat):
  spilled vs from_ (.ins i::r) n=((gc vs from_ i n).map qQ++(spilled vs from_ r (cH vs i n)).1,(spilled vs from_ r (cH vs i n)).2):=by
 rw[spilled];unfold gc cH dI;simp only[];cases hg:givesOf i with
 |none=>
  simp only[kX,if_false,gA,kY,cM,jH,sC,kf,n_,Jj];rfl
 |some d=>
  simp only[ZF];rcases Bool.eq_false_or_eq_true (vs.contains d)with hc|hc
  ·simp only[hc,if_true,gA,kY,cM,jH,sC,kf,n_];rfl
  ·simp only[hc,kX,if_false,gA,kY,cM,jH,sC,kf,n_,Jj];rfl
def J_(vs:List Nat)(from_ l:Nat)(r:Code)(n:Nat):
 spilled vs from_ (.label l::r) n=(.label l::(spilled vs from_ r n).1,(spilled vs from_ r n).2):=rfl
def Qj:insOf []=[]:=rfl
def pL(l:Nat)(r:Code):insOf (.label l::r)=insOf r:=rfl
def jt(i:Ins)(r:Code):insOf (.ins i::r)=i::insOf r:=rfl
def pM(a b:Code):insOf (a++b)=insOf a++insOf b:=Jn
def aa9(l:List Ins):insOf (l.map qQ)=l:=by
 induction l with
 |nil=>rfl
 |cons x r ih=>rw[cM,jt,ih]
def dJ(vs:List Nat)(from_:Nat):List Ins->Nat->List Ins
 |[],_=>[]
 |i::r,n=>gc vs from_ i n++dJ vs from_ r (cH vs i n)
def eR(vs:List Nat):List Ins->Nat->Nat
 |[],n=>n
 |i::r,n=>eR vs r (cH vs i n)
theorem vg(vs:List Nat)(from_:Nat):∀(c:Code)(n:Nat),insOf (spilled vs from_ c n).1=dJ vs from_ (insOf c) n/\(spilled vs from_ c n).2=eR vs (insOf c) n
 |[],n=>⟨rfl,rfl⟩
 | .label l::r,n=>by
   rw[J_,pL,pL];exact vg vs from_ r n
 | .ins i::r,n=>by
   rw[Dx,jt,pM,aa9,dJ,eR];have:=vg vs from_ r (cH vs i n)
   exact⟨by rw[this.1],this.2⟩
theorem Ka(vs:List Nat)(from_:Nat):∀(a b:List Ins)(n:Nat),dJ vs from_ (a++b) n=dJ vs from_ a n++dJ vs from_ b (eR vs a n)/\eR vs (a++b) n=eR vs b (eR vs a n)
 |[],b,n=>⟨rfl,rfl⟩
 |i::r,b,n=>by
  have:=Ka vs from_ r b (cH vs i n);simp only[n_,dJ,eR];exact⟨by rw[this.1,kf],this.2⟩
def aN(c:Code):List Nat:=c.filterMap λx=>match x with
 | .label l=>some l
 | .ins _=>none
theorem vh(vs:List Nat)(from_:Nat):∀(c:Code)(n:Nat),aN (spilled vs from_ c n).1=aN c
 |[],n=>rfl
 | .label l::r,n=>by
   rw[J_];show l::aN _=l::aN r;rw[vh vs from_ r n]
 | .ins i::r,n=>by
   rw[Dx];show aN ((gc vs from_ i n).map qQ++_)=aN r;unfold aN;rw[Jn];have:(List.filterMap (λx=>match x with|OQ l=>some l|qQ _=>none) ((gc vs from_ i n).map qQ))=[]:=by rw[List.filterMap_eq_nil_iff];intro a ha;refine ar (kW.mp ha) λb _ bp=>?_;obtain rfl:=bp;rfl
   rw[this,sC];exact vh vs from_ r _
def aa_(l:Nat):target [] l=0:=rfl
def mV(l m:Nat)(r:Code):target (.label m::r) l=if m=l then 0 else target r l:=by
 unfold target;rw[at7];by_cases h:m=l
 ·subst h;simp
 ·have:(OQ m !=OQ l)=true:=by simp[h]
  rw[this,if_pos rfl,if_neg h,kb];simp
def pO(i:Ins)(l:Nat)(r:Code):target (.ins i::r) l=target r l+1:=by
 unfold target;rw[at7];have:(qQ i !=OQ l)=true:=by simp
 rw[this,if_pos rfl,kb];simp
theorem Qk(l:Nat)(r:Code):∀g:List Ins,target (g.map qQ++r) l=g.length+target r l
 |[]=>by simp
 |i::g=>by rw[cM,n_,pO,Qk l r g,cG];lia
theorem ya(l:Nat):∀c:Code,target c l<=(insOf c).length
 |[]=>by simp[aa_]
 | .label m::r=>by rw[mV,pL];have:=ya l r;split<;>lia
 | .ins i::r=>by rw[pO,jt,cG];have:=ya l r;lia
def moved(vs:List Nat)(from_:Nat)(I:List Ins)(n p:Nat):Nat:=(dJ vs from_ (I.take p) n).length
theorem Kb(vs:List Nat)(from_ l:Nat):∀(c:Code)(n:Nat),target (spilled vs from_ c n).1 l=moved vs from_ (insOf c) n (target c l)
 |[],n=>rfl
 | .label m::r,n=>by
   rw[J_,mV,mV,pL];split
   ·simp[moved,dJ]
   ·exact Kb vs from_ l r n
 | .ins i::r,n=>by
   rw[Dx,Qk,pO,jt,Kb vs from_ l r];simp[moved,dJ]
end
section
variable{c:Code}{a b v own p:Nat}
def s_(x:Ins)(v:Nat):Bool:=match x with
 | .copy _ a=>v !=a
 |_=>true
def vi:(a,b)∈meets c<->∃(i:Nat)(x:Ins)(d v:Nat),(insOf c)[i]?=some x/\givesOf x=some d/\v≠d/\s_ x v=true/\(∃j∈nexts c i,Live c v j)/\((a=d/\b=v)\/(a=v/\b=d)):=by
 unfold meets;rw[atU,xF];constructor
 ·rintro⟨⟨x,i⟩,hx,hm⟩;have jO:(insOf c)[i]?=some x:=by rw[OR]at hx;exact hx
  cases hg:givesOf x with
  |none=>simp[hg]at hm
  |some d=>
   simp only[hg,xF,fq]at hm;refine ar hm λv bp h3=>?_;obtain⟨h1,h2⟩:=bp;rw[eW]at h2;refine cO i x d v jO hg (by simpa using h2.1) ?_ (sZ.mp h1) ?_
   ·have:=h2.2;unfold s_;cases x<;>first|rfl|exact this
   ·simp at h3;exact h3
 ·rintro⟨i,x,d,v,hx,hg,bh,hs,hl,h⟩;refine aF (x,i) (by rw[OR];exact hx) ?_;simp only[hg,xF,fq];refine⟨v,⟨sZ.mpr hl,?_⟩,by simpa using h⟩;rw[eW];refine⟨by simpa using bh,?_⟩;unfold s_ at hs;cases x<;>first|rfl|exact hs
def vj:(meets c).contains (a,b)=true<->(a,b)∈meets c:=by simp
def aba(c:Code)(a b:Nat):(meets c).contains (a,b)=(meets c).contains (b,a):=by
 rw[fu,vj,vj,vi,vi];constructor
 ·rintro⟨i,x,d,v,h1,h2,h3,h4,h5,h⟩;exact⟨i,x,d,v,h1,h2,h3,h4,h5,h.symm.imp (λq=>⟨q.2,q.1⟩) λq=>⟨q.2,q.1⟩⟩
 ·rintro⟨i,x,d,v,h1,h2,h3,h4,h5,h⟩;exact⟨i,x,d,v,h1,h2,h3,h4,h5,h.symm.imp (λq=>⟨q.2,q.1⟩) λq=>⟨q.2,q.1⟩⟩
def abb(c:Code)(a:Nat):(meets c).contains (a,a)=false:=by
 cases h:(meets c).contains (a,a)with
 |false=>rfl
 |true=>
  rw[vj,vi]at h;refine ox h λi x d v _ _ h3 _ _ h=>?_;rcases h with⟨h1,h2⟩|⟨h1,h2⟩<;>lia
def pP(I:List Ins)(v:Nat):Prop:=∃x∈I,v∈fF x
def abc{i:Nat}(h:Live c v i):pP (insOf c) v:=by
 induction h with
 |used i x hx hu=>exact aF x (cP hx) (hZ _ hu)
 |on _ _ _ _ _ _ _ ih=>exact ih
def Ql(h:(meets c).contains (a,b)=true):pP (insOf c) a/\pP (insOf c) b:=by
 rw[vj,vi]at h;refine ox h λi x d v hx hg _ _ bA h=>?_;obtain⟨j,_,hl⟩:=bA;have hd:pP (insOf c) d:=(aF x (cP hx) (iz _ (by simp[hg])))
 have hv:=abc hl;rcases h with⟨rfl,rfl⟩|⟨rfl,rfl⟩
 ·exact⟨hd,hv⟩
 ·exact⟨hv,hd⟩
def iU(own:Nat)(pend:List Nat):Ins->List Nat
 | .fetch d _=>pend++[d]
 | .keep _ _=>[]
 |i=>(givesOf i).toList.filter λd=>decide (own<=d)
def yb(own:Nat)(pend:List Nat):Ins->Prop
 | .fetch d _=>own<=d
 | .keep _ a=>pend=[a]/\own<=a
 |i=>∀h,h∈pend<->(h∈usesOf i/\own<=h)
def WF(own:Nat):List Nat->Code->Prop
 |pend,[]=>pend=[]
 |pend, .label _::r=>pend=[]/\WF own [] r
 |pend, .ins i::r=>yb own pend i/\WF own (iU own pend i) r
def ko(own:Nat)(pend:List Nat)(I:List Ins)(p:Nat):List Nat:=(I.take p).foldl (iU own) pend
theorem WF.at_{own:Nat}:∀{c:Code}{pend:List Nat},WF own pend c->∀{p:Nat}{i:Ins},(insOf c)[p]?=some i->yb own (ko own pend (insOf c) p) i
 |[],_,_,p,i,h=>by simp[Qj]at h
 | .label l::r,pend,w,p,i,h=>by
   obtain⟨rfl,w⟩:=w;exact WF.at_ w h
 | .ins x::r,pend,w,0,i,h=>by
   obtain⟨k,w⟩:=w;rw[jt]at h;simp at h;subst h;exact k
 | .ins x::r,pend,w,p+1,i,h=>by
   obtain⟨k,w⟩:=w;rw[jt]at h⊢;exact WF.at_ w (p:=p) (by simpa using h)
theorem WF.lab{own:Nat}(l:Nat):∀{c:Code}{pend:List Nat},WF own pend c->ko own pend (insOf c) (target c l)=[]
 |[],_,w=>w
 | .label m::r,pend,w=>by
   obtain⟨rfl,w⟩:=w;rw[mV];split
   ·rfl
   ·exact WF.lab l w
 | .ins x::r,pend,w=>by
   rw[pO,jt];exact WF.lab l w.2
def Kc{pend:List Nat}{I:List Ins}{i:Ins}(h:I[p]?=some i):ko own pend I (p+1)=iU own (ko own pend I p) i:=by unfold ko;obtain⟨hp,e⟩:=d0.mp h;rw[OS,h];simp
def abd(W:WF own [] c)(h:Live c v p):own<=v->v∈ko own [] (insOf c) p:=by
 refine P4 (L:=λp v=>own<=v->v∈ko own [] (insOf c) p) (λi x v hx h hv=>?_) h;have ok:=W.at_ hx
 rcases h with h|⟨hg,j,hj,hl⟩
 ·cases x with
  |fetch d s=>simp[usesOf]at h
  |keep s a=>simp[usesOf]at h;subst h;rw[ok.1];simp
  |num d z=>simp[usesOf]at h
  |copy d a=>exact(ok v).mpr ⟨h,hv⟩
  |op k d a b=>exact(ok v).mpr ⟨h,hv⟩
  |get d=>simp[usesOf]at h
  |put a=>exact(ok v).mpr ⟨h,hv⟩
  |goto l=>simp[usesOf]at h
  |cond a l=>exact(ok v).mpr ⟨h,hv⟩
  |ret a=>exact(ok v).mpr ⟨h,hv⟩
 ·have dM:=hl hv;have tf:∀l,j≠target c l:=λl e=>by rw[e,W.lab l]at dM;simp at dM
  have nx:=Kc (own:=own) (pend:=[]) hx;unfold nexts at hj;rw[hx]at hj;cases x with
  |fetch d s=>
   simp at hj;subst hj;rw[nx]at dM;simp[iU]at dM;rcases dM with h|h
   ·exact h
   ·exact absurd (by simp[givesOf,h]) hg
  |keep s a=>simp at hj;subst hj;rw[nx]at dM;simp[iU]at dM
  |goto l=>simp at hj;exact absurd hj (tf l)
  |cond a l=>
   simp at hj;rcases hj with hj|hj
   ·exact absurd hj (tf l)
   ·subst hj;rw[nx]at dM;simp[iU,givesOf]at dM
  |ret a=>simp at hj
  |num d z=>simp at hj;subst hj;rw[nx]at dM;simp[iU,givesOf]at dM hg;lia
  |copy d a=>simp at hj;subst hj;rw[nx]at dM;simp[iU,givesOf]at dM hg;omega
  |op k d a b=>simp at hj;subst hj;rw[nx]at dM;simp[iU,givesOf]at dM hg;omega
  |get d=>simp at hj;subst hj;rw[nx]at dM;simp[iU,givesOf]at dM hg;omega
  |put a=>simp at hj;subst hj;rw[nx]at dM;simp[iU,givesOf]at dM hg
def fB(own:Nat)(i:Ins):List Nat:=(givesOf i).toList.filter λd=>decide (own<=d)
def hg(own:Nat)(I:List Ins):List Nat:=I.flatMap (fB own)
theorem qZ:∀{l m:List Nat},l.Nodup->(∀x∈l,x∈m)->l.length<=m.length
 |[],m,_,_=>iO _
 |x::r,m,hn,h=>by
  rw[qN]at hn;have hx:x∈m:=h x (by simp)
  have:=qZ (l:=r) (m:=m.erase x) hn.2 λy hy=>by have bh:y≠x:=λe=>hn.1 (e▸hy);exact(List.mem_erase_of_ne bh).mpr (h y (dn _ hy))
  rw[List.length_erase_of_mem hx]at this;have hp:0<m.length:=List.length_pos_of_mem hx
  rw[cG];lia
def Qm(i:Ins):(usesOf i).length<=2:=by cases i<;>simp[usesOf];split<;>simp
def abe(i:Ins):(usesOf i).Nodup:=by cases i<;>simp[usesOf];split<;>simp_all
theorem WF.Kd{own:Nat}:∀{c:Code}{pend:List Nat},WF own pend c->(pend++hg own (insOf c)).Nodup->pend.length<=2
 |[],_,w,_=>by rw[show _=[] from w];simp
 | .label l::r,pend,w,_=>by rw[w.1];simp
 | .ins i::r,pend,w,nd=>by
   obtain⟨k,w⟩:=w;have main:(∀h,h∈pend<->(h∈usesOf i/\own<=h))->pend.length<=2:=λk=>
    i8 (qZ (lM.mp nd).1 λx hx=>((k x).mp hx).1) (Qm i)
   cases i with
   |fetch d s=>
    have:(pend++[d]).length<=2:=WF.Kd w (by
     have e:hg own (insOf (.ins (.fetch d s)::r))=d::hg own (insOf r):=by
      have:own<=d:=k
      simp[hg,fB,jt,givesOf,this]
     rw[e]at nd
     simpa[iU]using nd)
    simp at this;lia
   |keep s a=>rw[k.1];simp
   |num d z=>exact main k
   |copy d a=>exact main k
   |op o d a b=>exact main k
   |get d=>exact main k
   |put a=>exact main k
   |goto l=>exact main k
   |cond a l=>exact main k
   |ret a=>exact main k
end
section
variable{own:Nat}{c:Code}
def yc(own:Nat)(i:Ins)(I:List Ins):hg own (i::I)=fB own i++hg own I:=by simp[hg]
def Qn(own:Nat)(I J:List Ins):hg own (I++J)=hg own I++hg own J:=by simp[hg]
def abf{i:Ins}{pend:List Nat}{I:List Ins}(k:yb own pend i)(nd:(pend++hg own (i::I)).Nodup):(iU own pend i++hg own I).Nodup:=by
 rw[yc]at nd;have main:(fB own i++hg own I).Nodup:=(lM.mp nd).2.1
 cases i with
 |fetch d s=>
  have e:fB own (.fetch d s)=[d]:=by have:own<=d:=k;simp[fB,givesOf,this]
  rw[e]at nd;simpa[iU]using nd
 |keep s a=>simpa[iU,fB,givesOf]using main
 |num d z=>exact main
 |copy d a=>exact main
 |op o d a b=>exact main
 |get d=>exact main
 |put a=>exact main
 |goto l=>exact main
 |cond a l=>exact main
 |ret a=>exact main
theorem WF.Ke{own:Nat}:∀{c:Code}{pend:List Nat},WF own pend c->(pend++hg own (insOf c)).Nodup->∀p,p<=(insOf c).length->(ko own pend (insOf c) p).length<=2
 |[],pend,w,nd,p,hp=>by
  have:p=0:=by simpa[Qj]using hp
  subst this;exact WF.Kd w nd
 | .label l::r,pend,w,nd,p,hp=>by
   obtain⟨rfl,w⟩:=w;exact WF.Ke (c:=r) w nd p hp
 | .ins i::r,pend,w,nd,0,hp=>WF.Kd w nd
 | .ins i::r,pend,w,nd,p+1,hp=>by
   rw[jt]at hp nd⊢;exact WF.Ke w.2 (abf w.1 nd) p (by simpa using hp)
theorem Kf{own v:Nat}(hv:own<=v):∀{I:List Ins},(hg own I).Nodup->∀{p q:Nat}{x y:Ins},I[p]?=some x->I[q]?=some y->givesOf x=some v->givesOf y=some v->p=q
 |[],_,p,q,x,y,h,_,_,_=>by simp at h
 |i::I,nd,p,q,x,y,hp,hq,gx,gy=>by
  rw[yc]at nd;have Aa:=lM.mp nd
  have Qo:∀{q:Nat}{y:Ins},I[q]?=some y->givesOf y=some v->v∈hg own I:=λ{q y} hq gy=>by unfold hg;exact xF.mpr ⟨y,cP hq,by simp[fB,gy,hv]⟩
  have Qp:givesOf i=some v->v∈fB own i:=λg=>by simp[fB,g,hv]
  cases p with
  |zero=>
   cases q with
   |zero=>rfl
   |succ q=>
    simp at hp hq;subst hp;exact absurd rfl (Aa.2.2 v (Qp gx) v (Qo hq gy))
  |succ p=>
   cases q with
   |zero=>
    simp at hp hq;subst hq;exact absurd rfl (Aa.2.2 v (Qp gy) v (Qo hp gx))
   |succ q=>
    simp at hp hq;rw[Kf hv Aa.2.1 hp hq gx gy]
def Qq(W:WF own [] c)(nd:(hg own (insOf c)).Nodup){a b:Nat}(ha:own<=a)(hb:own<=b)(h:(meets c).contains (a,b)=true):
  ∃q x y,(insOf c)[q]?=some x/\(insOf c)[q+1]?=some y/\((givesOf x=some a/\givesOf y=some b)\/(givesOf x=some b/\givesOf y=some a)):=by
 rw[vj,vi]at h;refine ox h λi x d v hx jP bh _ bp h=>?_;obtain⟨j,hj,hl⟩:=bp;have hd:own<=d:=by rcases h with⟨rfl,rfl⟩|⟨rfl,rfl⟩<;>assumption
 have hv:own<=v:=by rcases h with⟨rfl,rfl⟩|⟨rfl,rfl⟩<;>assumption
 have hp:=abd W hl hv;have nx:=Kc (own:=own) (pend:=[]) hx;have ej:j=i+1:=by unfold nexts at hj;rw[hx]at hj;cases x<;>first|(simp[givesOf]at jP;done)|(simpa using hj)
 subst ej;have hlen:=W.Ke (by simpa using nd) (i+1) (by have:=(d0.mp hx).1;lia)
 rw[nx]at hp hlen;have no:∀{l:List Nat},(v∈l.filter λu=>decide (own<=u))->l=[d]->False:=λ{l} h e=>by rw[e]at h;simp at h;exact bh h.1
 have key:v∈ko own [] (insOf c) i/\(ko own [] (insOf c) i).length<=1:=by
  cases x with
  |fetch d' s=>
   simp[givesOf]at jP;subst jP;simp[iU]at hp hlen;rcases hp with hp|hp
   ·exact⟨hp,by lia⟩
   ·exact absurd hp bh
  |keep s a=>simp[givesOf]at jP
  |num d' z=>exact(no hp (by simp[jP])).elim
  |copy d' a'=>exact(no hp (by simp[jP])).elim
  |op o d' a' b'=>exact(no hp (by simp[jP])).elim
  |get d'=>exact(no hp (by simp[jP])).elim
  |put a'=>simp[givesOf]at jP
  |goto l=>simp[givesOf]at jP
  |cond a' l=>simp[givesOf]at jP
  |ret a'=>simp[givesOf]at jP
 have e1:ko own [] (insOf c) i=[v]:=by
  obtain⟨hm,hl⟩:=key;generalize ko own [] (insOf c) i=P at*
  match P,hm,hl with
  |[y],hm,_=>simp at hm;rw[hm]
 cases i with
 |zero=>simp[ko]at e1
 |succ q=>
  obtain⟨y,hy⟩:∃y,(insOf c)[q]?=some y:=⟨_,mN (by have:=(d0.mp hx).1;lia)⟩;rw[Kc hy]at e1;have Qr:givesOf y=some v:=by
   have fin:((givesOf y).toList.filter λu=>decide (own<=u))=[v]->givesOf y=some v:=λe=>by
    cases g:givesOf y with
    |none=>rw[g]at e;simp at e
    |some u=>
     rw[g]at e;have:v∈([u].filter λu=>decide (own<=u)):=by have:(Option.some u).toList=[u]:=rfl;rw[this]at e;rw[e];simp
     simp at this;rw[this.1]
   cases y with
   |fetch d' s=>
    have e2:ko own [] (insOf c) q++[d']=[v]:=e1;have:(ko own [] (insOf c) q++[d']).getLast?=some v:=by rw[e2];rfl
    simp at this;simp[givesOf,this]
   |keep s a=>simp[iU]at e1
   |num d' z=>exact fin e1
   |copy d' a'=>exact fin e1
   |op o d' a' b'=>exact fin e1
   |get d'=>exact fin e1
   |put a'=>exact fin e1
   |goto l=>exact fin e1
   |cond a' l=>exact fin e1
   |ret a'=>exact fin e1
  refine fQ q y x hy hx ?_;rcases h with⟨rfl,rfl⟩|⟨rfl,rfl⟩
  ·exact .inr ⟨Qr,jP⟩
  ·exact .inl ⟨Qr,jP⟩
def abg(W:WF own [] c)(nd:(hg own (insOf c)).Nodup){left:List Nat}(hl:left.Nodup)(ho:∀u∈left,own<=u){v:Nat}(hv:own<=v):degree (meets c) left v<=2:=by
 unfold degree;have hS:(left.filter λu=>(meets c).contains (v,u)).Nodup:=hl.sublist su
 have hm:∀u∈left.filter (λu=>(meets c).contains (v,u)),own<=u/\(meets c).contains (v,u)=true:=λu hu=>by rw[fq]at hu;exact⟨ho u hu.1,hu.2⟩
 generalize left.filter (λu=>(meets c).contains (v,u))=S at*;cases S with
 |nil=>simp
 |cons u0 S0=>
  have at_:∀{p:Nat}{x:Ins},(insOf c)[p]?=some x->givesOf x=some v->∀u∈u0::S0,u∈[((insOf c)[p+1]?.bind givesOf).getD 0,((insOf c)[p-1]?.bind givesOf).getD 0]:=λ{p x} hp gp u hu=>by
   obtain⟨Ab,pQ⟩:=hm u hu;refine bR (Qq W nd hv Ab pQ) λq x' y' h1 h2 h=>?_;rcases h with⟨g1,g2⟩|⟨g1,g2⟩
   ·have e:=Kf hv nd hp h1 gp g1;subst e;simp[h2,g2]
   ·have e:=Kf hv nd hp h2 gp g2;subst e;simp[h1,g1]
  obtain⟨Ab,pQ⟩:=hm u0 (by simp);refine bR (Qq W nd hv Ab pQ) λq x' y' h1 h2 h=>?_;rcases h with⟨g1,g2⟩|⟨g1,g2⟩
  ·exact qZ hS (at_ h1 g1)
  ·exact qZ hS (at_ h2 g2)
end
section
variable{u:Nat->Nat}{d' own from_ n:Nat}{i:Ins}{pend vs:List Nat}
def Qs{h:Nat}:h∈usesOf (changed u d' i)<->∃a∈usesOf i,h=u a:=by
 cases i<;>simp[changed,usesOf]
 case op k d a b=>
  by_cases e:a=b
  ·subst e;simp
  ·by_cases e2:u a=u b
   ·simp[e,e2]
   ·simp[e,e2]
def Ac(u:Nat->Nat)(d':Nat)(i:Ins):givesOf (changed u d' i)=(givesOf i).map λ_=>d':=by cases i<;>rfl
def abh:∀{us:List Nat}(n:Nat),us.Nodup->us.map (cy us n)=at8 n us.length:=by
 intro us n nd;apply at6;intro k;rw[qJ];rcases lL k us.length with h|h
 ·rw[mN h,List.getElem?_range' h,zE];refine bc (lX (n:=n) (List.getElem_mem h)) λk' e e2 Dy=>?_;have:k'=k:=(xM nd).mp ((d0.mp e2).2)
  rw[e,this];simp
 ·rw[zG h,zG (by simpa using h)];rfl
theorem Qt{own:Nat}{r:Code}{f:Nat->Nat}:∀{hs:List (Nat)}{pend:List Nat}(g:Nat->Nat),(∀v∈hs,own<=g v)->WF own (pend++hs.map g) r->WF own pend ((hs.map λv=>qQ (.fetch (g v) (f v)))++r)
 |[],pend,g,_,w=>by simpa using w
 |v::hs,pend,g,ho,w=>by
  refine⟨ho v (by simp),?_⟩;show WF own (pend++[g v]) _;exact Qt g (λu hu=>ho u (dn _ hu)) (by simpa using w)
def vk:Ins->Bool
 | .fetch _ _=>false
 | .keep _ _=>false
 |_=>true
def Kg(h:vk i=true):yb own pend i=∀h,h∈pend<->(h∈usesOf i/\own<=h):=by cases i<;>first|rfl|cases h
def Kh(h:vk i=true):iU own pend i=fB own i:=by cases i<;>first|rfl|cases h
def Qu:vk (changed u d' i)=vk i:=by cases i<;>rfl
def Dz:dI vs i=true<->∃d,givesOf i=some d/\d∈vs:=by unfold dI;cases givesOf i<;>simp
def abi(cZ:∀v∈vs,v<own)(k:yb own pend i)(hm:vk i=false):gc vs from_ i n=[i]/\cH vs i n=n:=by
 cases i with
 |fetch d s=>
  have hd:own<=d:=k;have hc:vs.contains d=false:=by
   cases e:vs.contains d with
   |false=>rfl
   |true=>have:=cZ d (by simpa using e);lia
  unfold gc cH dI;simp[usesOf,givesOf,changed];exact⟨λhm=>by have:=cZ d hm;omega,λhm=>by have:=cZ d hm;lia⟩
 |keep s a=>
  have ha:own<=a:=k.2;have hc:a∉vs:=λe=>by have:=cZ a e;omega
  unfold gc cH dI;have e:([a].filter vs.contains)=[]:=by simp[hc]
  simp[usesOf,givesOf,changed,e,hc,oz]
 |_=>cases hm
theorem WF.Ad{own from_:Nat}{vs:List Nat}(cZ:∀v∈vs,v<own):∀{c:Code}{pend:List Nat}{n:Nat},own<=n->WF own pend c->WF own pend (spilled vs from_ c n).1
 |[],pend,n,_,w=>w
 | .label l::r,pend,n,hn,w=>⟨w.1,WF.Ad cZ hn w.2⟩
 | .ins i::r,pend,n,hn,w=>by
   obtain⟨k,w⟩:=w;rw[Dx];cases hm:vk i with
   |false=>
    obtain⟨e1,e2⟩:=abi (from_:=from_) (n:=n) cZ k hm;rw[e1,e2];exact⟨k,WF.Ad cZ hn w⟩
   |true=>
    rw[Kg hm]at k;rw[Kh hm]at w;have Ae:own<=cH vs i n:=by unfold cH;lia
    show WF own pend ((gc vs from_ i n).map qQ++(spilled vs from_ r (cH vs i n)).1);unfold gc;simp only[gA,kY,kf];refine Qt (f:=fG vs from_) (cy ((usesOf i).filter vs.contains) n) (λv hv=>?_) ?_
    ·refine ar (lX (n:=n) hv) λq e _=>?_;lia
    ·show yb own _ _/\WF own (iU own _ _) _;rw[Kg (by rw[Qu];exact hm),Kh (by rw[Qu];exact hm)];refine⟨λh=>?_,?_⟩
     ·rw[eO,Qs,kW];constructor
      ·rintro(h1|⟨v,hv,rfl⟩)
       ·obtain⟨h2,h3⟩:=(k h).mp h1;have:h∉(usesOf i).filter vs.contains:=λq=>by have:=cZ h (by simpa using(fq.mp q).2);lia
        exact⟨aF h h2 ((oz this).symm),h3⟩
       ·refine ar (lX (n:=n) hv) λq e _=>?_;exact⟨aF v ((fq.mp hv).1) rfl,by omega⟩
      ·rintro⟨⟨a,ha,rfl⟩,ho⟩;by_cases yd:a∈(usesOf i).filter vs.contains
       ·exact .inr (aF a yd rfl)
       ·rw[oz yd]at ho⊢;exact .inl ((k a).mpr ⟨ha,ho⟩)
     ·cases ho:dI vs i with
      |false=>
       have e:fB own (changed (cy ((usesOf i).filter vs.contains) n) ((givesOf i).getD 0) i)=fB own i:=by unfold fB;rw[Ac];cases givesOf i<;>rfl
       simp only[kX,if_false,jH,sC];rw[e];exact WF.Ad cZ Ae w
      |true=>
       refine ar (Dz.mp ho) λd hd oA=>?_;have bH:=cZ d oA
       have e1:fB own i=[]:=by unfold fB;rw[hd];simp;lia
       rw[e1]at w;have e2:fB own (changed (cy ((usesOf i).filter vs.contains) n) (n+((usesOf i).filter vs.contains).length) i)=[n+((usesOf i).filter vs.contains).length]:=by unfold fB;rw[Ac,hd];simp;lia
       simp only[if_true,cM,jH,n_,sC];rw[e2];exact⟨⟨rfl,by omega⟩,WF.Ad cZ Ae w⟩
def abj(u:Nat->Nat)(cZ:∀v∈vs,v<own)(hn:own<=n):fB own (changed u (if dI vs i=true then n else(givesOf i).getD 0) i)=if dI vs i=true then [n]else fB own i:=by
 unfold fB;rw[Ac];cases hg:givesOf i with
 |none=>
  have:dI vs i=false:=by unfold dI;rw[hg]
  simp[this]
 |some d=>
  cases ho:dI vs i with
  |false=>simp
  |true=>simp[hn]
def Qv(cZ:∀v∈vs,v<own)(hn:own<=n):
  hg own (gc vs from_ i n)=at8 n ((usesOf i).filter vs.contains).length++(if dI vs i=true then [n+((usesOf i).filter vs.contains).length]else fB own i):=by
 unfold gc;simp only[];rw[Qn,yc];congr 1
 ·rw[<-abh n ((abe i).sublist su)];generalize(usesOf i).filter vs.contains=us;have:∀l:List Nat,(∀v∈l,v∈us)->hg own (l.map λv=>at9 (cy us n v) (fG vs from_ v))=l.map (cy us n):=by
   intro l;induction l with
   |nil=>intro _;rfl
   |cons v r ih=>
    intro h;refine ar (lX (n:=n) (h v (by simp))) λq e _=>?_;rw[cM,yc,ih λx hx=>h x (dn _ hx),cM];have:own<=cy us n v:=by lia
    simp[fB,givesOf,this]
  exact this us λ_ h=>h
 ·rw[abj _ cZ (by lia)];cases ho:dI vs i with
  |false=>simp[hg]
  |true=>simp[hg,fB,givesOf]
theorem Qw{own from_:Nat}{vs:List Nat}(cZ:∀v∈vs,v<own):∀{I:List Ins}{n:Nat},own<=n->(∀h∈hg own I,h<n)->(hg own I).Nodup->
  (hg own (dJ vs from_ I n)).Nodup/\n<=eR vs I n/\∀h∈hg own (dJ vs from_ I n),h∈hg own I\/(n<=h/\h<eR vs I n)
 |[],n,_,_,_=>b8 (by simp[dJ,hg]) (aX _) λh q=>by simp[dJ,hg]at q
 |i::r,n,hn,bH,nd=>by
  rw[yc]at nd bH;refine cT (lM.mp nd) λnd1 nd2 nd3=>?_;have Ki:n<=cH vs i n:=by unfold cH;lia
  refine cT (Qw (from_:=from_) cZ (I:=r) (n:=cH vs i n) (by lia) (λh q=>by have:=bH h (iz _ q);lia) nd2) λa1 a2 a3=>?_;have ge:∀h∈hg own (gc vs from_ i n),(h∈fB own i/\dI vs i=false)\/(n<=h/\h<cH vs i n):=λh q=>by
   rw[Qv cZ hn,eO]at q;unfold cH;rcases q with q|q
   ·rw[aua]at q;right;lia
   ·cases ho:dI vs i with
    |true=>rw[ho]at q;simp at q;right;simp;lia
    |false=>rw[ho]at q;simp at q;exact .inl ⟨q,rfl⟩
  rw[dJ,eR,Qn];refine b8 ?_ (by lia) λh q=>?_
  ·rw[lM];refine b8 ?_ a1 λx hx y hy e=>?_
   ·rw[Qv cZ hn,lM];refine b8 List.nodup_range' ?_ λx hx y hy e=>?_
    ·cases ho:dI vs i with
     |true=>simp
     |false=>simpa using nd1
    ·subst e;rw[aua]at hx;cases ho:dI vs i with
     |true=>rw[ho]at hy;simp at hy;lia
     |false=>rw[ho]at hy;simp at hy;have:=bH x (hZ _ hy);lia
   ·subst e;rcases ge x hx with⟨h1,_⟩|h1
    ·rcases a3 x hy with h2|h2
     ·exact nd3 x h1 x h2 rfl
     ·have:=bH x (hZ _ h1);lia
    ·rcases a3 x hy with h2|h2
     ·have:=bH x (iz _ h2);lia
     ·lia
  ·rw[yc];rcases eO.mp q with q|q
   ·rcases ge h q with⟨h1,_⟩|h1
    ·exact .inl (hZ _ h1)
    ·right;lia
   ·rcases a3 h q with h2|h2
    ·exact .inl (iz _ h2)
    ·right;lia
end
section
variable{d' n own from_:Nat}{i:Ins}{vs:List Nat}
def kq(own:Nat)(l:List Nat):List Nat:=l.filter λv=>decide (v<own)
def vm(own:Nat)(i:Ins):Nat:=(kq own (usesOf i)).length+(kq own (givesOf i).toList).length
def h9(own:Nat)(I:List Ins):Nat:=(I.map (vm own)).sum
def DA(own:Nat)(i:Ins)(I:List Ins):h9 own (i::I)=vm own i+h9 own I:=by simp[h9]
def Qx(own:Nat)(I J:List Ins):h9 own (I++J)=h9 own I+h9 own J:=by simp[h9]
theorem Kj(own:Nat):∀I:List Ins,h9 own I<=3*I.length
 |[]=>by simp[h9]
 |i::I=>by
  rw[DA,cG];have:=Kj own I
  have h1:(kq own (usesOf i)).length<=2:=i8 (uJ _ _) (Qm i);have h2:(kq own (givesOf i).toList).length<=1:=i8 (uJ _ _) (by cases givesOf i<;>simp);unfold vm;lia
def abn{u:Nat->Nat}(h:∀a∈usesOf i,∀b∈usesOf i,u a=u b->a=b):usesOf (changed u d' i)=(usesOf i).map u:=by
 cases i<;>simp[changed,usesOf]
 case op k d a b=>
  by_cases e:a=b
  ·subst e;simp
  ·have:u a≠u b:=λq=>e (h a (by simp[usesOf,e]) b (by simp[usesOf,e]) q);simp[e,this]
def abo{us:List Nat}{a b:Nat}(ha:a<n)(hb:b<n)(h:cy us n a=cy us n b):a=b:=by
 by_cases h1:a∈us
 ·refine bc (lX (n:=n) h1) λx ex gx _=>?_;by_cases h2:b∈us
  ·refine bc (lX (n:=n) h2) λy ey gy _=>?_;have:x=y:=by lia
   subst this;rw[gx]at gy;exact eB gy
  ·rw[oz h2]at h;lia
 ·by_cases h2:b∈us
  ·refine bc (lX (n:=n) h2) λy ey gy _=>?_;rw[oz h1]at h;lia
  ·rw[oz h1,oz h2]at h;exact h
theorem Qy{own n:Nat}{vs us:List Nat}(cZ:∀v∈vs,v<own)(hn:own<=n):∀(l:List Nat),(∀v∈l,v∈us<->v∈vs)->
  (kq own (l.map (cy us n))).length+(l.filter vs.contains).length=(kq own l).length
 |[],_=>rfl
 |v::r,h=>by
  have ih:=Qy cZ hn r λx hx=>h x (dn _ hx);unfold kq at ih⊢;rw[cM];by_cases hv:v∈vs
  ·refine ar (lX (n:=n) ((h v (by simp)).mpr hv)) λq e _=>?_;have h1:=cZ v hv
   rw[OT (by simp;lia),OU (p:=vs.contains) (by simpa using hv),OU (by simpa using h1)];rw[cG,cG];lia
  ·rw[oz λq=>hv ((h v (by simp)).mp q),OT (p:=vs.contains) (by simpa using hv)];by_cases h1:v<own
   ·rw[OU (by simpa using h1),OU (by simpa using h1),cG,cG];lia
   ·rw[OT (by simpa using h1),OT (by simpa using h1)];exact ih
def abp(cZ:∀v∈vs,v<own)(hn:own<=n)(hi:∀a∈usesOf i,a<n):
  (kq own (usesOf (changed (cy ((usesOf i).filter vs.contains) n) d' i))).length+((usesOf i).filter vs.contains).length=(kq own (usesOf i)).length:=by
 rw[abn λa ha b hb=>abo (hi a ha) (hi b hb)];exact Qy cZ hn (usesOf i) λv hv=>by rw[fq];simp[hv]
def abq(cZ:∀v∈vs,v<own)(hn:own<=n)(hi:∀a∈usesOf i,a<n):
  cH vs i n+h9 own (gc vs from_ i n)=n+vm own i/\(gc vs from_ i n).length+n=1+cH vs i n:=by
 have hl:=abp (d':=if dI vs i=true then n+((usesOf i).filter vs.contains).length else(givesOf i).getD 0) cZ hn hi;have hf:∀(us l:List Nat),(∀v∈l,v∈us)->h9 own (l.map λv=>at9 (cy us n v) (fG vs from_ v))=0:=by
  intro us l;induction l with
  |nil=>intro _;rfl
  |cons v r ih=>
   intro h;refine ar (lX (n:=n) (h v (by simp))) λq e _=>?_;rw[cM,DA,ih λx hx=>h x (dn _ hx)];simp[vm,kq,usesOf,givesOf,show¬cy us n v<own by lia]
 have hgv:(kq own (givesOf (changed (cy ((usesOf i).filter vs.contains) n) (if dI vs i=true then n+((usesOf i).filter vs.contains).length else(givesOf i).getD 0) i)).toList).length+(if dI vs i=true then 1 else 0)=(kq own (givesOf i).toList).length:=by
  rw[Ac];cases ho:dI vs i with
  |true=>
   refine ar (Dz.mp ho) λd hd oA=>?_;have:=cZ d oA
   simp[hd,kq,this,show¬n+((usesOf i).filter vs.contains).length<own by lia]
  |false=>cases givesOf i<;>simp[kq]
 have hk:h9 own (if dI vs i=true then [Ins.keep (fG vs from_ ((givesOf i).getD 0)) (n+((usesOf i).filter vs.contains).length)]else [])=0:=by
  split
  ·generalize hz:n+((usesOf i).filter vs.contains).length=z;have:¬z<own:=by lia
   simp[h9,vm,kq,usesOf,givesOf];lia
  ·rfl
 constructor
 ·unfold gc cH;simp only[];rw[Qx,DA,hf _ _ (λ_ h=>h),hk];unfold vm;lia
 ·unfold gc cH;simp only[cj,aA,cG];split<;>simp<;>lia
theorem Qz{own from_:Nat}{vs:List Nat}(cZ:∀v∈vs,v<own):∀{I:List Ins}{n:Nat},own<=n->(∀i∈I,∀a∈usesOf i,a<n)->
  n<=eR vs I n/\eR vs I n+h9 own (dJ vs from_ I n)=n+h9 own I/\(dJ vs from_ I n).length+n=I.length+eR vs I n
 |[],n,_,_=>b8 (aX _) rfl rfl
 |i::r,n,hn,hi=>by
  have Ki:n<=cH vs i n:=by unfold cH;lia
  obtain⟨a0,a1,a2⟩:=Qz (from_:=from_) cZ (I:=r) (n:=cH vs i n) (by omega) λx hx a ha=>by have:=hi x (dn _ hx) a ha;omega
  obtain⟨b1,b2⟩:=abq (from_:=from_) cZ hn (hi i (by simp));rw[dJ,eR,Qx,DA,cj,cG];lia
def abr{own v:Nat}{x:Ins}(hx:x∈gc vs from_ i n)(hv:v∈fF x):(v∈fF i/\v∉vs)\/(n<=v/\v<cH vs i n):=by
 unfold gc at hx;simp only[eO,kW,cu]at hx;unfold cH;rcases hx with⟨a,ha,rfl⟩|rfl|hx
 ·refine bc (lX (n:=n) ha) λq e _ hq=>?_;have gf:v∈[cy ((usesOf i).filter vs.contains) n a]:=hv
  simp only[sy]at gf;right;lia
 ·rw[fF,eO,Qs,Ac]at hv;rcases hv with⟨a,ha,rfl⟩|hv
  ·by_cases hm:a∈(usesOf i).filter vs.contains
   ·refine bc (lX (n:=n) hm) λq e _ hq=>?_;right;lia
   ·rw[oz hm];left;exact⟨hZ _ ha,λcZ=>hm (fq.mpr ⟨ha,by simpa using cZ⟩)⟩
  ·cases ho:dI vs i with
   |true=>
    rw[ho]at hv;cases hg:givesOf i with
    |none=>rw[hg]at hv;simp at hv
    |some d=>rw[hg]at hv;simp at hv;right;simp;lia
   |false=>
    rw[ho]at hv;cases hg:givesOf i with
    |none=>rw[hg]at hv;simp at hv
    |some d=>
     rw[hg]at hv;simp at hv;subst hv;left;refine⟨iz _ (by simp[hg]),λhm=>?_⟩;rw[Dz.mpr (aF v hg hm)]at ho;cases ho
 ·split at hx
  ·rename_i ho;rw[sy]at hx;subst hx;have gf:v∈[n+((usesOf i).filter vs.contains).length]:=hv
   simp only[sy]at gf;right;rw[ho];simp only[if_true];omega
  ·simp at hx
theorem DB{from_ v:Nat}{vs:List Nat}{x:Ins}:∀{I:List Ins}{n:Nat},x∈dJ vs from_ I n->v∈fF x->(pP I v/\v∉vs)\/(n<=v/\v<eR vs I n)
 |[],n,hx,_=>by simp[dJ]at hx
 |i::r,n,hx,hv=>by
  rw[dJ,eO]at hx;have hle:∀{I:List Ins}{n:Nat},n<=eR vs I n:=by
   intro I;induction I with
   |nil=>intro n;exact aX _
   |cons j J ih=>intro n;rw[eR];have:=ih (n:=cH vs j n);have:n<=cH vs j n:=by unfold cH;lia
                 lia
  rw[eR];have h1:=hle (I:=r) (n:=cH vs i n)
  have h2:n<=cH vs i n:=by unfold cH;omega
  rcases hx with hx|hx
  ·rcases abr (own:=0) hx hv with⟨h,hn⟩|h
   ·exact .inl ⟨aF i (by simp) h,hn⟩
   ·right;lia
  ·rcases DB hx hv with⟨⟨y,hy,h⟩,hn⟩|h
   ·exact .inl ⟨aF y (dn _ hy) h,hn⟩
   ·right;lia
end
section
variable{v:Nat}{w:Work}
def DC{l:List Nat}(h:l.Nodup):l.reverse.Nodup:=by
 induction l with
 |nil=>exact h
 |cons x r ih=>
  rw[qN]at h;rw[aub,lM];exact b8 (ih h.2) (by simp) λa ha b hb e=>by simp at hb;subst hb;subst e;exact h.1 (by simpa using ha)
theorem QA{g:List (Nat×Nat)}{k own:Nat}:∀{f:Nat}{left:List Nat},left.Nodup->(taken g k own f left).Nodup/\∀v∈taken g k own f left,v∈left
 |0,left,_=>⟨by simp[taken],λv h=>by simp[taken]at h⟩
 |f+1,left,hn=>by
  have go:∀x,x∈left->(x::taken g k own f (left.filter λu=>u !=x)).Nodup/\∀v∈x::taken g k own f (left.filter λu=>u !=x),v∈left:=λx hx=>by
   obtain⟨a,b⟩:=QA (g:=g) (k:=k) (own:=own) (f:=f) (left:=left.filter λu=>u !=x) (hn.sublist su);refine⟨qN.mpr ⟨λh=>?_,a⟩,λv hv=>?_⟩
   ·have:=(fq.mp (b x h)).2;simp at this
   ·rcases cu.mp hv with rfl|hv
    ·exact hx
    ·exact(fq.mp (b v hv)).1
  rw[taken];cases hf:left.find? λv=>decide (degree g left v<k)with
  |some x=>exact go x (OM hf)
  |none=>
   simp only[];cases hm:most g left (left.filter λv=>decide (v<own))with
   |some x=>exact go x (fq.mp (z9 hm)).1
   |none=>exact⟨at5,λv h=>by simp at h⟩
theorem QB{g:List (Nat×Nat)}{k own v:Nat}(hk:0<k)(hv:own<=v\/∀u,g.contains (v,u)=false):∀{f:Nat}{left:List Nat},left.Nodup->v∈taken g k own f left->
  ∃pre post,taken g k own f left=pre++v::post/\(post.filter λu=>g.contains (v,u)).length<k
 |0,left,_,h=>by simp[taken]at h
 |f+1,left,hn,h=>by
  have nd:∀x,(left.filter λu=>u !=x).Nodup:=λx=>hn.sublist su;have later:∀x,v∈taken g k own f (left.filter λu=>u !=x)->∃pre post,x::taken g k own f (left.filter λu=>u !=x)=pre++v::post/\(post.filter λu=>g.contains (v,u)).length<k:=λx hm=>by refine bZ (QB hk hv (nd x) hm) λpre post e hl=>?_;exact cD (x::pre) post (by rw[e];rfl) hl
  rw[taken]at h⊢;cases hf:left.find? λv=>decide (degree g left v<k)with
  |some x=>
   rw[hf]at h;simp only[]at h⊢;rcases cu.mp h with rfl|h
   ·refine cD [] _ rfl ?_;have hd:degree g left v<k:=by simpa using List.find?_some hf
    obtain⟨a,b⟩:=QA (g:=g) (k:=k) (own:=own) (f:=f) (nd v);refine uH (qZ (a.sublist su) λu hu=>?_) hd;obtain⟨h1,h2⟩:=fq.mp hu;exact fq.mpr ⟨(fq.mp (b u h1)).1,h2⟩
   ·exact later x h
  |none=>
   rw[hf]at h;simp only[]at h⊢;cases hm:most g left (left.filter λv=>decide (v<own))with
   |none=>rw[hm]at h;simp at h
   |some x=>
    rw[hm]at h;simp only[]at h⊢;rcases cu.mp h with rfl|h
    ·exfalso;obtain⟨h1,h2⟩:=fq.mp (z9 hm);rcases hv with hv|hv
     ·have:v<own:=by simpa using h2
      lia
     ·have:degree g left v=0:=by unfold degree;rw[CU,CS];intro u _;rw[hv u];simp
      rw[xH]at hf;have:=hf v h1
      simp at this;lia
    ·exact later x h
theorem QC{g:List (Nat×Nat)}{k:Nat}{x:Nat×Option Nat}:∀(o:List Nat)(l:List (Nat×Option Nat)),x∈l->x∈o.foldl (jN g k) l
 |[],l,h=>h
 |v::r,l,h=>by
  rw[og];exact QC r _ (by unfold jN;exact hZ _ h)
def abt{g:List (Nat×Nat)}{k:Nat}{order pre post:List Nat}(e:order=pre++v::post)(h:(post.filter λu=>g.contains (v,u)).length<k):∃r,(v,some r)∈given g k order:=by
 rw[Du,e,List.reverse_append,aub,kf,lN,lN];generalize hl:post.reverse.foldl (jN g k) []=l;have hk:l.map (·.1)=post.reverse:=by rw[<-hl,Dv];rfl
 have near:((l.filterMap λx=>if g.contains (v,x.1)=true then x.2 else none)).length<k:=by
  refine uH ?_ h;have h1:(post.filter λu=>g.contains (v,u)).length=((l.map (·.1)).filter λu=>g.contains (v,u)).length:=by rw[hk,List.filter_reverse,List.length_reverse]
  rw[h1];clear h1 hk hl h e;induction l with
  |nil=>simp
  |cons x r ih=>
   rw[Jo,cM,kb];by_cases hc:g.contains (v,x.1)=true
   ·rw[if_pos hc,if_pos hc,cG];cases hx:x.2 with
    |none=>simp only[];lia
    |some y=>simp only[cG];lia
   ·rw[if_neg hc,if_neg hc];exact ih
 have hr:∃r,(bD k).find? (λr=>!((l.filterMap λx=>if g.contains (v,x.1)=true then x.2 else none).contains r))=some r:=by
  cases hf:(bD k).find? (λr=>!((l.filterMap λx=>if g.contains (v,x.1)=true then x.2 else none).contains r))with
  |some r=>exact⟨r,rfl⟩
  |none=>
   exfalso;rw[xH]at hf;have:=qZ (l:=bD k) (m:=l.filterMap λx=>if g.contains (v,x.1)=true then x.2 else none) xG λr hr=>by have:=hf r hr;simp only[Bool.not_eq_true',Bool.not_eq_false]at this;simpa using this
   rw[OK]at this;lia
 obtain⟨r,hr⟩:=hr;refine⟨r,QC _ _ ?_⟩;rw[og,ZO];unfold jN;simp only[];rw[hr];exact iz _ (by simp)
def DD(I:List Ins)(v:Nat):Bool:=I.any λx=>(fF x).contains v
def DE{I:List Ins}:DD I v=true<->pP I v:=by unfold DD pP;rw[ON];simp
def mu(own:Nat)(I:List Ins):Nat:=((bD own).filter (DD I)).length
def Kk(own:Nat)(I:List Ins):mu own I<=own:=by
 unfold mu;have:=uJ (DD I) (bD own)
 simpa using this
structure gD (w:Work):Prop where
 q0:w.own<=w.vars
 wf:WF w.own [] w.code
 nd:(hg w.own (insOf w.code)).Nodup
 lt:∀x∈insOf w.code,∀v∈fF x,v<w.vars
 vb:w.vars+h9 w.own (insOf w.code)<=832
 sb:(insOf w.code).length+h9 w.own (insOf w.code)<=1024
 sl:w.slots+mu w.own (insOf w.code)<=64
def gD.Kl(W:gD w)(h:pP (insOf w.code) v):v<w.vars:=by refine ar h λx hx hv=>?_;exact W.lt x hx v hv
def gD.Km(W:gD w)(a b:Nat)(h:(meets w.code).contains (a,b)=true):a<w.vars/\b<w.vars:=by obtain⟨h1,h2⟩:=Ql h;exact⟨W.Kl h1,W.Kl h2⟩
def gD.gr(W:gD w){met:List Nat}(hl:met.length=w.vars)(hb:∀(v m:Nat),met[v]?=some m->∀u,m.testBit u=(meets w.code).contains (v,u)):Gr (meets w.code) met w.vars:=
 ⟨hl,hb,W.Km,aba w.code,abb w.code⟩
def gD.abu(W:gD w){k left:Nat}(hk:3<=k)(h0:left≠0)(hl:left<2^w.vars)(hn:∀v,left.testBit v=true->¬degree (meets w.code) (lst w.vars left) v<k):∃v,v<w.own/\left.testBit v=true:=by
 apply uK;intro h_;have ho:∀v,left.testBit v=true->w.own<=v:=λv hv=>by apply uK;intro h;exact h_ (aF v (by lia) hv)
 obtain⟨v,hv⟩:=ZH h0;have:=abg W.wf W.nd (J6 w.vars left) (λu hu=>ho u (ve.mp hu).2) (ho v hv)
 exact hn v hv (by lia)
def orderOf(w:Work)(k:Nat):List Nat:=taken (meets w.code) k w.own w.vars (bD w.vars)
def Af(w:Work)(k:Nat):assigned w k=given (meets w.code) k (orderOf w k):=rfl
def gD.abv(W:gD w){k:Nat}(hk:3<=k)(nd:(orderOf w k).Nodup)(all:∀v,v∈orderOf w k<->v<w.vars)(hv:v<w.vars)(h_:iT (assigned w k) v=none):v<w.own/\pP (insOf w.code) v:=by
 have lW:((assigned w k).map (·.1)).Nodup:=by rw[Af,Dw];exact DC nd
 have:¬(w.own<=v\/∀u,(meets w.code).contains (v,u)=false):=λh=>by
  refine bZ (QB (g:=meets w.code) (k:=k) (own:=w.own) (f:=w.vars) (by lia) h xG ((all v).mpr hv)) λpre post e hl=>?_;obtain⟨r,hr⟩:=abt (g:=meets w.code) (k:=k) (order:=orderOf w k) e hl;have:=(z_ lW hr).1
  rw[h_]at this;cases this
 refine⟨by omega,?_⟩;apply uK;intro h;refine this (.inr λu=>?_);cases e:(meets w.code).contains (v,u)with
 |false=>rfl
 |true=>exact absurd (Ql e).1 h
def dv(w:Work)(k:Nat):List Nat:=(bD w.vars).filter λv=>(assigned w k).any λx=>x.1==v&&x.2.isNone
def nextOf(w:Work)(k:Nat):Work:=⟨(spilled (dv w k) w.slots w.code w.vars).1,w.own,(spilled (dv w k) w.slots w.code w.vars).2,w.slots+(dv w k).length⟩
def oB(w:Work)(k v:Nat):Nat:=(iT (assigned w k) v).getD 0
def tj(w:Work)(k:Nat):Code:=w.code.map λx=>match x with
 | .ins i=> .ins (changed (oB w k) (oB w k ((givesOf i).getD 0)) i)
 | .label l=> .label l
def Kn(k f:Nat)(w:Work):coloured k (f+1) w=if dv w k=[]then tj w k else coloured k f (nextOf w k):=rfl
def Ko{k:Nat}(nd:(orderOf w k).Nodup)(all:∀v,v∈orderOf w k<->v<w.vars):dv w k=(bD w.vars).filter λv=>(iT (assigned w k) v).isNone:=by unfold dv;refine aa8 (by rw[Af,Dw];exact DC nd) λv hv=>?_;rw[Af,Dw];simpa using(all v).mpr hv
def gD.next(W:gD w){k:Nat}(hk:3<=k)(nd:(orderOf w k).Nodup)(all:∀v,v∈orderOf w k<->v<w.vars):gD (nextOf w k)/\mu (nextOf w k).own (insOf (nextOf w k).code)+(dv w k).length<=mu w.own (insOf w.code)/\∀v∈dv w k,v<w.own:=by
 have DF:∀v∈dv w k,v<w.own/\pP (insOf w.code) v:=λv hv=>by rw[Ko nd all,fq]at hv;exact W.abv hk nd all (by simpa using hv.1) (by simpa using hv.2)
 have cZ:∀v∈dv w k,v<w.own:=λv hv=>(DF v hv).1;have knd:(dv w k).Nodup:=xG.sublist su;obtain⟨e1,e2⟩:=vg (dv w k) w.slots w.code w.vars;have bH:∀i∈insOf w.code,∀a∈usesOf i,a<w.vars:=λi hi a ha=>W.lt i hi a (hZ _ ha);refine cT (Qz (from_:=w.slots) cZ W.q0 bH) λo0 o1 o2=>?_;have QD:mu w.own (insOf (spilled (dv w k) w.slots w.code w.vars).1)+(dv w k).length<=mu w.own (insOf w.code):=by
  unfold mu;rw[<-cj];refine qZ (lM.mpr (b8 (xG.sublist su) knd λa ha b hb e=>?_)) λv hv=>?_
  ·subst e;rw[fq,DE,e1]at ha;refine iD ha λha1 x hx hv=>?_;have:a<w.own:=by simpa using ha1
   rcases DB hx hv with⟨_,h⟩|h
   ·exact h hb
   ·have:=W.q0;lia
  ·rcases eO.mp hv with hv|hv
   ·rw[fq,DE,e1]at hv;refine iD hv λpR x hx hv=>?_;have:v<w.own:=by simpa using pR
    rw[fq,DE];rcases DB hx hv with⟨h,_⟩|h
    ·exact⟨pR,h⟩
    ·have:=W.q0;lia
   ·rw[fq,DE];obtain⟨h1,h2⟩:=DF v hv;exact⟨by simpa using h1,h2⟩
 have hhg:∀h∈hg w.own (insOf w.code),h<w.vars:=λh hh=>by refine ar (xF.mp hh) λx hx hm=>?_;exact W.lt x hx h (iz _ (fq.mp hm).1)
 refine b8 ⟨?_,?_,?_,?_,?_,?_,?_⟩ QD cZ
 ·show w.own<=(spilled (dv w k) w.slots w.code w.vars).2;rw[e2];have:=W.q0;lia
 ·exact W.wf.Ad cZ W.q0
 ·show(hg w.own (insOf (spilled (dv w k) w.slots w.code w.vars).1)).Nodup;rw[e1];exact(Qw cZ W.q0 hhg W.nd).1
 ·intro x hx v hv;show v<(spilled (dv w k) w.slots w.code w.vars).2;have jO:x∈insOf (spilled (dv w k) w.slots w.code w.vars).1:=hx
  rw[e1]at jO;rw[e2];rcases DB jO hv with⟨h,_⟩|h
  ·have:=W.Kl h;lia
  ·lia
 ·show(spilled (dv w k) w.slots w.code w.vars).2+h9 w.own (insOf (spilled (dv w k) w.slots w.code w.vars).1)<=832;rw[e1,e2];have:=W.vb;lia
 ·show(insOf (spilled (dv w k) w.slots w.code w.vars).1).length+h9 w.own (insOf (spilled (dv w k) w.slots w.code w.vars).1)<=1024;rw[e1];have:=W.sb;lia
 ·show w.slots+(dv w k).length+mu w.own (insOf (spilled (dv w k) w.slots w.code w.vars).1)<=64;have:=W.sl;lia
end
section
open PySem (Builtin.bitAnd Builtin.bitOr Builtin.bitXor Builtin.bitNot)
open PyProof.Rows
variable{z y:Int}{m a n:Nat}
def cz(z:Int):Prop:=-(2^63)<=z/\z<2^63
def tm(z:Int):cz (wrap z):=by unfold cz wrap HALF;lia
def ye(h:cz z):wrap z=z:=by unfold cz at h;unfold wrap HALF;lia
def aby(x:Int):gO x 18446744073709551615=x%18446744073709551616:=by
 by_cases hx:0<=x
 ·rw[Jp hx (by decide),show(18446744073709551615:Int).toNat=2^64-1 from rfl,Jl];lia
 ·rw[ZP hx (by decide),show(18446744073709551615:Int).toNat=2^64-1 from rfl,ZQ,Jl];unfold gP;lia
def wrapped(z:Int):Int:=gO (z- -9223372036854775808) 18446744073709551615+-9223372036854775808
def tp(z:Int):wrapped z=wrap z:=by unfold wrapped;rw[aby];unfold wrap HALF;lia
def abz(y z:Int):calcOf 0 y z=wrap (y+z):=by delta calcOf;simp only[]
def abA(y z:Int):calcOf 1 y z=wrap (y-z):=by delta calcOf;simp only[]
def abB(y z:Int):calcOf 2 y z=wrap (y*z):=by delta calcOf;simp only[]
def QE(y z:Int):calcOf 3 y z=if z=0 then 0 else wrap (y.tdiv z):=by delta calcOf;simp only[]
def QF(y z:Int):calcOf 4 y z=if z=0 then y else y.tmod z:=by delta calcOf;simp only[]
def abC(y z:Int):calcOf 5 y z=wrap ((bits y&&&bits z:Nat):Int):=by delta calcOf;simp only[]
def abD(y z:Int):calcOf 6 y z=wrap ((bits y|||bits z:Nat):Int):=by delta calcOf;simp only[]
def abE(y z:Int):calcOf 7 y z=wrap ((bits y^^^bits z:Nat):Int):=by delta calcOf;simp only[]
def abF(y z:Int):calcOf 8 y z=wrap (y*2^(bits z%64)):=by delta calcOf;simp only[]
def abG(y z:Int):calcOf 9 y z=y/2^(bits z%64):=by delta calcOf;simp only[]
def QG(y z:Int):calcOf 10 y z=flag (decide (y<z)):=by delta calcOf;simp only[]
def QH(y z:Int):calcOf 11 y z=flag (y==z):=by delta calcOf;simp only[]
def DG(h:cz y)(h0:0<=y):bits y=y.toNat/\y.toNat<2^63:=by unfold cz at h;unfold bits;lia
def DH(h:cz y)(h0:¬0<=y):bits y=2^64-((gP y).toNat+1)/\(gP y).toNat<2^63:=by unfold cz at h;unfold bits gP;lia
def tq(y:Int):bits y<2^64:=by unfold bits;lia
def Ag{i:Nat}(h:m<2^64):(2^64-(m+1)).testBit i=(decide (i<64)&&!m.testBit i):=Nat.testBit_two_pow_sub_succ h i
def QI(m n:Nat):(m^^^n)+2*(m&&&n)=m+n:=by
 have h2:=OV (m^^^n) (m&&&n);rw[show(m^^^n)|||(m&&&n)=m|||n from qK λi=>by rw[xK,xJ,jG,xK];cases m.testBit i<;>cases n.testBit i<;>rfl,
  show(m^^^n)&&&(m&&&n)=0 from qK λi=>by rw[jG,xJ,jG,atY];cases m.testBit i<;>cases n.testBit i<;>rfl]at h2
 rw[Nat.two_mul,<-Jh,<-h2,Jj,OV]
def QJ(ha:a<2^64)(hm:m<2^64):(a&&&(2^64-(m+1)))+(a&&&m)=a:=by
 have e1:(a&&&(2^64-(m+1)))^^^(a&&&m)=a:=by
  apply qK;intro i;rw[xJ,jG,jG,Ag hm];by_cases hi:i<64
  ·simp[hi];cases a.testBit i<;>cases m.testBit i<;>rfl
  ·have:a.testBit i=false:=zF (eP ha (sq (by decide) (by lia)));simp[this]
 have e2:(a&&&(2^64-(m+1)))&&&(a&&&m)=0:=by apply qK;intro i;rw[jG,jG,jG,Ag hm];simp;intro _ _ h _;exact h
 have:=QI (a&&&(2^64-(m+1))) (a&&&m);rw[e1,e2]at this;lia
def QK(hm:m<2^64)(hn:n<2^64):(2^64-(m+1))&&&(2^64-(n+1))=2^64-((m|||n)+1):=by apply qK;intro i;rw[jG,Ag hm,Ag hn,Ag (OW hm hn),xK];cases decide (i<64)<;>simp
def Kp{b:Nat}(ha:a<2^63):a&&&b<2^63:=uH ZR ha
def Kq(hy:cz y)(hz:cz z):gO y z=wrap ((bits y&&&bits z:Nat):Int):=by
 by_cases h1:0<=y<;>by_cases h2:0<=z
 ·obtain⟨e1,l1⟩:=DG hy h1;obtain⟨e2,l2⟩:=DG hz h2;rw[Jp h1 h2,e1,e2,ye];have:=Kp (b:=z.toNat) l1
  unfold cz;lia
 ·obtain⟨e1,l1⟩:=DG hy h1;obtain⟨e2,l2⟩:=DH hz h2;rw[bitAnd_pn h1 h2,e1,e2];have k:=QJ (a:=y.toNat) (m:=(gP z).toNat) (by lia) (by lia)
  have:=Kp (b:=2^64-((gP z).toNat+1)) l1;rw[ye (by unfold cz;omega)];lia
 ·obtain⟨e1,l1⟩:=DH hy h1;obtain⟨e2,l2⟩:=DG hz h2;rw[ZP h1 h2,e1,e2,ZQ (2^64-_)];have k:=QJ (a:=z.toNat) (m:=(gP y).toNat) (by lia) (by lia)
  have:=Kp (b:=2^64-((gP y).toNat+1)) l2;rw[ye (by unfold cz;omega)];lia
 ·obtain⟨e1,l1⟩:=DH hy h1;obtain⟨e2,l2⟩:=DH hz h2;rw[bitAnd_nn h1 h2,e1,e2,QK (by omega) (by omega)];have:=OW l1 l2
  generalize(gP y).toNat|||(gP z).toNat=q at*;unfold gP wrap HALF;lia
def QL(hy:cz y):bits (gP y)=2^64-(bits y+1):=by clear hy;unfold bits gP;lia
def QM(hy:cz y):cz (gP y):=by unfold cz at*;unfold gP;lia
def QN(hy:cz y)(hz:cz z):lO y z=wrap ((bits y|||bits z:Nat):Int):=by
 unfold lO;rw[Kq (QM hy) (QM hz),QL hy,QL hz,QK (tq y) (tq z)];have:=OW (tq y) (tq z)
 generalize bits y|||bits z=q at*;unfold gP wrap HALF;lia
def Kr(h:n<2^64):n.testBit 63=decide (2^63<=n):=by rw[ZJ];rw[fu];simp;lia
def yf(h:¬2^63<=n):wrap n=n:=ye ⟨by lia,by lia⟩
def yg(h:2^63<=n)(h2:n<2^64):wrap n=n-18446744073709551616:=by unfold wrap HALF;lia
def abH(hy:cz y)(hz:cz z):OX y z=wrap ((bits y^^^bits z:Nat):Int):=by
 unfold OX;rw[QN hy hz,Kq hy hz];have hb:=tq y
 have hc:=tq z;clear hy hz;generalize bits y=b at*;generalize bits z=c at*;have k1:=OV b c;rw[<-QI b c]at k1;have l1:=OW hb hc;have l2:b&&&c<2^64:=uH ZR hb;have l3:=atZ hb hc;have t1:=Kr l1;have t2:=Kr l2;have t3:=Kr l3;rw[xK]at t1;rw[jG]at t2;rw[xJ]at t3;clear hb hc;generalize b|||c=o at*;generalize b&&&c=a at*;generalize b^^^c=x at*;generalize b.testBit 63=p at*;generalize c.testBit 63=q at*;have hx:(o:Int)=a+x:=by lia
 clear k1;cases p<;>cases q<;>have t1:=t1.symm<;>have t2:=t2.symm<;>have t3:=t3.symm
 ·rw[yf (of_decide_eq_false t1),yf (of_decide_eq_false t2),yf (of_decide_eq_false t3),hx,auc,Int.add_sub_cancel]
 ·rw[yg (of_decide_eq_true t1) l1,yf (of_decide_eq_false t2),yg (of_decide_eq_true t3) l3,hx];clear hx t1 t2 t3 l1 l2 l3;lia
 ·rw[yg (of_decide_eq_true t1) l1,yf (of_decide_eq_false t2),yg (of_decide_eq_true t3) l3,hx];clear hx t1 t2 t3 l1 l2 l3;omega
 ·rw[yg (of_decide_eq_true t1) l1,yg (of_decide_eq_true t2) l2,yf (of_decide_eq_false t3),hx];clear hx t1 t2 t3 l1 l2 l3;lia
def QO(z:Int):gO z 63=((bits z%64:Nat):Int):=by
 have h:gO z 63=z%64:=by
  by_cases hx:0<=z
  ·rw[Jp hx (by decide),show(63:Int).toNat=2^6-1 from rfl,Jl];lia
  ·rw[ZP hx (by decide),show(63:Int).toNat=2^6-1 from rfl,ZQ,Jl];unfold gP;lia
 rw[h];unfold bits;lia
def fS(i:Int):Int:=if i<0 then-i else i
def DI(i:Int):fS i=(i.natAbs:Int):=by unfold fS;split<;>lia
def abI(hz:z≠0):(if decide (y<0)=decide (z<0)then fS y/fS z else-(fS y/fS z))=y.tdiv z:=by
 rw[DI,DI];rcases ZS y with hy|hy<;>rcases ZS z with q_|q_<;>generalize y.natAbs=a at*<;>generalize z.natAbs=b at*<;>subst hy<;>subst q_
 ·rw[OY (by lia),if_pos (by rw[fu];simp;lia)]
 ·rw[Int.tdiv_neg,OY (by omega)];by_cases h:a=0
  ·subst h;simp
  ·rw[if_neg (by simp;lia)]
 ·rw[Int.neg_tdiv,OY (by omega)];by_cases h:a=0
  ·subst h;simp
  ·rw[if_neg (by simp;lia)]
 ·rw[Int.neg_tdiv_neg,OY (by omega)];by_cases h:a=0
  ·subst h;simp
  ·rw[if_pos (by rw[fu];simp;lia)]
def abJ(hz:z≠0):(if y<0 then-(fS y%fS z)else fS y%fS z)=y.tmod z:=by
 rw[DI,DI];have hm:∀x:Int,x.tmod z=x.tmod (z.natAbs:Int):=λx=>by
  rcases ZS z with h|h
  ·rw[<-h]
  ·conv=>lhs;rw[h]
   rw[Int.tmod_neg]
 rw[hm];split
 ·rename_i h;have e:y=-(y.natAbs:Int):=by lia
  conv=>rhs;rw[e]
  rw[aud,aue (by lia)]
 ·have e:y=(y.natAbs:Int):=by omega
  conv=>rhs;rw[e]
  rw[aue (by lia)]
def abK(hy:cz y):cz (y.tmod z):=by
 unfold cz at*;have h:=Int.natAbs_tmod y z
 have:(y.tmod z).natAbs<=y.natAbs:=by rw[h];exact Nat.mod_le _ _
 have s1:0<=y->0<=y.tmod z:=λh=>auf z h;have s2:y<=0->0<=-(y.tmod z):=λh=>by rw[<-aud];exact auf z (by lia)
 omega
def QP(b:Bool):cz (flag b):=by unfold flag cz;split<;>lia
def abL(n:Nat)(hy:cz y):cz (y/2^n):=by
 unfold cz at*;have hp:(0:Int)<2^n:=Int.pow_pos (by decide)
 constructor
 ·rw[Int.le_ediv_iff_mul_le hp];have:(1:Int)<=2^n:=by lia
  have:(2:Int)^63*1<=2^63*2^n:=auh this (by decide);lia
 ·rw[Int.ediv_lt_iff_lt_mul hp];have:(1:Int)<=2^n:=by omega
  have:(2:Int)^63*1<=2^63*2^n:=auh this (by decide);lia
def abM(k:Nat)(hy:cz y)(hz:cz z):cz (calcOf k y z):=by
 unfold calcOf;split
 ·exact tm _
 ·exact tm _
 ·exact tm _
 ·split
  ·unfold cz;decide
  ·exact tm _
 ·split
  ·exact hy
  ·exact abK hy
 ·exact tm _
 ·exact tm _
 ·exact tm _
 ·exact tm _
 ·exact abL _ hy
 ·exact QP _
 ·exact QP _
end
section
variable{n:Nat}{w:B}{c:UInt8}
def mW(n:Nat):Bool:=n==32||(97<=n&&n<=122)||(48<=n&&n<=57)||[58,61,43,45,42,47,38,124,94,60,62].contains n
def eC(n:Nat):Nat:=if n=37 then 64 else if n=10\/mW n=true then n else 63
def sg(w:B):List Nat:=w.map λb=>eC b.toNat
def abN:∀m,m<256->(mW m=true\/m=10)->∀n,n<256->eC n=m->n=m:=by decide+kernel
def abO:∀n,n<256->eC n=64->n=37:=by decide+kernel
def Ks(h:mW n=true\/n=10)(hn:n≠37:=by intro h;subst h;revert h;decide):eC n=n:=by
 unfold eC;rw[if_neg hn];rcases h with h|h
 ·rw[if_pos (.inr h)]
 ·rw[if_pos (.inl h)]
def Kt(h:mW n=true):n≠37:=by intro e;subst e;revert h;decide
def abP{a b:UInt8}(h:a.toNat=b.toNat):a=b:=xN.mp h
def eF(w:B):Prop:=∀b∈w,mW b.toNat=true
def QQ(h:eF w):sg w=w.map UInt8.toNat:=by unfold sg;apply ke;intro b hb;exact Ks (.inl (h b hb)) (Kt (h b hb))
theorem rf:∀{w v:B},eF v->sg w=sg v->w=v
 |[],[],_,_=>rfl
 |[],_::_,_,h=>by simp[sg]at h
 |_::_,[],_,h=>by simp[sg]at h
 |a::w,b::v,hv,h=>by
  simp only[sg,cM,axe]at h;have hb:=hv b (by simp)
  have e:a=b:=abP (abN b.toNat b.toNat_lt (.inl hb) a.toNat a.toNat_lt (by rw[h.1];exact Ks (.inl hb) (Kt hb)));rw[e,rf (λx hx=>hv x (dn _ hx)) (w:=w) h.2]
def pT(w:B):(sg w).length=w.length:=by simp[sg]
def Ah:sg w=[]<->w=[]:=by simp[sg]
def QR(c:UInt8):letter c=true<->97<=c.toNat/\c.toNat<=122:=by simp[letter]
def DJ(c:UInt8):digit c=true<->48<=c.toNat/\c.toNat<=57:=by simp[digit]
def abQ(h:letter c=true):mW c.toNat=true:=by rw[QR]at h;unfold mW;simp;lia
def QS(h:digit c=true):mW c.toNat=true:=by rw[DJ]at h;unfold mW;simp;lia
def abR(h:name w=true):w.length<=8/\w≠[]:=by unfold name at h;simp at h;refine⟨h.1,λe=>?_⟩;subst e;simp at h
def Ai(h:name w=true):eF w:=by
 unfold name at h;simp at h;intro b hb;rcases h.2.2.1 b hb with h|h
 ·exact abQ h
 ·exact QS h
def abS:∀n,n<256->(97<=eC n/\eC n<=122<->97<=n/\n<=122):=by decide+kernel
def abT:∀n,n<256->(48<=eC n/\eC n<=57<->48<=n/\n<=57):=by decide+kernel
def kr(n:Nat):Bool:=decide (97<=n/\n<=122)
def lY(n:Nat):Bool:=decide (48<=n/\n<=57)
def QT(c:UInt8):kr (eC c.toNat)=letter c:=by unfold kr letter;rw[fu,decide_eq_true_iff,decide_eq_true_iff];exact abS c.toNat c.toNat_lt
def DK(c:UInt8):lY (eC c.toNat)=digit c:=by unfold lY digit;rw[fu,decide_eq_true_iff,decide_eq_true_iff];exact abT c.toNat c.toNat_lt
def isName(l:List Nat)(kw:Bool):Bool:=decide (l.length<=8)&&((l.head?).any kr&&(l.all (λc=>kr c||lY c)&&!kw))
def abU(w:B):isName (sg w) (kept.contains w)=name w:=by
 unfold isName name;rw[pT];have e1:(sg w).head?.any kr=w.head?.any letter:=by
  cases w with
  |nil=>rfl
  |cons a r=>simp[sg,QT]
 have e2:(sg w).all (λc=>kr c||lY c)=w.all λc=>letter c||digit c:=by unfold sg;rw[Jq];congr 1;funext c;simp[QT,DK]
 rw[e1,e2]
def yh:eF (txt "in")/\eF (txt "out")/\eF (txt "goto")/\eF (txt "if")/\eF (txt "ret")/\eF (txt "=")/\eF (txt ":"):=by refine⟨?_,?_,?_,?_,?_,?_,?_⟩<;>(intro b hb;revert b;decide)
def abV(w:B):kept.contains w=true<->sg w=sg (txt "in")\/sg w=sg (txt "out")\/sg w=sg (txt "goto")\/sg w=sg (txt "if")\/sg w=sg (txt "ret"):=by
 refine pJ yh λh1 h2 h3 h4 h5 _ _=>?_;simp only[kept,cM,jH,aui,cu,hU,or_false,decide_eq_true_eq];constructor
 ·rintro(h|h|h|h|h)<;>simp[h]
 ·rintro(h|h|h|h|h)
  ·exact .inl (rf h1 h)
  ·exact .inr (.inl (rf h2 h))
  ·exact .inr (.inr (.inl (rf h3 h)))
  ·exact .inr (.inr (.inr (.inl (rf h4 h))))
  ·exact .inr (.inr (.inr (.inr (rf h5 h))))
inductive PL where
 |lab (l:B)
 |put (x:B)|ret (x:B)|goto (l:B)
 |get (d:B)|copy (d a:B)|num (d:B) (z:Int)
 |cond (a l:B)
 |op (k:Nat) (d a b:B)
def oC(o:B):Option Nat:=ops.findIdx? λs=>txt s==o
def parse:List B->Option PL
 |[a,b]=>if b=txt ":"/\name a=true then some (.lab a)else if name b=false then none else if a=txt "goto" then some (.goto b)else if a=txt "out" then some (.put b)else if a=txt "ret" then some (.ret b)else none
 |[x,e,y]=>if e≠txt "="\/name x=false then none else if y=txt "in" then some (.get x)else if name y=true then some (.copy x y)else(intOf y).map (.num x)
 |[i,x,g,y]=>if i=txt "if"/\name x=true/\g=txt "goto"/\name y=true then some (.cond x y)else none
 |[x,e,y,o,z]=>if e≠txt "="\/name x=false then none else if name y=false then none else match oC o with
  |none=>none
  |some k=>if name z=false then none else some (.op k x y z)
 |_=>none
def pU(vs:List B)(d a b:B):List B×Nat×Nat×Nat:=
 let x:=numbered vs d
 let y:=numbered x.1 a
 let z:=numbered y.1 b
 (z.1,x.2,y.2,z.2)
def aY(vs ls:List B):PL->Ins×List B×List B
 | .lab l=>(.goto 0,vs,ls)
 | .put x=>(.put (numbered vs x).2,(numbered vs x).1,ls)
 | .ret x=>(.ret (numbered vs x).2,(numbered vs x).1,ls)
 | .goto l=>(.goto (numbered ls l).2,vs,(numbered ls l).1)
 | .get d=>(.get (numbered vs d).2,(numbered vs d).1,ls)
 | .copy d a=>(.copy (numbered vs d).2 (numbered (numbered vs d).1 a).2,(numbered (numbered vs d).1 a).1,ls)
 | .num d z=>(.num (numbered vs d).2 z,(numbered vs d).1,ls)
 | .cond a l=>(.cond (numbered vs a).2 (numbered ls l).2,(numbered vs a).1,(numbered ls l).1)
 | .op k d a b=>(.op k (pU vs d a b).2.1 (pU vs d a b).2.2.1 (pU vs d a b).2.2.2,(pU vs d a b).1,ls)
def jQ:PL->Bool
 | .lab _=>true
 |_=>false
def abW(h:name w=true):∃a r,w=a::r/\letter a=true:=by
 unfold name at h;cases w with
 |nil=>simp at h
 |cons a r=>exact⟨a,r,rfl,by simp at h;exact h.2.1⟩
def abX(h:name w=true):intOf w=none:=by
 refine bZ (abW h) λa r bp ha=>?_;obtain rfl:=bp;rw[QR]at ha;have n45:a≠45:=λe=>by subst e;revert ha;decide
 have nd:digit a=false:=by
  cases e:digit a with
  |false=>rfl
  |true=>rw[DJ]at e;lia
 unfold intOf;split
 ·rename_i r' e;cases e;exact absurd rfl n45
 ·have:natOf (a::r)=none:=by unfold natOf;rw[if_pos];right;left;simp[nd]
  rw[this]
def yi(a b:B):parse [a,b]=if b=txt ":"/\name a=true then some (.lab a)else if name b=false then none else if a=txt "goto" then some (.goto b)else if a=txt "out" then some (.put b)else if a=txt "ret" then some (.ret b)else none:=rfl
def DL(a b:B):isLabel [a,b]=true<->(b=txt ":"/\name a=true):=by show(b==[58]&&name a)=true<->_;rw[eW,beq_iff_eq];exact Iff.rfl
def DM(l:List B):isLabel l=true<->∃x,parse l=some (.lab x):=by
 match l with
 |[]=>simp[isLabel,parse]
 |[_]=>simp[isLabel,parse]
 |[a,b]=>
  by_cases h:b=txt ":"/\name a=true
  ·have h1:isLabel [a,b]=true:=by rw[DL];exact h
   rw[h1,yi,if_pos h];simp
  ·have h1:isLabel [a,b]=false:=by
    cases e:isLabel [a,b]with
    |false=>rfl
    |true=>rw[DL]at e;exact absurd e h
   rw[h1,yi,if_neg h];simp only[kX,false_iff];rintro⟨x,h⟩;split at h
   ·cases h
   ·split at h
    ·cases h
    ·split at h
     ·cases h
     ·split at h<;>cases h
 |[_,_,_]=>
  simp only[isLabel,parse,kX,false_iff];rintro⟨x,h⟩;split at h
  ·cases h
  ·split at h
   ·cases h
   ·split at h
    ·cases h
    ·rename_i y _ _ _;cases hi:intOf y<;>rw[hi]at h<;>cases h
 |[_,_,_,_]=>
  simp only[isLabel,parse,kX,false_iff];rintro⟨x,h⟩;split at h<;>cases h
 |[_,_,_,_,_]=>
  simp only[isLabel,parse,kX,false_iff];rintro⟨x,h⟩;split at h
  ·cases h
  ·split at h
   ·cases h
   ·split at h
    ·cases h
    ·split at h<;>cases h
 |_::_::_::_::_::_::_=>simp[isLabel,parse]
def QU(vs ls:List B)(l:List B)(hl:isLabel l=false):insOfWords vs ls l=(parse l).map (aY vs ls):=by
 match l with
 |[]=>rfl
 |[_]=>rfl
 |[a,b]=>
  have dM:¬(b=txt ":"/\name a=true):=λh=>by have:isLabel [a,b]=true:=(DL a b).mpr h;rw[hl]at this;cases this
  rw[yi,if_neg dM];clear hl dM;simp only[insOfWords];have d1:(txt "out":B)≠txt "goto":=by decide
  have d2:(txt "ret":B)≠txt "goto":=by decide
  have d3:(txt "ret":B)≠txt "out":=by decide
  have d4:(txt "goto":B)≠txt "out":=by decide
  have d5:(txt "goto":B)≠txt "ret":=by decide
  generalize name b=nb;generalize txt "out"=to at*;generalize txt "ret"=tr at*;generalize txt "goto"=tg at*;by_cases h1:a=to
  ·rw[if_pos h1];cases nb with
   |false=>simp
   |true=>simp[h1,d1,aY]
  ·rw[if_neg h1];by_cases h2:a=tr
   ·rw[if_pos h2];cases nb with
    |false=>simp
    |true=>simp[h2,d2,d3,aY]
   ·rw[if_neg h2];by_cases h3:a=tg
    ·cases nb with
     |false=>simp
     |true=>simp[h3,aY]
    ·cases nb with
     |false=>simp
     |true=>simp[h1,h2,h3]
 |[x,e,y]=>
  simp only[insOfWords,parse];by_cases he:e=txt "="
  ·subst he;cases hx:name x with
   |false=>simp
   |true=>
    simp only[ne_eq,not_true_eq_false,if_false,Bool.true_eq_false,or_self,if_true,Option.bind_some];by_cases hy:y=txt "in"
    ·subst hy;simp[aY]
    ·simp only[hy,if_false];cases hn:name y with
     |true=>rw[abX hn];simp[aY]
     |false=>cases hi:intOf y<;>simp[aY]
  ·simp[he]
 |[i,x,g,y]=>
  simp only[insOfWords,parse];by_cases h1:i=txt "if"
  ·by_cases h2:g=txt "goto"
   ·cases hy:name y with
    |false=>simp
    |true=>cases hx:name x<;>simp[h1,h2,aY]
   ·simp[h2]
  ·simp[h1]
 |[x,e,y,o,z]=>
  simp only[insOfWords,parse];by_cases he:e=txt "="
  ·subst he;simp only[ne_eq,not_true_eq_false,if_false,false_or];unfold oC;cases hk:ops.findIdx? λs=>txt s==o with
   |none=>cases name x<;>cases name y<;>simp
   |some k=>cases name x<;>cases name y<;>cases name z<;>simp[aY,pU]
  ·simp[he]
 |_::_::_::_::_::_::_=>rfl
def Aj(r:Read){l:List B}(h:l≠[]):line r l=match parse l with
  |none=>none
  |some (.lab x)=>if r.code.contains (.label (numbered r.labels x).2)=true then none else some {r with code:=r.code++[.label (numbered r.labels x).2],labels:=(numbered r.labels x).1}
  |some p=>if VARS<(aY r.vars r.labels p).2.1.length\/MOST<=(insOf r.code).length then none else some ⟨r.code++[.ins (aY r.vars r.labels p).1],(aY r.vars r.labels p).2.1,(aY r.vars r.labels p).2.2⟩:=by
 obtain⟨x,t,rfl⟩:∃x t,l=x::t:=by cases l with|nil=>exact absurd rfl h|cons x t=>exact⟨x,t,rfl⟩
 unfold line;cases hl:isLabel (x::t)with
 |true=>
  obtain⟨y,hy⟩:=(DM _).mp hl;rw[hy];simp only[if_true];have:y=x:=by
   match t,hl with
   |[c],hl=>
    rw[yi,if_pos ((DL x c).mp hl)]at hy;exact(PL.lab.inj (eB hy)).symm
   |[],hl=>simp[isLabel]at hl
   |_::_::_,hl=>simp[isLabel]at hl
  rw[this]
 |false=>
  simp only[kX,if_false];rw[QU _ _ _ hl];cases hp:parse (x::t)with
  |none=>rfl
  |some p=>
   cases p with
   |lab y=>have:=(DM _).mpr ⟨y,hp⟩;rw[hl]at this;cases this
   |_=>rfl
end
section
variable{w:B}{p:PL}
def QV{l:List B}{k:Nat}(h:(l.findIdx? λx=>x==w)=some k):numbered l w=(l,k)/\l[k]?=some w:=by refine⟨by unfold numbered;rw[h],?_⟩;rw[OO]at h;obtain⟨hk,h1,_⟩:=h;rw[mN hk];simpa using h1
def QW{l:List B}(h:w∉l):numbered l w=(l++[w],l.length):=by
 have:(l.findIdx? λx=>x==w)=none:=by rw[OP];intro x hx;have:x≠w:=λe=>h (e▸hx);simpa using this
 unfold numbered;rw[this]
def QX{l:List B}(h:w∈l):∃k,(l.findIdx? λx=>x==w)=some k:=by
 cases e:l.findIdx? λx=>x==w with
 |some k=>exact⟨k,rfl⟩
 |none=>rw[OP]at e;simpa using e w h
def Ku(l:List B)(w:B):(w∈l/\∃k,numbered l w=(l,k)/\l[k]?=some w/\k<l.length)\/(w∉l/\numbered l w=(l++[w],l.length)):=by
 by_cases h:w∈l
 ·left;obtain⟨k,e⟩:=QX h;obtain⟨e1,e2⟩:=QV e;exact⟨h,k,e1,e2,(d0.mp e2).1⟩
 ·exact .inr ⟨h,QW h⟩
structure Nm (l:List B) (w:B) (l':List B) (k:Nat):Prop where
 eq:numbered l w=(l',k)
 at_:l'[k]?=some w
 lt:k<l'.length
 pre:∃t,l'=l++t/\t.length<=1
 nd:l.Nodup->l'.Nodup
 nm:(∀x∈l,name x=true)->name w=true->∀x∈l',name x=true
def iF(l:List B)(w:B):Nm l w (numbered l w).1 (numbered l w).2:=by
 rcases Ku l w with⟨h,k,e,e2,hk⟩|⟨h,e⟩
 ·rw[e];exact⟨e,e2,hk,⟨[],by simp⟩,λh=>h,λh _=>h⟩
 ·rw[e];refine⟨e,by simp,by simp,⟨[w],rfl,by simp⟩,λhn=>?_,λh1 h2 x hx=>?_⟩
  ·rw[lM];exact b8 hn (by simp) λa ha b hb q=>by simp at hb;subst hb;subst q;exact h ha
  ·rcases eO.mp hx with hx|hx
   ·exact h1 x hx
   ·simp at hx;subst hx;exact h2
def Nm.le{l l':List B}{k:Nat}(h:Nm l w l' k):l.length<=l'.length/\l'.length<=l.length+1:=by refine ar h.pre λt e ht=>?_;rw[e,cj];lia
def abZ{l:List B}{k:Nat}(hn:l.Nodup)(h:l[k]?=some w):numbered l w=(l,k):=by
 rcases Ku l w with⟨_,j,e,e2,hk⟩|⟨h_,_⟩
 ·have:j=k:=by obtain⟨h1,g1⟩:=d0.mp e2;obtain⟨h2,g2⟩:=d0.mp h;exact(xM hn).mp (g1.trans g2.symm)
  rw[e,this]
 ·exact absurd (cP h) h_
def jR(V L:Nat):Ins->Prop
 | .num d z=>d<V/\(-(2^63)<=z/\z<2^63)
 | .copy d a=>d<V/\a<V
 | .op k d a b=>k<12/\d<V/\a<V/\b<V
 | .get d=>d<V
 | .put a=>a<V
 | .goto l=>l<L
 | .cond a l=>a<V/\l<L
 | .ret a=>a<V
 | .fetch _ _=>False
 | .keep _ _=>False
def jR.mono{V L V' L':Nat}{i:Ins}(h:jR V L i)(hV:V<=V')(hL:L<=L'):jR V' L' i:=by cases i<;>simp[jR]at h⊢<;>lia
structure iG (r:Read):Prop where
 DN:r.vars.Nodup
 vn:r.labels.Nodup
 DO:∀x∈r.vars,name x=true
 vo:∀x∈r.labels,name x=true
 ins:∀i∈insOf r.code,jR r.vars.length r.labels.length i
 lab:∀l∈aN r.code,l<r.labels.length
 vq:(aN r.code).Nodup
 yj:r.vars.length<=64
 DP:(insOf r.code).length<=256
def iG.start:iG ⟨[],[],[]⟩:=⟨by simp,by simp,by simp,by simp,by simp[insOf],by simp[aN],by simp[aN],by simp,by simp[insOf]⟩
def ab0{z:Int}(h:intOf w=some z):-(2^63)<=z/\z<2^63:=by
 unfold intOf at h;split at h
 ·split at h
  ·split at h
   ·rename_i hn;cases h;unfold HALF at hn;lia
   ·cases h
  ·cases h
 ·split at h
  ·split at h
   ·rename_i hn;cases h;unfold HALF at hn;lia
   ·cases h
  ·cases h
def QY{o:B}{k:Nat}(h:oC o=some k):k<12:=by unfold oC at h;rw[OO]at h;obtain⟨hk,_⟩:=h;exact hk
def Ak:PL->Prop
 | .lab l=>name l=true
 | .put x=>name x=true
 | .ret x=>name x=true
 | .goto l=>name l=true
 | .get d=>name d=true
 | .copy d a=>name d=true/\name a=true
 | .num d z=>name d=true/\(-(2^63)<=z/\z<2^63)
 | .cond a l=>name a=true/\name l=true
 | .op k d a b=>k<12/\name d=true/\name a=true/\name b=true
def DQ{l:List B}(h:parse l=some p):Ak p:=by
 match l,h with
 |[a,b],h=>
  rw[yi]at h;split at h
  ·rename_i q;cases h;exact q.2
  ·split at h
   ·cases h
   ·rename_i q;have q':name b=true:=by simpa using q
    split at h
    ·cases h;exact q'
    ·split at h
     ·cases h;exact q'
     ·split at h
      ·cases h;exact q'
      ·cases h
 |[x,e,y],h=>
  simp only[parse]at h;split at h
  ·cases h
  ·rename_i q;have q':name x=true:=by
    cases hx:name x with
    |true=>rfl
    |false=>exact absurd (.inr hx) q
   split at h
   ·cases h;exact q'
   ·split at h
    ·rename_i hy;cases h;exact⟨q',hy⟩
    ·cases hi:intOf y with
     |none=>rw[hi]at h;cases h
     |some z=>rw[hi]at h;cases h;exact⟨q',ab0 hi⟩
 |[i,x,g,y],h=>
  simp only[parse]at h;split at h
  ·rename_i q;cases h;exact⟨q.2.1,q.2.2.2⟩
  ·cases h
 |[x,e,y,o,z],h=>
  simp only[parse]at h;split at h
  ·cases h
  ·rename_i q;have q':name x=true:=by
    cases hx:name x with
    |true=>rfl
    |false=>exact absurd (.inr hx) q
   split at h
   ·cases h
   ·rename_i hy;split at h
    ·cases h
    ·rename_i k hk;split at h
     ·cases h
     ·rename_i hz;cases h;exact⟨QY hk,q',by simpa using hy,by simpa using hz⟩
 |[],h=>cases h
 |[_],h=>cases h
 |_::_::_::_::_::_::_,h=>cases h
def ab1(vs:List B)(d a b:B):∃v1 v2,Nm vs d v1 (pU vs d a b).2.1/\Nm v1 a v2 (pU vs d a b).2.2.1/\Nm v2 b (pU vs d a b).1 (pU vs d a b).2.2.2:=
 (aB _ _ (iF vs d) (iF _ a) (iF _ b))
structure PLn (vs ls:List B) (p:PL) (i:Ins) (fT DR:List B):Prop where
 ab3:∃t,fT=vs++t
 DS:∃t,DR=ls++t
 DN:vs.Nodup->fT.Nodup
 vn:ls.Nodup->DR.Nodup
 DO:(∀x∈vs,name x=true)->∀x∈fT,name x=true
 vo:(∀x∈ls,name x=true)->∀x∈DR,name x=true
 ok:jR fT.length DR.length i
def DT{vs ls:List B}(hp:Ak p)(hl:jQ p=false):PLn vs ls p (aY vs ls p).1 (aY vs ls p).2.1 (aY vs ls p).2.2:=by
 have pre:∀{l l':List B}{w:B}{k:Nat},Nm l w l' k->∃t,l'=l++t:=λh=>ar h.pre λt e _=>⟨t,e⟩;cases p with
 |lab l=>cases hl
 |put x=>have n:=iF vs x;exact⟨pre n,⟨[],by simp[aY]⟩,n.nd,λh=>h,λh=>n.nm h hp,λh=>h,n.lt⟩
 |ret x=>have n:=iF vs x;exact⟨pre n,⟨[],by simp[aY]⟩,n.nd,λh=>h,λh=>n.nm h hp,λh=>h,n.lt⟩
 |get x=>have n:=iF vs x;exact⟨pre n,⟨[],by simp[aY]⟩,n.nd,λh=>h,λh=>n.nm h hp,λh=>h,n.lt⟩
 |num x z=>have n:=iF vs x;exact⟨pre n,⟨[],by simp[aY]⟩,n.nd,λh=>h,λh=>n.nm h hp.1,λh=>h,n.lt,hp.2⟩
 |goto l=>have n:=iF ls l;exact⟨⟨[],by simp[aY]⟩,pre n,λh=>h,n.nd,λh=>h,λh=>n.nm h hp,n.lt⟩
 |cond a l=>
  have n:=iF vs a;have m:=iF ls l;exact⟨pre n,pre m,n.nd,m.nd,λh=>n.nm h hp.1,λh=>m.nm h hp.2,n.lt,m.lt⟩
 |copy d a=>
  have n:=iF vs d;have m:=iF (numbered vs d).1 a;obtain⟨t,e⟩:=pre n;obtain⟨t2,e2⟩:=pre m
  exact⟨⟨t++t2,by show(numbered (numbered vs d).1 a).1=_;rw[e2];conv=>lhs;rw[e]
                  rw[kf]⟩,⟨[],by simp[aY]⟩,λh=>m.nd (n.nd h),λh=>h,λh=>m.nm (n.nm h hp.1) hp.2,λh=>h,eP n.lt m.le.1,m.lt⟩
 |op k d a b=>
  refine bb (ab1 vs d a b) λv1 v2 n m q=>?_;obtain⟨t,e⟩:=pre n;obtain⟨t2,e2⟩:=pre m;obtain⟨t3,e3⟩:=pre q;refine⟨⟨t++t2++t3,?_⟩,⟨[],by simp[aY]⟩,λh=>q.nd (m.nd (n.nd h)),λh=>h,λh=>q.nm (m.nm (n.nm h hp.2.1) hp.2.2.1) hp.2.2.2,λh=>h,hp.1,?_,?_,q.lt⟩
  ·show(pU vs d a b).1=_;rw[e3,e2,e];simp
  ·exact eP n.lt (i8 m.le.1 q.le.1)
  ·exact eP m.lt q.le.1
def tw(a b:Code):aN (a++b)=aN a++aN b:=Jn
def yk{c:Code}{l:Nat}:c.contains (.label l)=true<->l∈aN c:=by
 unfold aN;rw[CT,aui,decide_eq_true_eq];constructor
 ·intro h;exact aq h rfl
 ·rintro⟨x,hx,h⟩;cases x with
  |label m=>simp at h;subst h;exact hx
  |ins i=>simp at h
theorem iG.line{r s:Read}{l:List B}(h:iG r)(e:ZT r l=some s):iG s:=by
 by_cases hl:l=[]
 ·subst hl;cases e;exact h
 ·rw[Aj r hl]at e;cases hp:parse l with
  |none=>rw[hp]at e;cases e
  |some p=>
   have rh:=DQ hp;by_cases fH:jQ p=true
   ·cases p with
    |lab x=>
     rw[hp]at e;simp only[]at e;split at e
     ·cases e
     ·rename_i hc;cases e;have n:=iF r.labels x
      refine⟨h.DN,n.nd h.vn,h.DO,n.nm h.vo rh,λi hi=>?_,λm hm=>?_,?_,h.yj,?_⟩
      ·simp only[pM]at hi;have gX:i∈insOf r.code:=by
        rcases eO.mp hi with q|q
        ·exact q
        ·simp[insOf]at q
       exact(h.ins i gX).mono (aX _) n.le.1
      ·simp only[tw]at hm;rcases eO.mp hm with q|q
       ·exact eP (h.lab m q) n.le.1
       ·simp[aN]at q;subst q;exact n.lt
      ·simp only[tw];rw[lM];refine b8 h.vq (by simp[aN]) λa ha b hb q=>?_;simp[aN]at hb;subst hb;subst q;exact hc (yk.mpr ha)
      ·simp only[pM];have:=h.DP
       simpa[insOf]using this
    |_=>cases fH
   ·have tD:jQ p=false:=by simpa using fH
    have e':(if VARS<(aY r.vars r.labels p).2.1.length\/MOST<=(insOf r.code).length then none else some (⟨r.code++[.ins (aY r.vars r.labels p).1],(aY r.vars r.labels p).2.1,(aY r.vars r.labels p).2.2⟩:Read))=some s:=by rw[hp]at e;cases p<;>first|exact e|cases tD
    split at e'
    ·cases e'
    ·rename_i hc;cases e';have n:=DT (vs:=r.vars) (ls:=r.labels) rh tD
     obtain⟨t,et⟩:=n.ab3;obtain⟨u,eu⟩:=n.DS;have l1:r.vars.length<=(aY r.vars r.labels p).2.1.length:=by rw[et];simp
     have l2:r.labels.length<=(aY r.vars r.labels p).2.2.length:=by rw[eu];simp
     unfold VARS MOST at hc;refine⟨n.DN h.DN,n.vn h.vn,n.DO h.DO,n.vo h.vo,λi hi=>?_,λm hm=>?_,?_,by show(aY r.vars r.labels p).2.1.length<=64;lia,?_⟩
     ·simp only[pM]at hi;rcases eO.mp hi with q|q
      ·exact(h.ins i q).mono l1 l2
      ·simp[insOf]at q;subst q;exact n.ok
     ·simp only[tw]at hm;have lq:m∈aN r.code:=by
       rcases eO.mp hm with q|q
       ·exact q
       ·simp[aN]at q
      exact eP (h.lab m lq) l2
     ·simp only[tw];have:aN [qQ (aY r.vars r.labels p).1]=[]:=rfl
      rw[this,qR];exact h.vq
     ·simp only[pM,cj];have:(insOf [qQ (aY r.vars r.labels p).1]).length=1:=rfl
      lia
def oE(p:Except Nat Read)(x:List B×Nat):Except Nat Read:=match p with
 | .error k=> .error k
 | .ok r=>match line r x.1 with
   |some s=> .ok s
   |none=> .error (x.2+1)
def bad(r:Read)(x:List B×Nat):Bool:=if isLabel x.1=true then false else(match insOfWords r.vars r.labels x.1 with
 |some (i,_,_)=>!(gone r.code i)
 |none=>false)
def oF(ls:List (List B)):Except Nat Read:=match ls.zipIdx.foldl oE (.ok ⟨[],[],[]⟩)with
 | .error k=> .error k
 | .ok r=>match ls.zipIdx.find? (bad r)with
   |some x=> .error (x.2+1)
   |none=> .ok r
def ab4(t:B):read t=oF ((lines t).map words):=rfl
def ab5(p:Except Nat Read)(n:Nat):oE p ([],n)=p:=by
 cases p with
 |error k=>rfl
 |ok r=>rfl
def ab6(ls:List (List B)):oF (ls++[[]])=oF ls:=by
 unfold oF;rw[auj,lN];simp only[List.zipIdx_cons,List.zipIdx_nil,og,ZO,ab5];cases ls.zipIdx.foldl oE (.ok ⟨[],[],[]⟩)with
 |error k=>rfl
 |ok r=>
  simp only[];rw[auk];have:List.find? (bad r) [(([]:List B),0+ls.length)]=none:=by rw[xH];intro x hx;simp at hx;subst hx;simp[bad,isLabel,insOfWords]
  rw[this];simp
def DU(c:UInt8)(t:B):parted c t≠[]:=by
 cases t with
 |nil=>simp[parted]
 |cons x r=>unfold parted;split<;>(try split)<;>simp
def ab7:words []=[]:=by rfl
def ab8(t:B):read t=oF ((parted 10 t).map words):=by
 rw[ab4];unfold lines;simp only[];split
 ·rename_i h;have e:parted 10 t=(parted 10 t).dropLast++[[]]:=by
   generalize parted 10 t=l at h;have bh:l≠[]:=by intro q;rw[q]at h;cases h
   rw[List.getLast?_eq_some_getLast bh]at h;have:=aul bh
   rw[eB h]at this;exact this.symm
  conv=>rhs;rw[e,gA,cM,jH,ab7,ab6]
 ·rfl
def gh(x:List B×Nat):Option (Nat×B):=match parse x.1 with
 |some (.goto l)=>some (x.2+1,l)
 |some (.cond _ l)=>some (x.2+1,l)
 |_=>none
def jc(r:Read)(p:Nat×B):Bool:=!(r.code.contains (.label (numbered r.labels p.2).2))
def ab9(r:Read)(x:List B×Nat):bad r x=((gh x).map (jc r)).getD false:=by
 unfold bad gh;cases hl:isLabel x.1 with
 |true=>
  obtain⟨y,hy⟩:=(DM _).mp hl;simp[hy]
 |false=>
  simp only[kX,if_false];rw[QU _ _ _ hl];cases hp:parse x.1 with
  |none=>rfl
  |some p=>
   cases p with
   |lab y=>have:=(DM _).mpr ⟨y,hp⟩;rw[hl]at this;cases this
   |_=>simp[aY,gone,jc]
theorem QZ(r:Read):∀l:List (List B×Nat),(l.find? (bad r)).map (λx=>x.2+1)=((l.filterMap gh).find? (jc r)).map (·.1)
 |[]=>rfl
 |x::l=>by
  have ih:=QZ r l;rw[qP,Jo,ab9];cases hg:gh x with
  |none=>simp[ih]
  |some p=>
   have hp:p.1=x.2+1:=by unfold gh at hg;split at hg<;>first|(cases hg;rfl)|cases hg
   rw[qP];cases hm:jc r p with
   |true=>simp[hm,hp]
   |false=>simp[hm,ih]
def ab_(ls:List (List B)):oF ls=match ls.zipIdx.foldl oE (.ok ⟨[],[],[]⟩)with
 | .error k=> .error k
 | .ok r=>match(ls.zipIdx.filterMap gh).find? (jc r)with
   |some p=> .error p.1
   |none=> .ok r:=by
 unfold oF;cases ls.zipIdx.foldl oE (.ok ⟨[],[],[]⟩)with
 |error k=>rfl
 |ok r=>
  simp only[];have:=QZ r ls.zipIdx
  cases h1:ls.zipIdx.find? (bad r)with
  |none=>
   cases h2:(ls.zipIdx.filterMap gh).find? (jc r)with
   |none=>rfl
   |some p=>rw[h1,h2]at this;cases this
  |some x=>
   cases h2:(ls.zipIdx.filterMap gh).find? (jc r)with
   |none=>rw[h1,h2]at this;cases this
   |some p=>rw[h1,h2]at this;simp at this;simp[this]
theorem Q0:∀(l:List (List B×Nat))(k:Nat),l.foldl oE (.error k)= .error k
 |[],k=>rfl
 |x::l,k=>by rw[og];exact Q0 l k
end
section
variable{w:B}{t:Nat}{ls:List (List B)}{ws:List B}{r s:Read}{gl:List (Nat×B)}{p:Nat×B}
theorem Al(c:UInt8):∀t:B,((parted c t).map (λl=>l.length+1)).sum=t.length+1
 |[]=>rfl
 |x::r=>by
  have ih:=Al c r;unfold parted;split
  ·simp[ih];lia
  ·cases h:parted c r with
   |nil=>exact absurd h (DU c r)
   |cons l m=>rw[h]at ih;simp at ih⊢;lia
def aca{l:List B}(h:w∈l):w.length+1<=(l.map (λl=>l.length+1)).sum:=by
 induction l with
 |nil=>cases h
 |cons a r ih=>
  rcases cu.mp h with e|h
  ·subst e;simp
  ·have:=ih h;simp at this⊢;lia
def Q1{c:UInt8}{t l:B}(h:l∈parted c t):l.length<=t.length:=by have:=aca h;rw[Al]at this;lia
def Q2{l:B}(h:w∈words l):w≠[]/\w.length<=l.length:=by unfold words at h;obtain⟨h1,h2⟩:=fq.mp h;exact⟨by simpa using h2,Q1 h1⟩
theorem Q3:∀l:List B,2*(l.filter λw=>w !=[]).length<=(l.map (λl=>l.length+1)).sum
 |[]=>by simp
 |a::r=>by
  have ih:=Q3 r;rw[kb];cases a with
  |nil=>simp at ih⊢;lia
  |cons x y=>simp at ih⊢;lia
def acb(l:B):2*(words l).length<=l.length+1:=by have:=Q3 (parted 32 l);rw[Al]at this;exact this
def acd{l:List B}{x:B}(h:parse l=some (.lab x)):l.length=2:=by
 match l,h with
 |[],h=>cases h
 |[_],h=>cases h
 |[_,_],_=>rfl
 |[x,e,y],h=>
  simp only[parse]at h;split at h
  ·cases h
  ·split at h
   ·cases h
   ·split at h
    ·cases h
    ·cases hi:intOf y with
     |none=>rw[hi]at h;cases h
     |some z=>rw[hi]at h;cases h
 |[i,x,g,y],h=>
  simp only[parse]at h;split at h<;>cases h
 |[x,e,y,o,z],h=>
  simp only[parse]at h;split at h
  ·cases h
  ·split at h
   ·cases h
   ·split at h
    ·cases h
    ·split at h<;>cases h
 |_::_::_::_::_::_::_,h=>cases h
def Am:Ins->Option Nat
 | .goto l=>some l
 | .cond _ l=>some l
 |_=>none
structure RP (ls:List (List B)) (t:Nat) (r:Read) (gl:List (Nat×B)):Prop where
 f:(ls.zipIdx.take t).foldl oE (.ok ⟨[],[],[]⟩)= .ok r
 ok:iG r
 g:(ls.zipIdx.take t).filterMap gh=gl
 jl:∀i∈insOf r.code,∀l,Am i=some l->∃p∈gl,r.labels[l]?=some p.2
 nm:∀p∈gl,name p.2=true
theorem RP.start(ls:List (List B)):RP ls 0 ⟨[],[],[]⟩ []:=⟨rfl,iG.start,rfl,by simp[insOf],by simp⟩
def An(h:ls[t]?=some ws):ls.zipIdx.take (t+1)=ls.zipIdx.take t++[(ws,t)]:=by
 have:ls.zipIdx[t]?=some (ws,t):=by rw[atV,h];simp
 rw[OS,this];rfl
def RP.skip(h:RP ls t r gl)(e:ls[t]?=some []):RP ls (t+1) r gl:=by
 refine⟨?_,h.ok,?_,h.jl,h.nm⟩
 ·rw[An e,lN,h.f];rfl
 ·rw[An e,Jn,h.g];simp[gh,parse]
def RP.bad(h:RP ls t r gl)(e:ls[t]?=some ws)(hl:line r ws=none):oF ls= .error (t+1):=by
 have:ls.zipIdx.foldl oE (.ok ⟨[],[],[]⟩)= .error (t+1):=by
  rw[<-Jr (t+1) ls.zipIdx,lN,An e,lN,h.f];have:OZ oE (.ok r) [(ws,t)]= .error (t+1):=by simp[oE,hl]
  rw[this,Q0]
 unfold oF;rw[this]
def ace(h:gh (ws,t)=some p):name p.2=true/\p.1=t+1:=by
 unfold gh at h;cases hp:parse ws with
 |none=>rw[hp]at h;cases h
 |some q=>
  have ok:=DQ hp;rw[hp]at h;cases q<;>first|(cases h;exact⟨ok,rfl⟩)|(cases h;exact⟨ok.2,rfl⟩)|cases h
def RP.step{p:PL}(h:RP ls t r gl)(e:ls[t]?=some ws)(hw:ws≠[])(hp:parse ws=some p)(hl:line r ws=some s):RP ls (t+1) s (gl++(gh (ws,t)).toList):=by
 refine⟨?_,h.ok.line hl,?_,?_,?_⟩
 ·rw[An e,lN,h.f];simp[oE,hl]
 ·rw[An e,Jn,h.g];cases q:gh (ws,t)<;>simp[q]
 ·have keep:∀(i:Ins)(l:Nat),(∃q∈gl,r.labels[l]?=some q.2)->(∃u,s.labels=r.labels++u)->∃q∈gl++(gh (ws,t)).toList,s.labels[l]?=some q.2:=λi l ⟨q,hq,a⟩ ⟨u,eu⟩=>
   ⟨q,hZ _ hq,by rw[eu,qS (d0.mp a).1,a]⟩
  have e1:=hl;rw[Aj r hw,hp]at e1;by_cases fH:jQ p=true
  ·cases p with
   |lab x=>
    simp only[]at e1;split at e1
    ·cases e1
    ·cases e1;intro i hi l hj;have gX:i∈insOf r.code:=by
      simp only[pM]at hi;rcases eO.mp hi with q|q
      ·exact q
      ·simp[insOf]at q
     refine ar ((iF r.labels x).pre) λu eu _=>?_;exact keep i l (h.jl i gX l hj) ⟨u,eu⟩
   |_=>cases fH
  ·have tD:jQ p=false:=by simpa using fH
   have e':(if VARS<(aY r.vars r.labels p).2.1.length\/MOST<=(insOf r.code).length then none else some (⟨r.code++[.ins (aY r.vars r.labels p).1],(aY r.vars r.labels p).2.1,(aY r.vars r.labels p).2.2⟩:Read))=some s:=by cases p<;>first|exact e1|cases tD
   split at e'
   ·cases e'
   ·cases e';intro i hi l hj;have pn:=DT (vs:=r.vars) (ls:=r.labels) (DQ hp) tD
    simp only[pM]at hi;rcases eO.mp hi with q|q
    ·exact keep i l (h.jl i q l hj) pn.DS
    ·have q':i=(aY r.vars r.labels p).1:=by simpa[insOf]using q
     subst q';have go:∀x,gh (ws,t)=some (t+1,x)->(aY r.vars r.labels p).2.2[l]?=some x->∃q∈gl++(gh (ws,t)).toList,(aY r.vars r.labels p).2.2[l]?=some q.2:=λx g a=>aF (t+1,x) (by rw[g];simp) a
     cases p with
     |goto x=>simp[aY,Am]at hj;subst hj;exact go x (by simp[gh,hp]) (iF r.labels x).at_
     |cond a x=>simp[aY,Am]at hj;subst hj;exact go x (by simp[gh,hp]) (iF r.labels x).at_
     |lab x=>cases tD
     |_=>simp[aY,Am]at hj
 ·intro q hq;rcases eO.mp hq with a|a
  ·exact h.nm q a
  ·exact(ace (by simpa using a)).1
def RP.done(h:RP ls ls.length r gl):oF ls=match gl.find? (jc r)with
  |some p=> .error p.1
  |none=> .ok r:=by
 have e:ls.zipIdx.take ls.length=ls.zipIdx:=eX (by simp);have f:=h.f;have g:=h.g;rw[e]at f g;rw[ab_,f,g]<;>(show(match gl.find? (jc r)with|some p=>(Except.error p.1:Except Nat Read)|none=> .ok r)=_;cases gl.find? (jc r)<;>rfl)
def acf:jc r p=!decide ((numbered r.labels p.2).2∈aN r.code):=by unfold jc;congr 1;rw[fu,decide_eq_true_iff];exact yk
theorem RP.gone{ls:List (List B)}{t:Nat}{r:Read}{gl:List (Nat×B)}(h:RP ls t r gl)(hm:∀p∈gl,jc r p=false):∀i∈insOf r.code,gone r.code i=true:=by
 intro i hi;have key:∀l,Am i=some l->r.code.contains (.label l)=true:=λl hj=>by
  refine ar (h.jl i hi l hj) λp hp a=>?_;have:=hm p hp
  unfold jc at this;rw[abZ h.ok.vn a]at this;simpa using this
 cases i with
 |goto l=>exact key l rfl
 |cond a l=>exact key l rfl
 |_=>rfl
def acg{p:PL}(hw:ws≠[])(hp:parse ws=some p)(hl:line r ws=some s):(aN s.code).length<=(aN r.code).length+(if jQ p=true then 1 else 0):=by
 rw[Aj r hw,hp]at hl;by_cases fH:jQ p=true
 ·cases p with
  |lab x=>
   simp only[]at hl;split at hl
   ·cases hl
   ·cases hl;simp[tw,aN,jQ]
  |_=>cases fH
 ·have tD:jQ p=false:=by simpa using fH
  have e':(if VARS<(aY r.vars r.labels p).2.1.length\/MOST<=(insOf r.code).length then none else some (⟨r.code++[.ins (aY r.vars r.labels p).1],(aY r.vars r.labels p).2.1,(aY r.vars r.labels p).2.2⟩:Read))=some s:=by cases p<;>first|exact hl|cases tD
  split at e'
  ·cases e'
  ·cases e';simp[tw,aN]
end
section
variable{L S v:Nat}{i:Ins}{c:Code}{Ls vs:List Nat}{w:Work}
def ju(r:Read):Work:=⟨r.code,r.vars.length,r.vars.length,0⟩
def Kv{V:Nat}(h:jR V L i):∀v∈fF i,v<V:=by
 intro v hv;cases i with
 |op k d a b=>
  simp[jR]at h;simp[fF,usesOf,givesOf]at hv;rcases hv with hv|rfl
  ·split at hv<;>simp at hv
   ·lia
   ·lia
  ·omega
 |fetch d s=>exact h.elim
 |keep s a=>exact h.elim
 |goto l=>simp[fF,usesOf,givesOf]at hv
 |_=>simp[jR]at h;simp[fF,usesOf,givesOf]at hv;omega
def Q4{V:Nat}(h:jR V L i):vk i=true:=by cases i<;>first|rfl|exact h.elim
theorem Kw{V L:Nat}:∀{c:Code},(∀i∈insOf c,jR V L i)->WF V [] c
 |[],_=>rfl
 | .label l::r,h=>⟨rfl,Kw h⟩
 | .ins i::r,h=>by
   have hi:=h i (by simp[jt]);have hv:=Kv hi;refine⟨?_,?_⟩
   ·rw[Kg (Q4 hi)];intro x;constructor
    ·intro q;simp at q
    ·rintro⟨q,q2⟩;have:=hv x (hZ _ q);lia
   ·rw[Kh (Q4 hi)];have:fB V i=[]:=by
     unfold fB;rw[CS];intro d hd;have:=hv d (iz _ hd)
     simp;lia
    rw[this];exact Kw λx hx=>h x (by rw[jt];exact dn _ hx)
def hg0{V:Nat}{I:List Ins}(h:∀i∈I,jR V L i):hg V I=[]:=by
 unfold hg;rw[List.flatMap_eq_nil_iff];intro i hi;unfold fB;rw[CS];intro d hd;have:=Kv (h i hi) d (iz _ hd)
 simp;lia
def gD.start{r:Read}(h:iG r):gD (ju r)where
 q0:=aX _
 wf:=Kw h.ins
 nd:=by show(hg r.vars.length (insOf r.code)).Nodup;rw[hg0 h.ins];simp
 lt:=λx hx v hv=>Kv (h.ins x hx) v hv
 vb:=by have:=Kj r.vars.length (insOf r.code);have h1:=h.yj;have h2:=h.DP;show r.vars.length+h9 r.vars.length (insOf r.code)<=832;lia
 sb:=by have:=Kj r.vars.length (insOf r.code);have h2:=h.DP;show(insOf r.code).length+h9 r.vars.length (insOf r.code)<=1024;lia
 sl:=by have:=Kk r.vars.length (insOf r.code);have h1:=h.yj;show 0+mu r.vars.length (insOf r.code)<=64;lia
def aci(r:Read)(k:Nat):allocated r k=coloured k 65 (ju r):=rfl
def e8(V S:Nat)(Ls:List Nat):Ins->Prop
 | .num d z=>d<V/\(-(2^63)<=z/\z<2^63)
 | .copy d a=>d<V/\a<V
 | .op k d a b=>k<12/\d<V/\a<V/\b<V
 | .get d=>d<V
 | .put a=>a<V
 | .goto l=>l∈Ls
 | .cond a l=>a<V/\l∈Ls
 | .ret a=>a<V
 | .fetch d s=>d<V/\s<S
 | .keep s a=>s<S/\a<V
def e8.of_ok{V:Nat}(h:jR V L i)(hg:gone c i=true):e8 V 0 (aN c) i:=by
 cases i with
 |goto l=>exact yk.mp hg
 |cond a l=>exact⟨h.1,yk.mp hg⟩
 |fetch d s=>exact h.elim
 |keep s a=>exact h.elim
 |_=>exact h
def e8.mono{V V' S':Nat}(h:e8 V S Ls i)(hV:V<=V')(hS:S<=S'):e8 V' S' Ls i:=by cases i<;>simp[e8]at h⊢<;>first|omega|exact⟨by lia,h.2⟩|exact h
theorem e8.changed{V S V':Nat}{Ls:List Nat}{i:Ins}{u:Nat->Nat}{d':Nat}(h:e8 V S Ls i)(hu:∀a∈usesOf i,u a<V')(hd:∀d,givesOf i=some d->d'<V'):e8 V' S Ls (changed u d' i):=by
 cases i with
 |op k d a b=>
  refine(pH h.1 (hd d rfl) (hu a ?_) (hu b ?_))<;>(simp only[usesOf];split<;>simp_all)
 |num d z=>exact⟨hd d rfl,h.2⟩
 |copy d a=>exact⟨hd d rfl,hu a (by simp[usesOf])⟩
 |get d=>exact hd d rfl
 |put a=>exact hu a (by simp[usesOf])
 |goto l=>exact h
 |cond a l=>exact⟨hu a (by simp[usesOf]),h.2⟩
 |ret a=>exact hu a (by simp[usesOf])
 |fetch d s=>exact⟨hd d rfl,h.2⟩
 |keep s a=>exact⟨h.1,hu a (by simp[usesOf])⟩
def e8.vars{V:Nat}(h:e8 V S Ls i):∀v∈fF i,v<V:=by
 intro v hv;cases i with
 |op k d a b=>
  simp[e8]at h;simp[fF,usesOf,givesOf]at hv;rcases hv with hv|rfl
  ·split at hv<;>simp at hv<;>omega
  ·omega
 |goto l=>simp[fF,usesOf,givesOf]at hv
 |cond a l=>simp[e8]at h;simp[fF,usesOf,givesOf]at hv;lia
 |_=>simp[e8]at h;simp[fF,usesOf,givesOf]at hv;omega
def Q5{from_:Nat}(h:v∈vs):fG vs from_ v<from_+vs.length:=by refine ar (J9 h) λk e hk=>?_;unfold fG;rw[e];simp;lia
def acj{V n:Nat}(h:e8 V S Ls i)(hn:V<=n):∀x∈gc vs S i n,e8 (cH vs i n) (S+vs.length) Ls x:=by
 intro x hx;unfold gc at hx;simp only[eO,kW,cu]at hx;rcases hx with⟨a,ha,rfl⟩|rfl|hx
 ·refine bc (lX (n:=n) ha) λq e _ hq=>?_;refine⟨by unfold cH;lia,Q5 (by simpa using(fq.mp ha).2)⟩
 ·refine(h.changed (V':=cH vs i n) (λa ha=>?_) λd hd=>?_).mono (aX _) (by lia)
  ·by_cases hm:a∈(usesOf i).filter vs.contains
   ·refine bc (lX (n:=n) hm) λq e _ hq=>?_;unfold cH;omega
   ·rw[oz hm];have:=h.vars a (hZ _ ha)
    unfold cH;lia
  ·cases ho:dI vs i with
   |true=>unfold cH;rw[ho];simp
   |false=>
    have:=h.vars d (iz _ (by simp[hd]));simp only[kX,if_false,hd,ZF];unfold cH;omega
 ·split at hx
  ·rename_i ho;rw[sy]at hx;subst hx;refine ar (Dz.mp ho) λd hd oA=>?_;refine⟨by rw[hd];exact Q5 oA,?_⟩;unfold cH;rw[ho];simp
  ·simp at hx
theorem Q6(vs:List Nat):∀(I:List Ins)(n:Nat),n<=eR vs I n
 |[],n=>aX _
 |i::I,n=>by rw[eR];have:=Q6 vs I (cH vs i n);have:n<=cH vs i n:=by unfold cH;lia
             lia
theorem Q7{V S:Nat}{Ls vs:List Nat}:∀{I:List Ins}{n:Nat},(∀i∈I,e8 V S Ls i)->V<=n->∀x∈dJ vs S I n,e8 (eR vs I n) (S+vs.length) Ls x
 |[],n,_,_,x,hx=>by simp[dJ]at hx
 |i::r,n,h,hn,x,hx=>by
  rw[dJ,eO]at hx;rw[eR];have Ki:n<=cH vs i n:=by unfold cH;lia
  rcases hx with hx|hx
  ·exact(acj (h i (by simp)) hn x hx).mono (Q6 _ _ _) (aX _)
  ·exact Q7 (λy hy=>h y (dn _ hy)) (by lia) x hx
structure DV (w:Work):Prop where
 fit:∀i∈insOf w.code,e8 w.vars w.slots (aN w.code) i
 vq:(aN w.code).Nodup
def DV.next(h:DV w)(k:Nat):DV (nextOf w k):=by
 obtain⟨e1,e2⟩:=vg (dv w k) w.slots w.code w.vars;refine⟨λi hi=>?_,?_⟩
 ·have gX:i∈insOf (spilled (dv w k) w.slots w.code w.vars).1:=hi;rw[e1]at gX;show e8 (spilled (dv w k) w.slots w.code w.vars).2 (w.slots+(dv w k).length) (aN (spilled (dv w k) w.slots w.code w.vars).1) i;rw[e2,vh];exact Q7 h.fit (aX _) i gX
 ·show(aN (spilled (dv w k) w.slots w.code w.vars).1).Nodup;rw[vh];exact h.vq
def chg(w:Work)(k:Nat)(i:Ins):Ins:=changed (oB w k) (oB w k ((givesOf i).getD 0)) i
def acm(w:Work)(k:Nat):insOf (tj w k)=(insOf w.code).map (chg w k):=by
 unfold tj;generalize w.code=c;induction c with
 |nil=>rfl
 |cons x r ih=>
  cases x with
  |label l=>rw[cM,pL,pL,ih]
  |ins i=>rw[cM,jt,jt,ih,cM];rfl
def Q8(w:Work)(k:Nat):aN (tj w k)=aN w.code:=by unfold tj aN;rw[List.filterMap_map];congr 1;funext x;cases x<;>rfl
def acn(w:Work)(k l:Nat):target (tj w k) l=target w.code l:=by
 unfold tj;generalize w.code=c;induction c with
 |nil=>rfl
 |cons x r ih=>
  cases x with
  |label m=>rw[cM,mV,mV,ih]
  |ins i=>rw[cM,pO,pO,ih]
def aco{g:List (Nat×Nat)}{k r:Nat}{order:List Nat}(h:iT (given g k order) v=some r):r<k:=by
 unfold iT at h;cases hf:(given g k order).find? λx=>x.1==v with
 |none=>rw[hf]at h;cases h
 |some x=>
  rw[hf]at h;have hx:=OM hf
  have hx2:x.2=some r:=h;have key:∀(o:List Nat)(l:List (Nat×Option Nat)),(∀y∈l,∀q,y.2=some q->q<k)->∀y∈o.foldl (jN g k) l,∀q,y.2=some q->q<k:=by
   intro o;induction o with
   |nil=>intro l h;exact h
   |cons u o ih=>
    intro l hl;rw[og];refine ih _ λy hy q hq=>?_;unfold jN at hy;rcases eO.mp hy with hy|hy
    ·exact hl y hy q hq
    ·rw[sy]at hy;subst hy;have:=OM hq
     simpa using this
  exact key order.reverse [] (by simp) x (by rw[<-Du];exact hx) r hx2
def acq{k:Nat}(hk:0<k):oB w k v<k:=by
 unfold oB;cases h:iT (assigned w k) v with
 |none=>exact hk
 |some r=>exact aco (by rw[Af]at h;exact h)
def lZ:Code->Nat->List (Nat×Nat)
 |[],_=>[]
 | .label l::r,n=>(l,n)::lZ r n
 | .ins _::r,n=>lZ r (n+1)
theorem Kx:∀(c:Code)(n:Nat),(aN c).Nodup->lZ c n=(aN c).map λl=>(l,n+target c l)
 |[],_,_=>rfl
 | .label m::r,n,h=>by
   have h':(m::aN r).Nodup:=h;rw[qN]at h';show(m,n)::lZ r n=(m,n+target (.label m::r) m)::(aN r).map λl=>(l,n+target (.label m::r) l);rw[mV,if_pos rfl,Kx r n h'.2];congr 1;apply ke;intro l hl;rw[mV,if_neg (λe:m=l=>h'.1 (e▸hl))]
 | .ins i::r,n,h=>by
   show lZ r (n+1)=(aN r).map λl=>(l,n+target (.ins i::r) l);rw[Kx r (n+1) h];apply ke;intro l _;rw[pO,Jh,ZU 1]
theorem Ky:∀(c:Code)(n:Nat),∀x∈lZ c n,n<=x.2/\x.2<=n+(insOf c).length
 |[],_,x,h=>by simp[lZ]at h
 | .label l::r,n,x,h=>by
   rcases cu.mp h with rfl|h
   ·exact⟨aX _,by rw[pL];exact xO _ _⟩
   ·exact Ky r n x h
 | .ins i::r,n,x,h=>by
   have:=Ky r (n+1) x h;rw[jt,cG];lia
def at_(f:Item->B)(lp:List (Nat×Nat))(p:Nat):B:=(lp.filter λx=>decide (x.2=p)).flatMap λx=>f (.label x.1)
def wr(f:Item->B)(lp:List (Nat×Nat)):List Ins->Nat->B
 |[],p=>at_ f lp p
 |i::I,p=>at_ f lp p++(f (.ins i)++wr f lp I (p+1))
theorem Q9(f:Item->B)(l n:Nat)(lp:List (Nat×Nat)):∀(I:List Ins)(p:Nat),n<p->wr f ((l,n)::lp) I p=wr f lp I p
 |[],p,h=>by
  unfold wr at_;rw[kb,if_neg (by simp;lia)]
 |i::I,p,h=>by
  unfold wr;rw[Q9 f l n lp I (p+1) (by lia)];unfold at_;rw[kb,if_neg (by simp;omega)]
theorem Kz(f:Item->B):∀(c:Code)(n:Nat),wr f (lZ c n) (insOf c) n=c.flatMap f
 |[],n=>rfl
 | .label l::r,n=>by
   rw[pL,xP,<-Kz f r n];show wr f ((l,n)::lZ r n) (insOf r) n=_;have e:at_ f ((l,n)::lZ r n) n=f (.label l)++at_ f (lZ r n) n:=by unfold at_;rw[kb,if_pos (by simp),xP]
   cases hI:insOf r with
   |nil=>unfold wr;exact e
   |cons i I=>
    unfold wr;rw[e,Q9 f l n _ I (n+1) (by lia),kf]
 | .ins i::r,n=>by
   rw[jt,xP,<-Kz f r (n+1)];show wr f (lZ r (n+1)) (i::insOf r) n=_;unfold wr;have e:at_ f (lZ r (n+1)) n=[]:=by
    unfold at_;rw[CS.mpr]
    ·rfl
    ·intro x hx;have:=Ky r (n+1) x hx
     simp;lia
   rw[e,sC];cases hI:insOf r with
   |nil=>rfl
   |cons j J=>rfl
def acr(f:Item->B)(h:(aN c).Nodup):wr f ((aN c).map λl=>(l,target c l)) (insOf c) 0=c.flatMap f:=by rw[<-Kz f c 0,Kx c 0 h];simp
end
section
variable{p:Int}{r t:List Int}{xs:List (List Int)}
def acs{f:Nat}{cs:List (List (List Int))}(h:xQ kZ f (p::r)=some cs):
  ∃f' c t rj,f=f'+1/\Js kZ (p::r)=some (c,t)/\xQ kZ f' t=some rj/\cs=c::rj:=by
 cases f with
 |zero=>simp[xQ]at h
 |succ f=>
  rw[xQ]at h;cases hc:Js kZ (p::r)with
  |none=>rw[hc]at h;cases h
  |some x=>
   obtain⟨c,t⟩:=x;rw[hc]at h;simp only[]at h;cases hd:xQ kZ f t with
   |none=>rw[hd]at h;cases h
   |some rj=>rw[hd]at h;simp at h;exact⟨f,c,t,rj,rfl,rfl,hd,h.symm⟩
def acu{x s:List Int}(h:aum r=some (x,s)):∃n r',r=n::r'/\0<=n/\n.toNat<=r'.length/\x=r'.take n.toNat/\s=r'.drop n.toNat:=by
 cases r with
 |nil=>cases h
 |cons n r'=>
  have h':(if 0<=n/\n.toNat<=r'.length then some (r'.take n.toNat,r'.drop n.toNat)else none)=some (x,s):=h;by_cases hc:0<=n/\n.toNat<=r'.length
  ·rw[if_pos hc]at h';simp only[OL,aun]at h';exact gU n r' rfl hc.1 hc.2 h'.1.symm h'.2.symm
  ·rw[if_neg hc]at h';cases h'
def KA(h:zH 0 r=some (xs,t)):xs=[]/\t=r:=by cases h;exact⟨rfl,rfl⟩
def Q_(h:zH 1 r=some (xs,t)):∃n r',r=n::r'/\0<=n/\n.toNat<=r'.length/\xs=[r'.take n.toNat]/\t=r'.drop n.toNat:=by
 rw[zH]at h;cases hr:aum r with
 |none=>rw[hr]at h;cases h
 |some x=>
  obtain⟨a,s⟩:=x;rw[hr]at h;simp only[zH]at h;cases h;refine iE (acu hr) λn r' e h1 h2 h3 h4=>?_;exact⟨n,r',e,h1,h2,by rw[h3],h4⟩
def acv{c:List (List Int)}(h:Js kZ (p::r)=some (c,t)):
  (p=0/\c=[[0]]/\t=r)\/(p=1/\∃n r',r=n::r'/\0<=n/\n.toNat<=r'.length/\c=[[1],r'.take n.toNat]/\t=r'.drop n.toNat)\/
  (p=2/\∃a r',r=a::r'/\c=[[2,a]]/\t=r')\/(p=3/\∃a b r',r=a::b::r'/\c=[[3,a,b]]/\t=r')\/
  (p=4/\∃a b d n r',r=a::b::d::n::r'/\0<=n/\n.toNat<=r'.length/\c=[[4,a,b,d],r'.take n.toNat]/\t=r'.drop n.toNat):=by
 unfold Js at h;simp only[]at h;have go:∀{n k:Nat},(if r.length<n then none else match zH k (r.drop n)with
   |none=>none
   |some (xs,t)=>some ((p::r.take n)::xs,t))=some (c,t)->n<=r.length/\∃xs,zH k (r.drop n)=some (xs,t)/\c=(p::r.take n)::xs:=λ{n k} h=>by
  split at h
  ·cases h
  ·rename_i hl;cases hr:zH k (r.drop n)with
   |none=>rw[hr]at h;cases h
   |some x=>obtain⟨xs,t'⟩:=x;rw[hr]at h;simp only[OL,aun]at h;obtain⟨h1,h2⟩:=h;subst h2;exact cg (by lia) xs rfl h1.symm
 by_cases h0:p=0
 ·subst h0;have e:kZ 0=some (0,0):=rfl
  rw[e]at h;refine iD (go (n:=0) (k:=0) h) λ_ xs hr hc=>?_;obtain⟨rfl,rfl⟩:=KA hr;exact .inl ⟨rfl,by simpa using hc,by simp⟩
 by_cases h1:p=1
 ·subst h1;have e:kZ 1=some (0,1):=rfl
  rw[e]at h;refine iD (go (n:=0) (k:=1) h) λ_ xs hr hc=>?_;refine iE (Q_ hr) λn r' e1 a b e2 e3=>?_;subst e2;exact .inr (.inl ⟨rfl,n,r',by simpa using e1,a,b,by simpa using hc,e3⟩)
 by_cases h2:p=2
 ·subst h2;have e:kZ 2=some (1,0):=rfl
  rw[e]at h;refine iD (go (n:=1) (k:=0) h) λhl xs hr hc=>?_;obtain⟨rfl,rfl⟩:=KA hr
  match r,hl with
  |a::r',_=>exact .inr (.inr (.inl ⟨rfl,a,r',rfl,by simpa using hc,by simp⟩))
 by_cases h3:p=3
 ·subst h3;have e:kZ 3=some (2,0):=rfl
  rw[e]at h;refine iD (go (n:=2) (k:=0) h) λhl xs hr hc=>?_;obtain⟨rfl,rfl⟩:=KA hr
  match r,hl with
  |a::b::r',_=>exact .inr (.inr (.inr (.inl ⟨rfl,a,b,r',rfl,by simpa using hc,by simp⟩)))
  |[a],hl=>simp at hl
 by_cases h4:p=4
 ·subst h4;have e:kZ 4=some (3,1):=rfl
  rw[e]at h;refine iD (go (n:=3) (k:=1) h) λhl xs hr hc=>?_;refine iE (Q_ hr) λn r' e1 a b e2 e3=>?_;subst e2
  match r,hl with
  |x::y::z::r2,_=>exact .inr (.inr (.inr (.inr ⟨rfl,x,y,z,n,r',by simpa using e1,a,b,by simpa using hc,e3⟩)))
  |[x,y],hl=>simp at hl
  |[x],hl=>simp at hl
 ·have e:kZ p=none:=by simp[kZ,h0,h1,h2,h3,h4]
  rw[e]at h;cases h
theorem Ra(c:Code)(room:Nat):∀(k n:Nat)(m:St),m.out.length<=room->(runs c room k n m).out.length<=room
 |0,n,m,h=>by unfold runs;split<;>exact h
 |k+1,n,m,h=>by
  unfold runs;split
  ·exact h
  ·cases hs:step c m with
   |inr z=>exact h
   |inl t=>
    simp only[];split
    ·exact h
    ·exact Ra c room k (n+1) t (by lia)
def cost(c:List (List Int)):Nat:=6+O0 c
end
section
variable{m v b p:Nat}{x:Ins}{js:List Nat}
def fU(ms js:List Nat):Nat:=js.foldl (λb j=>b|||ms.getD j 0) 0
theorem Rb(ms:List Nat)(v:Nat):∀(js:List Nat)(b:Nat),(js.foldl (λb j=>b|||ms.getD j 0) b).testBit v=(b.testBit v||js.any λj=>(ms.getD j 0).testBit v)
 |[],b=>by simp
 |j::r,b=>by rw[og,Rb ms v r,xK,zI,auo]
def vt(ms js:List Nat)(v:Nat):(fU ms js).testBit v=true<->∃j∈js,(ms.getD j 0).testBit v=true:=by unfold fU;rw[Rb];simp
def acw(ms:List Nat)(js:List Nat)(j:Nat):fU ms (js++[j])=fU ms js|||ms.getD j 0:=by unfold fU;rw[lN];rfl
def tE(us:List Nat)(b:Nat):Nat:=us.foldl (λb v=>b|||2^v) b
def acx(us:List Nat)(v b:Nat):tE (us++[v]) b=tE us b|||2^v:=by unfold tE;rw[lN];rfl
theorem Rc(v:Nat):∀(us:List Nat)(b:Nat),(tE us b).testBit v=(b.testBit v||decide (v∈us))
 |[],b=>by simp[tE]
 |u::r,b=>by
  show(tE r (b|||2^u)).testBit v=_;rw[Rc v r,x9,auo];congr 1;rw[fu];simp
def DW(b:Nat):Option Nat->Nat
 |some d=>cw b d
 |none=>b
def jS(us:List Nat)(g:Option Nat)(b:Nat):Nat:=tE us (DW b g)
def DX(us:List Nat)(g:Option Nat)(b v:Nat):(jS us g b).testBit v=true<->(v∈us\/(g≠some v/\b.testBit v=true)):=by
 unfold jS;rw[Rc];cases g with
 |none=>simp[DW];exact Or.comm
 |some d=>
  simp only[DW,va];by_cases h:v=d
  ·subst h;simp
  ·have:¬d=v:=λe=>h e.symm;simp[h,this];exact Or.comm
structure Wl (c:Code) (us:Nat->List Nat) (nx:Nat->List Nat) (n V:Nat) (live pend:List Nat) (dw:List Bool) (rest:List Nat):Prop where
 ll:live.length=n+1
 lp:dw.length=n
 snd:∀(i m:Nat),live[i]?=some m->∀v,m.testBit v=true->Live c v i
 fix:∀(i:Nat)(x:Ins),(insOf c)[i]?=some x->dw[i]?=some true\/i∈rest\/live.getD i 0=jS (us i) (givesOf x) (fU live (nx i))
 pre:∀(i:Nat)(x:Ins),(insOf c)[i]?=some x->∀v,(live.getD i 0).testBit v=true->(jS (us i) (givesOf x) (fU live (nx i))).testBit v=true
 nd:pend.Nodup
 pl:∀p∈pend,p<n
 pp:∀(p:Nat),p<n->dw[p]?=some (decide (p∈pend))
 lt:∀(i m:Nat),live[i]?=some m->m<2^V
variable{c:Code}{us nx:Nat->List Nat}{n V:Nat}{live pend:List Nat}{dw:List Bool}{rest:List Nat}
structure Wc (c:Code) (us nx:Nat->List Nat) (n V:Nat):Prop where
 DY:n=(insOf c).length
 Rf:∀(i:Nat)(x:Ins),(insOf c)[i]?=some x->∀v,v∈us i<->v∈usesOf x
 Rh:∀i j,j∈nx i<->j∈nexts c i
 acy:∀(i:Nat)(x:Ins),(insOf c)[i]?=some x->∀v∈us i,v<V
def Wl.start(C:Wc c us nx n V):Wl c us nx n V (cW (n+1) 0) (bD n) (cW n true) []where
 ll:=by simp
 lp:=by simp
 snd:=λi m h v hv=>by
  rw[qO]at h;split at h
  ·cases h;simp at hv
  ·cases h
 fix:=λi x hx=>by
  left;have hi:i<n:=by rw[C.DY];exact(d0.mp hx).1
  rw[qO,if_pos hi]
 pre:=λi x hx v hv=>by rw[ef,qO]at hv;split at hv<;>simp at hv
 nd:=xG
 pl:=λp hp=>by simpa using hp
 pp:=λp hp=>by rw[qO,if_pos hp];simp[hp]
 lt:=λi m h=>by
  rw[qO]at h;split at h
  ·cases h;exact n8 V
  ·cases h
def jT{l:List Nat}{i:Nat}(h:l[i]?=some m):l.getD i 0=m:=by rw[ef,h];rfl
def Wl.popped(w:Wl c us nx n V live (pend++[p]) dw []):Wl c us nx n V live pend (dw.set p false) [p]/\p<n:=by
 have hpn:p<n:=w.pl p (by simp);have KC:p∉pend:=by have:=lM.mp w.nd;intro h;exact this.2.2 p h p (by simp) rfl
 refine⟨⟨w.ll,by rw[mM];exact w.lp,w.snd,λi x hx=>?_,w.pre,(lM.mp w.nd).1,λq hq=>w.pl q (hZ _ hq),λq hq=>?_,w.lt⟩,hpn⟩
 ·by_cases e:i=p
  ·right;left;simp[e]
  ·rcases w.fix i x hx with h|h|h
   ·left;rw[hX (λq=>e q.symm)];exact h
   ·simp at h
   ·exact .inr (.inr h)
 ·by_cases e:q=p
  ·subst e;rw[i7 (by rw[w.lp];exact hq)];simp[KC]
  ·rw[hX (λz=>e z.symm),w.pp q hq];simp[e]
def Wl.same(w:Wl c us nx n V live pend dw [p])(hx:(insOf c)[p]?=some x)(h:live.getD p 0=jS (us p) (givesOf x) (fU live (nx p))):Wl c us nx n V live pend dw []:=
 ⟨w.ll,w.lp,w.snd,λi y hy=>by
  rcases w.fix i y hy with q|q|q
  ·exact .inl q
  ·simp at q;subst q;rw[hx]at hy;cases hy;exact .inr (.inr h)
  ·exact .inr (.inr q),w.pre,w.nd,w.pl,w.pp,w.lt⟩
def Ri{l l':List Nat}(h:∀j v,(l.getD j 0).testBit v=true->(l'.getD j 0).testBit v=true)(hv:(fU l js).testBit v=true):(fU l' js).testBit v=true:=by rw[vt]at hv⊢;refine ar hv λj hj hb=>?_;exact aF j hj (h j v hb)
def Rj{u:List Nat}{g:Option Nat}{b':Nat}(h:∀v,b.testBit v=true->b'.testBit v=true)(hv:(jS u g b).testBit v=true):(jS u g b').testBit v=true:=by rw[DX]at hv⊢;exact hv.imp id λl4=>eA l4 λa b=>⟨a,h v b⟩
def acA{l:List Nat}(h:p∉js):fU (l.set p m) js=fU l js:=by
 apply qK;intro v;rw[fu,vt,vt];constructor
 ·rintro⟨j,hj,hb⟩;have:j≠p:=λe=>h (e▸hj)
  rw[ef,hX (λz=>this z.symm),<-ef]at hb;exact aF j hj hb
 ·rintro⟨j,hj,hb⟩;have:j≠p:=λe=>h (e▸hj)
  refine aF j hj ?_;rw[ef,hX (λz=>this z.symm),<-ef];exact hb
def acB{a:Nat}(h:∀v,a.testBit v=true->b.testBit v=true)(bh:a≠b):a<b:=by
 have e:a|||b=b:=by
  apply qK;intro v;rw[xK];cases ha:a.testBit v with
  |false=>simp
  |true=>simp[h v ha]
 have:a<=b:=by rw[<-e];exact Nat.left_le_or
 lia
def Wl.grown(C:Wc c us nx n V)(w:Wl c us nx n V live pend dw [p]){bk:List Nat}(hx:(insOf c)[p]?=some x)(hb:∀i,i<n->(p∈nx i<->i∈bk))(bh:¬jS (us p) (givesOf x) (fU live (nx p))=live.getD p 0):
  Wl c us nx n V (live.set p (jS (us p) (givesOf x) (fU live (nx p)))) pend dw bk/\live.getD p 0<jS (us p) (givesOf x) (fU live (nx p)):=by
 have hp:p<live.length:=by rw[w.ll,C.DY];have:=(d0.mp hx).1;lia
 have Rk:=w.pre p x hx;generalize hB:jS (us p) (givesOf x) (fU live (nx p))=bits at*;have mono:∀j v,(live.getD j 0).testBit v=true->((live.set p bits).getD j 0).testBit v=true:=λj v hv=>by
  by_cases e:j=p
  ·subst e;rw[ef,i7 hp];exact Rk v hv
  ·rw[ef,hX (λz=>e z.symm),<-ef];exact hv
 have acC:∀j v,(live.getD j 0).testBit v=true->Live c v j:=λj v hv=>by
  cases e:live[j]?with
  |none=>rw[ef,e]at hv;simp at hv
  |some m=>rw[jT e]at hv;exact w.snd j m e v hv
 have acD:∀v,bits.testBit v=true->Live c v p:=λv hv=>by
  rw[<-hB,DX]at hv;rw[aaS];refine aF x hx ?_;rcases hv with h|⟨h1,h2⟩
  ·exact .inl ((C.Rf p x hx v).mp h)
  ·rw[vt]at h2;refine ar h2 λj hj fV=>?_;exact .inr (cg h1 j ((C.Rh p j).mp hj) (acC j v fV))
 have tq:bits<2^V:=lt_pow_of_bits λv hv=>by
  rw[<-hB,DX]at hv;rcases hv with h|⟨_,h2⟩
  ·exact C.acy p x hx v h
  ·rw[vt]at h2;refine ar h2 λj hj fV=>?_;cases e:live[j]?with
   |none=>rw[ef,e]at fV;simp at fV
   |some m=>
    rw[jT e]at fV;have:=w.lt j m e
    apply uK;intro gf;have:m.testBit v=false:=zF (eP this (sq (by decide) (by lia)))
    rw[this]at fV;cases fV
 refine⟨⟨by rw[mM];exact w.ll,w.lp,λi m hm v hv=>?_,λi y hy=>?_,λi y hy v hv=>?_,w.nd,w.pl,w.pp,λi m hm=>?_⟩,acB Rk (λe=>bh e.symm)⟩
 ·by_cases e:i=p
  ·subst e;rw[i7 hp]at hm;cases hm;exact acD v hv
  ·rw[hX (λz=>e z.symm)]at hm;exact w.snd i m hm v hv
 ·have hi:i<n:=by rw[C.DY];exact(d0.mp hy).1
  by_cases hm:p∈nx i
  ·exact .inr (.inl ((hb i hi).mp hm))
  ·rw[acA hm];by_cases e:i=p
   ·subst e;rw[hx]at hy;cases hy;right;right;rw[ef,i7 hp,hB];rfl
   ·rcases w.fix i y hy with q|q|q
    ·exact .inl q
    ·simp at q;exact absurd q e
    ·right;right;rw[ef,hX (λz=>e z.symm),<-ef];exact q
 ·by_cases e:i=p
  ·subst e;rw[hx]at hy;cases hy;rw[ef,i7 hp]at hv;have gf:bits.testBit v=true:=hv
   rw[<-hB]at gf;exact Rj (λu hu=>Ri mono hu) gf
  ·rw[ef,hX (λz=>e z.symm),<-ef]at hv;exact Rj (λu hu=>Ri mono hu) (w.pre i y hy v hv)
 ·by_cases e:i=p
  ·subst e;rw[i7 hp]at hm;cases hm;exact tq
  ·rw[hX (λz=>e z.symm)]at hm;exact w.lt i m hm
def Wl.skip(w:Wl c us nx n V live pend dw (q::rest))(h:dw[q]?=some true):Wl c us nx n V live pend dw rest:=
 ⟨w.ll,w.lp,w.snd,λi x hx=>by
  rcases w.fix i x hx with a|a|a
  ·exact .inl a
  ·rcases cu.mp a with rfl|a
   ·exact .inl h
   ·exact .inr (.inl a)
  ·exact .inr (.inr a),w.pre,w.nd,w.pl,w.pp,w.lt⟩
def Wl.push(w:Wl c us nx n V live pend dw (q::rest))(hq:q<n)(h:dw[q]?=some false):Wl c us nx n V live (pend++[q]) (dw.set q true) rest:=by
 have KC:q∉pend:=λhm=>by rw[w.pp q hq]at h;simp[hm]at h
 refine⟨w.ll,by rw[mM];exact w.lp,w.snd,λi x hx=>?_,w.pre,?_,λp hp=>?_,λp hp=>?_,w.lt⟩
 ·by_cases e:i=q
  ·left;subst e;rw[i7 (by rw[w.lp];exact hq)]
  ·rcases w.fix i x hx with a|a|a
   ·left;rw[hX (λz=>e z.symm)];exact a
   ·rcases cu.mp a with a|a
    ·exact absurd a e
    ·exact .inr (.inl a)
   ·exact .inr (.inr a)
 ·rw[lM];exact b8 w.nd (by simp) λa ha b hb e=>by simp at hb;subst hb;subst e;exact KC ha
 ·rcases eO.mp hp with a|a
  ·exact w.pl p a
  ·simp at a;subst a;exact hq
 ·by_cases e:p=q
  ·subst e;rw[i7 (by rw[w.lp];exact hq)];simp
  ·rw[hX (λz=>e z.symm),w.pp p hp];simp[e]
def Wl.Rl(w:Wl c us nx n V live pend dw rest):pend.length<=n:=by
 have:=qZ w.nd (m:=bD n) λp hp=>by simpa using w.pl p hp
 simpa using this
def Wl.done(C:Wc c us nx n V)(w:Wl c us nx n V live [] dw [])(i v:Nat):(live.getD i 0).testBit v=true<->Live c v i:=by
 constructor
 ·intro hv;cases e:live[i]?with
  |none=>rw[ef,e]at hv;simp at hv
  |some m=>rw[jT e]at hv;exact w.snd i m e v hv
 ·intro h;refine P4 (L:=λi v=>(live.getD i 0).testBit v=true) (λi x v hx h=>?_) h;have hi:i<n:=by rw[C.DY];exact(d0.mp hx).1
  rcases w.fix i x hx with a|a|a
  ·rw[w.pp i hi]at a;simp at a
  ·simp at a
  ·rw[a,DX];rcases h with h|⟨h1,j,h2,h3⟩
   ·exact .inl ((C.Rf i x hx v).mpr h)
   ·exact .inr ⟨h1,(vt _ _ _).mpr (aF j ((C.Rh i j).mpr h2) h3)⟩
def room(V:Nat)(live:List Nat):Nat:=(live.map λm=>2^V-m).sum
def acE{V:Nat}:∀{live:List Nat}{m:Nat},live[p]?=some m->m<b->b<=2^V->room V (live.set p b)<room V live:=by
 intro live;induction live generalizing p with
 |nil=>intro m h;simp at h
 |cons x r ih=>
  intro m h h1 h2;cases p with
  |zero=>simp at h;subst h;simp[room];lia
  |succ p=>simp at h;have:=ih h h1 h2;simp[room]at this⊢;lia
end
end Z
namespace L2
open PySem PySem.Spec PyProof.Rows
section
abbrev aT:=Sum Int Str
def rm:aT->Value->Bool
 | .inl k,v=>aup k v
 | .inr x,v=>auq x v
def Rm(w:a9):aT->Int
 | .inl k=>hashInt k
 | .inr x=>hashStr w x
def ku:∀{k:aT}{v:Value},rm k v=true->(∃i t,k=bT i/\v=CV i t)\/(∃x t,k=aJ x/\v=O1 x t)
 | .inl i,v,h=>by
   obtain⟨t,e⟩:=Value.isInt_shape (k:=i) (v:=v) h;exact .inl (cD i t rfl e)
 | .inr x,v,h=>by
   obtain⟨t,e⟩:=Value.isStrOf_shape (x:=x) (v:=v) h;exact .inr (cD x t rfl e)
def acF(i:Int)(t:Tok):rm (.inl i) (.int i t)=true:=by simp[rm,aup]
def gi(x:Str)(t:Tok):rm (.inr x) (.str x t)=true:=by simp[rm,auq]
def acG(a b:Int):decide ((bT a:aT)=bT b)=(a==b):=by
 by_cases e:a=b
 ·subst e;simp
 ·have h:¬(bT a:aT)=bT b:=λq=>e (zJ q);rw[decide_eq_false h];exact(beq_eq_false_iff_ne.mpr e).symm
def acH(a b:Str):decide ((aJ a:aT)=aJ b)=decide (a=b):=by
 by_cases e:a=b
 ·subst e;simp
 ·have h:¬(aJ a:aT)=aJ b:=λq=>e (Jt q);rw[decide_eq_false h,decide_eq_false e]
def acI(a:Int)(b:Str):decide ((bT a:aT)=aJ b)=false:=decide_eq_false (λq=>nomatch q)
def acJ(a:Str)(b:Int):decide ((aJ a:aT)=bT b)=false:=decide_eq_false (λq=>nomatch q)
def fC(prog:Program)(w:a9):aur prog w aT where
 is:=rm
 hash:=Rm w
 inj:=λv a b ha hb=>by
  rcases ku ha with⟨i,t,rfl,rfl⟩|⟨x,t,rfl,rfl⟩
  ·rcases ku hb with⟨j,u,rfl,e⟩|⟨y,u,rfl,e⟩
   ·injection e with e1 _;rw[e1]
   ·exact nomatch e
  ·rcases ku hb with⟨j,u,rfl,e⟩|⟨y,u,rfl,e⟩
   ·exact nomatch e
   ·injection e with e1 _;rw[e1]
 byValue:=λk v h=>by rcases ku h with⟨i,t,rfl,rfl⟩|⟨x,t,rfl,rfl⟩<;>rfl
 pyHash:=λhv h=>by
  rcases ku hv with⟨i,t,rfl,rfl⟩|⟨x,t,rfl,rfl⟩
  ·exact wpAny_pyHash_int h
  ·exact wpAny_pyHash_str h
 eqBool:=λhu hv h=>by
  rcases ku hu with⟨i,t,rfl,rfl⟩|⟨x,t,rfl,rfl⟩
  ·rcases ku hv with⟨j,u,rfl,rfl⟩|⟨y,u,rfl,rfl⟩
   ·rw[acG]at h;exact wpAny_eqBool_int h
   ·rw[acI]at h;exact aus i t y u _ _ _ _ h
  ·rcases ku hv with⟨j,u,rfl,rfl⟩|⟨y,u,rfl,rfl⟩
   ·rw[acJ]at h;exact aut x t j u _ _ _ _ h
   ·rw[acH]at h;exact wpAny_eqBool_str h
 «strs»:=λk x t v h=>by
  rcases ku h with⟨i,u,rfl,e⟩|⟨y,u,rfl,e⟩
  ·exact nomatch e
  ·injection e with e1 _
   subst e1;cases v<;>rfl
def acK(prog:Program)(w:a9)(i:Int)(t:Tok):(fC prog w).is (.inl i) (.int i t)=true:=acF i t
def acL(prog:Program)(w:a9)(x:Str)(t:Tok):(fC prog w).is (.inr x) (.str x t)=true:=gi x t
end
section
variable{a b:Addr}{h:Heap}{o:Obj}
inductive V where
 |aL|bl (b:Bool)|int (i:Int)|str (x:Str)|lr (b:Array UInt8)|yl (b:UInt64)|ref (a:Addr)|ty (n:String)
 deriving DecidableEq
def bC:V->Value->Prop
 | .aL,u=>u=i9
 | .bl b,u=>u=CW b
 | .int i,u=>∃t,u=CV i t
 | .str x,u=>∃t,u=O1 x t
 | .lr b,u=>∃t,u=auu b t
 | .yl b,u=>∃t,u=auv b t
 | .ref a,u=>u=c9 a
 | .ty n,u=>u=ZV n
abbrev bB:List V->List Value->Prop:=Paired bC
theorem bB.length{xs:List V}{us:List Value}(r:bB xs us):xs.length=us.length:=Paired.length r
theorem bB.get:∀{xs:List V}{us:List Value}{i:Nat}{x:V},bB xs us->xs[i]?=some x->∃u,us[i]?=some u/\bC x u
 |_,_,_,_, .nil,e=>by simp at e
 |_,_,0,_, .cons r _,e=>by simp at e;subst e;exact aq rfl r
 |_,_,i+1,x, .cons _ t,e=>by
  refine ar (bB.get (i:=i) (x:=x) t (by simpa using e)) λu h1 h2=>?_;exact aF u (by simpa using h1) h2
theorem bB.set{x:V}{u:Value}(r:bC x u):∀{xs:List V}{us:List Value}(i:Nat),bB xs us->bB (xs.set i x) (us.set i u)
 |_,_,_, .nil=> .nil
 |_,_,0, .cons _ t=> .cons r t
 |_,_,i+1, .cons q t=> .cons q (bB.set r i t)
theorem bB.append:∀{xs ys:List V}{us ws:List Value},bB xs us->bB ys ws->bB (xs++ys) (us++ws)
 |_,_,_,_, .nil,s=>s
 |_,_,_,_, .cons r t,s=> .cons r (bB.append t s)
theorem bB.take:∀{xs:List V}{us:List Value}(n:Nat),bB xs us->bB (xs.take n) (us.take n)
 |_,_,0,_=> .nil
 |_,_,_+1, .nil=> .nil
 |_,_,n+1, .cons r t=> .cons r (bB.take n t)
theorem bB.drop:∀{xs:List V}{us:List Value}(n:Nat),bB xs us->bB (xs.drop n) (us.drop n)
 |_,_,0,r=>r
 |_,_,_+1, .nil=> .nil
 |_,_,n+1, .cons _ t=>bB.drop n t
def jU:Option V->Option Value->Prop
 |some v,some u=>bC v u
 |none,none=>True
 |_,_=>False
def KV{κ:Type}:List (κ×V)->List (κ×Value)->Prop:=Paired λ(p:κ×V)(q:κ×Value)=>p.1=q.1/\bC p.2 q.2
def kV:aT->V
 | .inl i=> .int i
 | .inr x=> .str x
inductive HO where
 |lst (xs:List V)
 |tup (xs:List V)
 |dK (kvs:List (aT×V))|dT (kvs:List (List aT×V))
 |set (S:Int->Bool) (n:Nat)
 |ins (C dx:Addr) (fs:List (Str×V))
 |own (x:Addr)
 |xd (fs:List (Str×V))
 |met (f x:Addr)
 |rn (lo hi:Int)
 |eG (o:Obj) (u:HO)
 |tF (ps:Array Value)
 |ext (φ:Heap->Prop)
abbrev Hp:=Addr->Option HO
def upd(H:Hp)(a:Addr)(o:HO):Hp:=λb=>if b=a then some o else H b
def ag{H:Hp}{o:HO}:upd H a o a=some o:=by unfold upd;rw[if_pos rfl]
def aj{H:Hp}{o:HO}(h:b≠a):upd H a o b=H b:=by unfold upd;rw[if_neg h]
def ym{H:Hp}{o u:HO}:upd (upd H a o) a u=upd H a u:=by funext b;unfold upd;split<;>rfl
def gE{H:Hp}{o u:HO}(h:H a=some o)(h':H b=some u)(d:o≠u):a≠b:=by intro e;subst e;rw[h]at h';exact d (eB h')
def bL{H:Hp}{o:HO}(h:H a=some o)(h':H b=none):a≠b:=by intro e;subst e;rw[h]at h';cases h'
section
variable(P:Program)(w:a9)
def d9(H:Hp)(h:Heap)(a:Addr):HO->Prop
 | .lst xs=>xs.length<=sizeLine/\∃(ay:List Value)(n:Nat),bB xs ay/\h.get? a=some {cls:= .type "list",data:= .seq ay.toArray n}
 | .tup xs=>xs.length<=sizeLine/\∃ay:List Value,bB xs ay/\IsTup h a ay.toArray
 | .dK kvs=>kvs.length<=sizeLine/\(a==oh)=false/\∃vs,KV kvs vs/\h.DictOf (fC P w) a vs
 | .dT kvs=>kvs.length<=sizeLine/\(a==oh)=false/\∃xs:List (List aT×Addr×Value),
  Paired (λ(p:List aT×V)(q:List aT×Addr×Value)=>p.1=q.1/\H q.2.1=some (.tup (p.1.map kV))/\bC p.2 q.2.2) kvs xs/\
  ∃o es ep,h.get? a=some o/\o.ExactDict/\o.data= .dict es ep/\es.toList=xs.map (entryOfKey (CY (fC P w)))/\(xs.map (·.1)).Nodup
 | .set S n=>h.SetOf (intKind P w) a S n
 | .ins C dx fs=>H dx=some (.own a)/\fs.length<=1000/\dx≠a/\h.get? a=some (xR C dx)/\
  ∃mA,h.Ns1 dx mA/\(∀f,jU (fs.lookup f) (mA f))/\ZW mA (fs.map (·.1))
 | .own _=>∃o,h.get? a=some o
 | .xd fs=>∃mA,h.Ns1 a mA/\∀f,jU (fs.lookup f) (mA f)
 | .rn lo hi=>∃t u v,h.get? a=some {cls:= .type "range",data:= .fields #[.int lo t, .int hi u, .int 1 v]}
 | .eG o u=>h.get? a=some o/\d9 H h a u
 | .tF ps=>h.get? a=some {cls:= .none,data:= .fields ps}
 | .met f x=>h.get? a=some (ZX (.ref f) (.ref x))
 | .ext φ=>φ h/\(∃o,h.get? a=some o)/\∀h1 h2:Heap,φ h1->(∀o,h1.get? a=some o->h2.get? a=some o)->φ h2
def dy(H:Hp)(h:Heap):Prop:=∀a o,H a=some o->d9 P w H h a o
end
section
variable{P:Program}{w:a9}{H H':Hp}{h h':Heap}{a:Addr}{o:HO}
theorem d9.lt(x:d9 P w H h a o):a<h.objs.size:=by
 cases o with
 |lst xs=>refine pK x λ_ _ _ _ e=>?_;exact cR e
 |tup xs=>refine iD x λ_ _ _ p=>?_;exact p.lt
 |dK kvs=>refine mU x λ_ _ _ _ o _ _ e _=>?_;exact cR e
 |dT kvs=>refine mU x λ_ _ _ _ o _ _ e _=>?_;exact cR e
 |set S n=>refine fR x λo _ _ _ e _=>?_;exact cR e
 |ins C dx fs=>refine fi x λ_ _ _ e _=>?_;exact cR e
 |own y=>obtain⟨_,e⟩:=x;exact cR e
 |xd fs=>refine ar x λ_ bp _=>?_;obtain⟨_,_,_,e,_⟩:=bp;exact cR e
 |rn lo hi=>refine lh x λ_ _ ib=>?_;refine eE ib λ_ e=>?_;exact cR e
 |eG ob u=>obtain⟨e,_⟩:=x;exact cR e
 |tF ps=>exact cR (show h.get? a=some _ from x)
 |met f y=>exact cR (show h.get? a=some _ from x)
 |ext φ=>refine cT x λ_ bA _=>?_;obtain⟨_,e⟩:=bA;exact cR e
theorem Paired.KD{α β:Type}{F G:α->β->Prop}:∀{l₁:List α}{l₂:List β},Paired F l₁ l₂->(∀a b,F a b->G a b)->Paired G l₁ l₂
 |_,_, .nil,_=> .nil
 |_,_, .cons r t,f=> .cons (f _ _ r) (Paired.KD t f)
def d9.gY(x:d9 P w H h a o)(k:∀b u,(b=a\/H b=some (.own a))->h.get? b=some u->h'.get? b=some u)
  (ho:∀b,H b=some (.own a)->H' b=some (.own a)) (ht:∀b xs,H b=some (.tup xs)->H' b=some (.tup xs)):d9 P w H' h' a o:=by
 induction o with
 |lst xs=>refine pK x λz ay n r e=>?_;exact k_ z ay n r (k _ _ (.inl rfl) e)
 |tup xs=>refine iD x λz ay r c0=>?_;refine ar c0 λob e c=>?_;exact cg z ay r (aF ob (k _ _ (.inl rfl) e) c)
 |dK kvs=>refine mU x λz y vs r ob es ep e c=>?_;exact sV z y vs r (pI ob es ep (k _ _ (.inl rfl) e) c)
 |dT kvs=>
  refine mU x λz y xs r ob es ep e c=>?_;exact sV z y xs (Paired.KD r λp q z=>b8 z.1 (ht _ _ z.2.1) z.2.2) (pI ob es ep (k _ _ (.inl rfl) e) c)
 |set S n=>refine fR x λob es ep t e c=>?_;exact⟨ob,es,ep,t,k _ _ (.inl rfl) e,c⟩
 |ins C dx fs=>
  refine fi x λd z ne e kx=>?_;refine ar kx λmA bX r=>?_;obtain⟨od,es,ep,e2,c⟩:=bX;exact⟨ho _ d,z,ne,k _ _ (.inl rfl) e,mA,pI od es ep (k _ _ (.inr d) e2) c,r⟩
 |own y=>obtain⟨ob,e⟩:=x;exact⟨ob,k _ _ (.inl rfl) e⟩
 |xd fs=>refine ar x λmA cA r=>?_;obtain⟨od,es,ep,e,c⟩:=cA;exact aF mA (pI od es ep (k _ _ (.inl rfl) e) c) r
 |rn lo hi=>refine lh x λt u gF=>?_;refine eE gF λv e=>?_;exact⟨t,u,v,k _ _ (.inl rfl) e⟩
 |eG ob u ih=>obtain⟨e,q⟩:=x;exact⟨k _ _ (.inl rfl) e,ih q⟩
 |tF ps=>
  have e:h.get? a=some {cls:= .none,data:= .fields ps}:=x;show h'.get? a=some {cls:= .none,data:= .fields ps};exact k a _ (.inl rfl) e
 |met f y=>
  have e:h.get? a=some (ZX (.ref f) (.ref y)):=x;show h'.get? a=some (ZX (.ref f) (.ref y));exact k a _ (.inl rfl) e
 |ext φ=>refine cT x λp di st=>?_;obtain⟨o,e⟩:=di;exact b8 (st _ _ p λo q=>k _ _ (.inl rfl) q) ⟨o,k _ _ (.inl rfl) e⟩ st
theorem dy.lt(x:dy P w H h)(e:H a=some o):a<h.objs.size:=(x a o e).lt
def dy.fresh(x:dy P w H h)(e:h.objs.size<=a):H a=none:=by
 cases q:H a with
 |none=>rfl
 |some u=>exact absurd (eP (x.lt q) e) (qM _)
def dy.kept(x:dy P w H h)(k:∀b u,h.get? b=some u->h'.get? b=some u):dy P w H h':=λa o e=>
 (x a o e).gY (λb u _ q=>k b u q) (λ_ q=>q) λ_ _ q=>q
def dy.laid(x:dy P w H h)(k:∀b u,h.get? b=some u->h'.get? b=some u)(hp:h.objs.size<=a)(new:d9 P w (upd H a o) h' a o):dy P w (upd H a o) h':=λb u e=>by
 have hn:=x.fresh hp;by_cases hb:b=a
 ·subst hb;rw[ag]at e;cases e;exact new
 ·rw[aj hb]at e;exact(x b u e).gY (λc v _ q=>k c v q) (λc q=>by rw[aj (bL q hn)];exact q) λc xs q=>by rw[aj (bL q hn)];exact q
end
def Rd(H:Hp)(a:Addr)(u:HO):Prop:=H a=some u\/∃o,H a=some (.eG o u)
def Rd.ok{P:Program}{w:a9}{H:Hp}{u:HO}(r:Rd H a u)(x:dy P w H h):d9 P w H h a u:=by
 rcases r with r|⟨o,r⟩
 ·exact x a u r
 ·obtain⟨_,q⟩:=x a _ r;exact q
def tG:Option HO->Prop
 |some (.lst _)=>True
 |some (.dK _)=>True
 |some (.dT _)=>True
 |some (.set _ _)=>True
 |some (.ins _ _ _)=>True
 |some (.ext _)=>True
 |_=>False
section
variable{P:Program}{w:a9}{H:Hp}{h h':Heap}{x e:Addr}{o':HO}
def dy.write(ok:dy P w H h)(mu:tG (H x))(he:e=x\/H e=some (.own x))(k:∀b u,b≠e->h.get? b=some u->h'.get? b=some u)(yn:∃u,h'.get? e=some u)
  (new:d9 P w (upd H x o') h' x o'):dy P w (upd H x o') h':=λb u q=>by
 have Rn:∀c y,H c=some (.own y)->c≠x:=λc y r z=>by subst z;rw[r]at mu;exact mu
 have acM:∀c xs,H c=some (.tup xs)->c≠x:=λc xs r z=>by subst z;rw[r]at mu;exact mu
 by_cases hb:b=x
 ·subst hb;rw[ag]at q;cases q;exact new
 ·rw[aj hb]at q;by_cases vv:b=e
  ·have q':H b=some (.own x):=by
    rcases he with z|z
    ·exact absurd (vv.trans z) hb
    ·rw[vv];exact z
   rw[q]at q';cases q';obtain⟨v,hv⟩:=yn;exact⟨v,by rw[vv];exact hv⟩
  ·refine(ok b u q).gY (λc v hc r=>k c v ?_ r) (λc r=>by rw[aj (Rn c b r)];exact r) λc xs r=>by rw[aj (acM c xs r)];exact r
   rcases hc with rfl|hc
   ·exact vv
   ·rintro rfl;rcases he with z|z
    ·exact Rn c b hc z
    ·rw[hc]at z;cases z;exact hb rfl
end
structure Un (fs ex:List Addr) (H H':Hp) (h h':Heap):Prop where
 keep:∀b o,h.get? b=some o->H b=none->b∉fs->b∉ex->h'.get? b=some o
 slot:∀b o,h.get? b=some o->H b=none->b∈fs->b∉ex->∃sl,h'.get? b=some {o with slots:=sl}
 free:∀b o,h.get? b=some o->H b=none->b∉ex->H' b=none
 there:∀b o,h.get? b=some o->b∉ex->∃o',h'.get? b=some o'
 mX:∀b xs,H b=some (.tup xs)->H' b=some (.tup xs)
 lu:∀b o u,H b=some (.eG o u)->H' b=some (.eG o u)
 mY:∀b ps,H b=some (.tF ps)->∃more,H' b=some (.tF (ps++more))
section
variable{fs yo ex ex':List Addr}{H H1 H2:Hp}{h h1 h2 h':Heap}{a x e:Addr}{o:HO}
def Un.any(u:Un fs ex H H1 h h1){ob:Obj}(q:h.get? b=some ob)(n:H b=none)(hx:b∉ex):∃sl,h1.get? b=some {ob with slots:=sl}:=by
 by_cases hb:b∈fs
 ·exact u.slot b ob q n hb hx
 ·exact⟨ob.slots,u.keep b ob q n hb hx⟩
def Un.kept(k:∀b u,h.get? b=some u->h'.get? b=some u):Un fs ex H H h h':=
 ⟨λb ob q _ _ _=>k b ob q,λb ob q _ _ _=>⟨ob.slots,k b ob q⟩,λ_ _ _ n _=>n,λb ob q _=>⟨ob,k b ob q⟩,λ_ _ q=>q,λ_ _ _ q=>q,λ_ ps q=>⟨#[],by rw[q];simp⟩⟩
def Un.refl:Un fs ex H H h h:=Un.kept λ_ _ q=>q
def Un.laid(k:∀b u,h.get? b=some u->h'.get? b=some u)(hp:h.objs.size<=a)(hn:H a=none):Un fs ex H (upd H a o) h h' where
 keep:=λb u q _ _ _=>k b u q
 slot:=λb u q _ _ _=>⟨u.slots,k b u q⟩
 free:=λb u q n _=>by rw[aj (gQ (eP (cR q) hp))];exact n
 there:=λb u q _=>⟨u,k b u q⟩
 mX:=λb xs q=>by rw[aj (bL q hn)];exact q
 lu:=λb u xs q=>by rw[aj (bL q hn)];exact q
 mY:=λb ps q=>⟨#[],by rw[aj (bL q hn),q];simp⟩
def Un.write(mu:tG (H x))(he:e=x\/H e=some (.own x))(k:∀b u,b≠e->h.get? b=some u->h'.get? b=some u)(yn:∃u,h'.get? e=some u):Un fs ex H (upd H x o) h h':=by
 have hx:∀b,H b=none->b≠x:=λb n z=>by subst z;rw[n]at mu;exact mu
 have hb:∀b,H b=none->b≠e:=λb n z=>by
  subst z;rcases he with r|r
  ·exact hx b n r
  ·rw[n]at r;cases r
 have hm:∀b u,H b=some u->¬tG (some u)->b≠x:=λb u q nm z=>by subst z;rw[q]at mu;exact nm mu
 refine⟨λb u q n _ _=>k b u (hb b n) q,λb u q n _ _=>⟨u.slots,k b u (hb b n) q⟩,λb u q n _=>by rw[aj (hx b n)];exact n,λb u q _=>?_,λb xs q=>by rw[aj (hm b _ q λz=>z)];exact q,λb u xs q=>by rw[aj (hm b _ q λz=>z)];exact q,λb ps q=>⟨#[],by rw[aj (hm b _ q λz=>z),q];simp⟩⟩;by_cases vv:b=e
 ·subst vv;exact yn
 ·exact⟨u,k b u vv q⟩
end
def vw(h:Heap)(H:Hp):List Addr:=(bD h.objs.size).filter λa=>(H a).isSome
def pV(h:Heap)(H:Hp):Heap:=auw h (vw h H)
def acN(h:Heap)(H:Hp):(pV h H).objs.size=h.objs.size:=PySem.W.hideAll_size _ _
def acO{H:Hp}(e:h.get? b=some o)(n:H b=none):(pV h H).get? b=some o:=
 auy _ e λhm=>by have q:(H b).isSome=true:=(fq.mp hm).2;rw[n]at q;simp at q
def acP{H:Hp}(e:(pV h H).get? b=some o):h.get? b=some o/\H b=none:=by
 have e':h.get? b=some o:=auz (vw h H) e;refine⟨e',?_⟩;cases q:H b with
 |none=>rfl
 |some x=>
  have hm:b∈vw h H:=fq.mpr ⟨CP.mpr (cR e'),by simp[q]⟩;have z:(pV h H).get? b=none:=ZY (vw h H) hm;rw[z]at e;cases e
def acQ(g h:Heap)(L:Addr):List (Addr×Obj):=(bD h.objs.size).filterMap λa=>if a=L\/(g.get? a).isSome=true then none else(h.get? a).map λo=>(a,o)
def rest(g h:Heap)(L d:Addr):List (Addr×Obj):=(acQ g h L).filter λp=>decide (p.1≠d)
end
section
variable{g':Array GenState}{t' i:Nat}{d':Drawn}{ch:List Addr}{x:Str}{M:zK}{A:cX}{E:Value->aw->Prop}{v:V}{u:Value}{Q:Unit->aw->Prop}
structure Mod (K:aV) (mg:Str->Option Value) (base:Heap):Prop where
 vx:K.In base
 glob:base.Ns mO mg
 blt:∃mb,base.Ns ZZ mb/\∀x:Str,x≠"__name__"->mb x=kg x
 nolimit:base.NoLimit
structure Cx where
 prog:Program
 w:a9
 K:aV
 mg:Str->Option Value
 base:Heap
 A:cX
 N:List Str
 gZ:aw
 vy:Hp
 env:Env
 outer:List Env
 stack:List Env
 ex:List Addr
 fn:Str->Bool
 calm:Bool
 pn:List (Addr×Obj)
 xe:Value->aw->Prop
def ic(l:List Env):List Addr:=l.filterMap (·.frame)
abbrev Cx.fs(X:Cx):List Addr:=ic X.outer
def yq(sc:Scope)(x:Str):Prop:=sc.names.lookup x=some .local\/sc.names.lookup x=some .cell\/sc.names.lookup x=some .free
def tH(sc:Scope)(x:Str):Prop:=sc.names.lookup x=some .local\/sc.names.lookup x=some .cell
def acR(env:Env)(h:Heap)(m:Str->Option Value)(x:Str)(u:Value):Prop:=
 (env.kindOf x=some .local/\m x=some u)\/((env.kindOf x=some .cell\/env.kindOf x=some .free)/\∃c,env.cells.lookup x=some c/\h.IsCell c (some u))
structure Cx.Ok (X:Cx):Prop where
 mod:Mod X.K X.mg X.base
 kind:X.env.scope.kind= .function
 glob:X.env.globals=mO
 blt:X.env.builtins=ZZ
 above:X.gZ.heap.objs.size<=X.env.locals
 inj:∀x y c,X.env.cells.lookup x=some c->X.env.cells.lookup y=some c->x=y
 has:∀x,(X.env.kindOf x=some .cell\/X.env.kindOf x=some .free)->∃c,X.env.cells.lookup x=some c
 tI:∀x c,X.fn x=true->X.env.cells.lookup x=some c->X.gZ.heap.objs.size<=c
 hd:X.calm=true->X.A.handled=none
 frames:X.A.frames=some X.stack
 Ao:X.stack=X.outer\/(X.stack=X.env::X.outer/\X.env.frame=some X.env.locals)
 Ap:∀b∈X.ex,b≠X.env.locals/\∀x c,X.env.cells.lookup x=some c->c≠b
 bs:∀b o,X.base.get? b=some o->X.gZ.heap.get? b=some o/\X.vy b=none
 mZ:X.base.objs.size<=X.gZ.heap.objs.size
 yr:∀b o,X.base.get? b=some o->b∉X.ex
 yt:∀b∈X.ex,b∉X.fs
 kz:X.gZ.heap.FunFrames X.base X.outer
 m3:∀b∈X.fs,X.vy b=none
structure ak (X:Cx) (aa:List (Addr×Obj)) (σ:List (Option V)) (H:Hp) (s:aw):Prop where
 ok:X.Ok
 os:s.os=X.gZ.os
 bare:uL s.gens
 base:Un X.fs X.ex X.vy H X.gZ.heap s.heap
 loc:∃m,s.heap.Ns X.env.locals m/\∀(i:Nat)(x:Str)(v:V),X.N[i]?=some x->σ[i]?=some (some v)->yq X.env.scope x->∃u,bC v u/\acR X.env s.heap m x u
 cell:∀x c,X.env.cells.lookup x=some c->∃v,s.heap.IsCell c v
 free:H X.env.locals=none
 jV:∀x c,X.env.cells.lookup x=some c->H c=none
 pin:∀p∈X.pn++aa,s.heap.get? p.1=some p.2/\H p.1=none/\p.1≠X.env.locals/\p.1∉X.fs/\∀v,p.2.data≠ .cell v
 aG:dy X.prog X.w H s.heap
 len:σ.length=X.N.length
section
variable{X:Cx}{aa:List (Addr×Obj)}{σ:List (Option V)}{H H':Hp}{s:aw}{h':Heap}
def Cx.Ok.acS(ok:X.Ok){b:Addr}{o:Obj}(e:X.base.get? b=some o):b∉X.fs:=λhb=>by have:=(ok.kz.mem hb).1;rw[e]at this;cases this
theorem ak.bs(I:ak X aa σ H s):∀b o,X.base.get? b=some o->s.heap.get? b=some o/\H b=none:=λb o e=>
 ⟨I.base.keep b o (I.ok.bs b o e).1 (I.ok.bs b o e).2 (I.ok.acS e) (I.ok.yr b o e),I.base.free b o (I.ok.bs b o e).1 (I.ok.bs b o e).2 (I.ok.yr b o e)⟩
def ak.bk(I:ak X aa σ H s):∀b o,X.base.get? b=some o->s.heap.get? b=some o:=λb o e=>(I.bs b o e).1
theorem ak.mod(I:ak X aa σ H s):Mod X.K X.mg X.base:=I.ok.mod
def ak.fW(I:ak X aa σ H s):X.K.In s.heap:=I.ok.mod.vx.keeps I.bk
theorem ak.lt(I:ak X aa σ H s):X.env.locals<s.heap.objs.size:=ar I.loc λ_ hn _=>hn.lt
def ak.sz(I:ak X aa σ H s):X.gZ.heap.objs.size<=s.heap.objs.size:=i8 I.ok.above (Ju I.lt)
def ak.acT(I:ak X aa σ H s){a:Addr}(h:s.heap.objs.size<=a):a∉X.fs:=λhb=>by refine iD (I.ok.kz.mem hb) λ_ o ho _=>?_;exact absurd (eP (cR ho) (i8 I.sz h)) (qM _)
def ak.tJ(I:ak X aa σ H s):∀x c,X.env.cells.lookup x=some c->c≠X.env.locals:=λx c e z=>by refine bZ (I.cell x c e) λv o ho hd=>?_;refine ar I.loc λm eS _=>?_;obtain⟨o',es,ep,g4,jd,_⟩:=eS;rw[z,g4]at ho;cases ho;rw[jd]at hd;cases hd
theorem ak.kz(I:ak X aa σ H s):s.heap.FunFrames X.base X.outer:=by
 have all:∀(l:List Env),(∀b∈ic l,b∈X.fs)->X.gZ.heap.FunFrames X.base l->s.heap.FunFrames X.base l:=by
  intro l;induction l with
  |nil=>intro _ _;trivial
  |cons env r ih=>
   intro hs hl;refine cT hl λhk eT hr=>?_;obtain⟨L,o,hf,hn,ho,hd⟩:=eT;have hL:L∈X.fs:=hs L (by unfold ic;rw[Jo,hf];exact pE)
   obtain⟨sl,e⟩:=I.base.slot L o ho (I.ok.m3 L hL) hL λz=>I.ok.yt L z hL
   exact b8 hk (cC L _ hf hn e hd) (ih (λb hb=>hs b (by unfold ic;rw[Jo,hf];exact dn _ hb)) hr)
 exact all X.outer (λ_ hb=>hb) I.ok.kz
theorem ak.stack(I:ak X aa σ H s):s.heap.FunFrames X.base X.stack:=by
 rcases I.ok.Ao with e|⟨e,hf⟩
 ·rw[e];exact I.kz
 ·rw[e];refine ar I.loc λm hn _=>?_;refine .cons (by rw[I.ok.kind];decide) hf hn ?_ I.kz;exact Heap.get?_none_of_le (i8 I.ok.mZ I.ok.above)
def ak.KG(I:ak X aa σ H s):∀b∈ic X.stack,b∈X.env.locals::X.fs:=λb hb=>by
 rcases I.ok.Ao with e|⟨e,hf⟩
 ·rw[e]at hb;exact dn _ hb
 ·rw[e]at hb;unfold ic at hb;rw[Jo,hf]at hb;exact hb
def ak.KH(I:ak X aa σ H s):∀b∈ic X.stack,H b=none:=λb hb=>by
 rcases cu.mp (I.KG b hb)with e|hb
 ·rw[e];exact I.free
 ·refine iD (I.ok.kz.mem hb) λ_ o ho _=>?_;exact I.base.free b o ho (I.ok.m3 b hb) λz=>I.ok.yt b z hb
def ak.step(I:ak X aa σ H s)
  (lx:∀b∈ch,(b∈X.ex\/X.gZ.heap.objs.size<=b)/\b≠X.env.locals/\(∀x c,X.env.cells.lookup x=some c->c≠b)/\∀p∈X.pn++aa,p.1≠b)
  (keep:∀b o,b≠X.env.locals->b∉X.fs->b∉ch->s.heap.get? b=some o->H b=none->h'.get? b=some o)
  (slot:∀b o,b≠X.env.locals->b∈X.fs->b∉ch->s.heap.get? b=some o->H b=none->∃sl,h'.get? b=some {o with slots:=sl}) (free:∀b o,b∉ch->s.heap.get? b=some o->H b=none->H' b=none)
  (there:∀b o,b∉ch->s.heap.get? b=some o->∃o',h'.get? b=some o')
  (mX:∀b xs,H b=some (.tup xs)->H' b=some (.tup xs)) (lu:∀b o u,H b=some (.eG o u)->H' b=some (.eG o u)) (mY:∀b ps,H b=some (.tF ps)->∃more,H' b=some (.tF (ps++more)))
  (ns:∀m,s.heap.Ns X.env.locals m->h'.Ns X.env.locals m) (aG:dy X.prog X.w H' h') (hg:uL g'):
  ak X aa σ H' {s with heap:=h',gens:=g',drawn:=d',toks:=t'}:=by
 have yu:∀b o,X.gZ.heap.get? b=some o->b≠X.env.locals:=λb o e=>gQ (eP (cR e) I.ok.above);have DZ:∀b o,X.gZ.heap.get? b=some o->b∉X.ex->b∉ch:=λb o e hx hb=>by
  rcases(lx b hb).1 with z|z
  ·exact hx z
  ·exact absurd (eP (cR e) z) (qM _)
 have cellK:∀x c,X.env.cells.lookup x=some c->∀v,s.heap.IsCell c v->h'.IsCell c v:=λx c e v Aq=>ar Aq λo ho hd=>by
  have As:c∉ch:=λz=>(lx c z).2.2.1 x c e rfl;by_cases hc:c∈X.fs
  ·obtain⟨sl,q⟩:=slot c o (I.tJ x c e) hc As ho (I.jV x c e);exact aq q hd
  ·exact aF o (keep c o (I.tJ x c e) hc As ho (I.jV x c e)) hd
 refine⟨I.ok,I.os,hg,⟨λb o e n hb hx=>?_,λb o e n hb hx=>?_,λb o e n hx=>?_,λb o e hx=>?_,λb xs e=>mX b xs (I.base.mX b xs e),λb o xs e=>lu b o xs (I.base.lu b o xs e),λb ps e=>?_⟩,?_,λx c e=>?_,?_,λx c e=>?_,λp hp=>?_,aG,I.len⟩
 ·exact keep b o (yu b o e) hb (DZ b o e hx) (I.base.keep b o e n hb hx) (I.base.free b o e n hx)
 ·obtain⟨sl,e1⟩:=I.base.slot b o e n hb hx;obtain⟨KI,e2⟩:=slot b _ (yu b o e) hb (DZ b o e hx) e1 (I.base.free b o e n hx);exact⟨KI,e2⟩
 ·obtain⟨o',e1⟩:=I.base.there b o e hx;exact free b o' (DZ b o e hx) e1 (I.base.free b o e n hx)
 ·obtain⟨o',e1⟩:=I.base.there b o e hx;exact there b o' (DZ b o e hx) e1
 ·obtain⟨m1,e1⟩:=I.base.mY b ps e;obtain⟨m2,e2⟩:=mY b _ e1;exact⟨m1++m2,by rw[e2,Array.append_assoc]⟩
 ·refine ar I.loc λm hn hl=>?_;refine aF m (ns m hn) λi x v e1 e2 e3=>?_;refine ar (hl i x v e1 e2 e3) λu r l=>?_;refine aF u r ?_;rcases l with l|⟨k,c,e,z⟩
  ·exact .inl l
  ·exact .inr (cg k c e (cellK x c e _ z))
 ·obtain⟨v,z⟩:=I.cell x c e;exact⟨v,cellK x c e v z⟩
 ·refine ar I.loc λm l5 _=>?_;obtain⟨o,_,_,ho,_⟩:=l5;exact free _ o (λz=>(lx _ z).2.1 rfl) ho I.free
 ·refine bZ (I.cell x c e) λv o ho hd=>?_;exact free c o (λz=>(lx c z).2.2.1 x c e rfl) ho (I.jV x c e)
 ·refine fi (I.pin p hp) λe n ne nf d=>?_;have As:p.1∉ch:=λz=>(lx p.1 z).2.2.2 p hp rfl
  exact k9 (keep p.1 p.2 ne nf As e n) (free p.1 p.2 As e n) ne nf d
def ak.un(I:ak X aa σ H s)(u:Un X.fs [] H H' s.heap h')(aG:dy X.prog X.w H' h'):ak X aa σ H' {s with heap:=h',toks:=t'}:=by
 refine ar (id I.loc) λm kA _=>?_;obtain⟨o,es,ep,ho,r⟩:=kA;obtain⟨sl,hL⟩:=u.any ho I.free (by simp);exact I.step (g':=s.gens) (d':=s.drawn) (ch:=[]) (λ_ z=>nomatch z) (λb o _ hb _ e n=>u.keep b o e n hb (by simp)) (λb o _ hb _ e n=>u.slot b o e n hb (by simp)) (λb o _ e n=>u.free b o e n (by simp)) (λb o _ e=>u.there b o e (by simp)) u.mX u.lu u.mY (λm' hm=>by
  refine gb hm λo' tK tL g4 r'=>?_
  rw[ho]at g4;cases g4
  exact(pI _ tK tL hL r')) aG I.bare
def ak.call(I:ak X aa σ H s)(u:Un (ic X.stack) ch H H' s.heap h')(aG:dy X.prog X.w H' h')(hg:uL g')
  (lx:∀b∈ch,(b∈X.ex\/X.gZ.heap.objs.size<=b)/\b≠X.env.locals/\(∀x c,X.env.cells.lookup x=some c->c≠b)/\∀p∈X.pn++aa,p.1≠b):
  ak X aa σ H' {s with heap:=h',gens:=g',drawn:=d',toks:=t'}:=by
 refine ar (id I.loc) λm kB _=>?_;obtain⟨o,es,ep,ho,r⟩:=kB;obtain⟨sl,hL⟩:=u.any ho I.free λz=>(lx _ z).2.1 rfl
 exact I.step (ch:=ch) lx (λb o hL hb hc e n=>u.keep b o e n (λz=>(cu.mp (I.KG b z)).elim hL hb) hc) (λb o _ _ hc e n=>u.any e n hc) (λb o hc e n=>u.free b o e n hc) (λb o hc e=>u.there b o e hc) u.mX u.lu u.mY (λm' hm=>by
  refine gb hm λo' tK tL g4 r'=>?_
  rw[ho]at g4;cases g4
  exact(pI _ tK tL hL r')) aG hg
def ak.turned{it:Addr}(I:ak X aa σ H s)(k:∀b o,b≠it->s.heap.get? b=some o->h'.get? b=some o)(hn:H it=none)(hL:it≠X.env.locals)
  (h1:it∈X.ex\/X.gZ.heap.objs.size<=it) (h2:∀x c,X.env.cells.lookup x=some c->c≠it) (h3:∀p∈X.pn++aa,p.1≠it):ak X aa σ H {s with heap:=h',toks:=t'}:=by
 have tM:∀b u,H b=some u->b≠it:=λb u e z=>by rw[z,hn]at e;cases e
 refine I.step (g':=s.gens) (d':=s.drawn) (ch:=[it]) (λb hb=>?_) (λb o _ _ hc e _=>k b o (λz=>hc (by simp[z])) e) (λb o _ _ hc e _=>⟨o.slots,k b o (λz=>hc (by simp[z])) e⟩) (λ_ _ _ _ n=>n)
  (λb o hc e=>⟨o,k b o (λz=>hc (by simp[z])) e⟩) (λ_ _ e=>e) (λ_ _ _ e=>e) (λb ps e=>⟨#[],by rw[e];simp⟩) (λm hm=>?_) (λb u e=>?_) I.bare
 ·have e:b=it:=by simpa using hb
  subst e;exact pH h1 hL h2 h3
 ·refine gb hm λo es ep ho r=>?_;exact pI o es ep (k _ o (mP hL) ho) r
 ·refine(I.aG b u e).gY (λc v hc q=>k c v ?_ q) (λ_ q=>q) λ_ _ q=>q;rcases hc with z|z
  ·rw[z];exact tM b u e
  ·exact tM c _ z
def ak.tok(I:ak X aa σ H s)(t:Nat):ak X aa σ H {s with toks:=t}:=I.un (h':=s.heap) (t':=t) Un.refl I.aG
theorem ak.kept{t':Nat}(I:ak X aa σ H s)(k:∀b u,s.heap.get? b=some u->h'.get? b=some u):ak X aa σ H {s with heap:=h',toks:=t'}:=I.un (Un.kept k) (I.aG.kept k)
theorem ak.laid{a:Addr}{o:HO}{t':Nat}(I:ak X aa σ H s)(k:∀b u,s.heap.get? b=some u->h'.get? b=some u)(hp:s.heap.objs.size<=a)(new:d9 X.prog X.w (upd H a o) h' a o):
 ak X aa σ (upd H a o) {s with heap:=h',toks:=t'}:=I.un (Un.laid k hp (I.aG.fresh hp)) (I.aG.laid k hp new)
theorem ak.write{x e:Addr}{o:HO}{t':Nat}(I:ak X aa σ H s)(mu:tG (H x))(he:e=x\/H e=some (.own x))(k:∀b u,b≠e->s.heap.get? b=some u->h'.get? b=some u)(yn:∃u,h'.get? e=some u)
 (new:d9 X.prog X.w (upd H x o) h' x o):ak X aa σ (upd H x o) {s with heap:=h',toks:=t'}:=I.un (Un.write mu he k yn) (I.aG.write mu he k yn new)
def ak.weak{σ':List (Option V)}(I:ak X aa σ H s)(hl:σ'.length=σ.length)(w:∀(i:Nat) v,σ'[i]?=some (some v)->σ[i]?=some (some v)):ak X aa σ' H s:=
 ⟨I.ok,I.os,I.bare,I.base,ar I.loc λm hn dM=>(aF m hn λi x v e1 e2 e3=>dM i x v e1 (w i v e2) e3),I.cell,I.free,I.jV,I.pin,I.aG,hl.trans I.len⟩
def ak.Ro{Rp:List (Addr×Obj)}(I:ak X aa σ H s)(h:∀p∈Rp,s.heap.get? p.1=some p.2/\H p.1=none/\p.1≠X.env.locals/\p.1∉X.fs/\∀v,p.2.data≠ .cell v):ak X Rp σ H s:=
 ⟨I.ok,I.os,I.bare,I.base,I.loc,I.cell,I.free,I.jV,λp hp=>(eO.mp hp).elim (λz=>I.pin p (hZ _ z)) (h p),I.aG,I.len⟩
def KJ{N:List Str}(hN:N.Nodup){j:Nat}(a:N[i]?=some x)(b:N[j]?=some x):i=j:=by obtain⟨h1,e1⟩:=d0.mp a;obtain⟨h2,e2⟩:=d0.mp b;exact(xM hN).mp (e1.trans e2.symm)
def Rq(I:ak X aa σ H s)(hN:X.N.Nodup)(hi:X.N[i]?=some x)(hx:tH X.env.scope x)(r:bC v u)
  (h:∀s',ak X aa (σ.set i (some v)) H s'->(∃a,Jv a s.heap s'.heap/\(a=X.env.locals\/X.env.cells.lookup x=some a))->Q () s') (hf:X.fn x=true\/X.env.scope.names.lookup x=some .local:=by first|exact .inl rfl|exact .inr rfl|assumption):aM M A (Z0 X.env x u) Q E s:=by
 refine ar (id I.loc) λm hn hl=>?_;have acU:(X.env.scope.kind== .class||(X.env.scope.kind== .module&&X.env.locals !=X.env.globals))=false:=by rw[I.ok.kind];rfl
 have Rr:i<σ.length:=by rw[I.len];exact(d0.mp hi).1
 have tJ:=I.tJ;have tracked:∀{a:Addr}{h':Heap},(∃o,s.heap.get? a=some o/\H a=none)->Jv a s.heap h'->dy X.prog X.w H h':=λ{a h'} ha hs b ob e=>by
  refine ar ha λ_ _ yw=>?_;refine(I.aG b ob e).gY (λc w' hc q=>(hs.2 c ?_).trans q) (λ_ q=>q) λ_ _ q=>q;rintro rfl;rcases hc with rfl|hc
  ·rw[yw]at e;cases e
  ·rw[yw]at hc;cases hc
 rcases hx with hk|hk
 ·refine wpAny_storeName_local hk hn (λh' Ae hs=>?_) acU;refine gb (id hn) λoL _ _ hoL _=>?_;refine h _ ⟨I.ok,I.os,I.bare,⟨λb o e n hb hx=>?_,λb o e n hb hx=>?_,I.base.free,λb o e hx=>?_,I.base.mX,I.base.lu,I.base.mY⟩,aq Ae λj y v' e1 e2 e3=>?_,λy c e=>?_,I.free,I.jV,λp hp=>?_,tracked (aF oL hoL I.free) hs,by simpa using I.len⟩ (aq hs (.inl rfl))
  ·exact(hs.2 b (gQ (eP (cR e) I.ok.above))).trans (I.base.keep b o e n hb hx)
  ·obtain⟨sl,e1⟩:=I.base.slot b o e n hb hx;exact⟨sl,(hs.2 b (gQ (eP (cR e) I.ok.above))).trans e1⟩
  ·obtain⟨o',e1⟩:=I.base.there b o e hx;exact⟨o',(hs.2 b (gQ (eP (cR e) I.ok.above))).trans e1⟩
  ·by_cases hj:j=i
   ·subst hj;rw[hi]at e1;cases e1;rw[i7 Rr]at e2;cases e2;exact aF u r (.inl ⟨hk,by simp⟩)
   ·rw[hX (mP hj)]at e2;refine ar (hl j y v' e1 e2 e3) λu' r' q=>?_;refine aF u' r' ?_;rcases q with⟨k,e⟩|⟨k,c,e,z⟩
    ·refine .inl ⟨k,?_⟩;have:y≠x:=λe=>hj (KJ hN e1 (e▸hi))
     simp[this,e]
    ·exact .inr (cg k c e (z.sameBut hs (tJ y c e)))
  ·obtain⟨w',z⟩:=I.cell y c e;exact⟨w',z.sameBut hs (tJ y c e)⟩
  ·refine fi (I.pin p hp) λe n ne nf d=>?_;exact k9 ((hs.2 p.1 ne).trans e) n ne nf d
 ·have pW:X.fn x=true:=by
   rcases hf with z|z
   ·exact z
   ·rw[z]at hk;cases hk
  obtain⟨c,hc⟩:=I.ok.has x (.inl hk);obtain⟨w',z⟩:=I.cell x c hc;refine wpAny_storeName_cell I.ok.kind hk hc z (λh' kC hs=>?_);refine ar (id z) λoc Au acW=>?_;refine h {s with heap:=h'} ⟨I.ok,I.os,I.bare,⟨λb o e n hb hx=>?_,λb o e n hb hx=>?_,I.base.free,λb o e hx=>?_,I.base.mX,I.base.lu,I.base.mY⟩,aF m (hn.sameBut hs (mP (tJ x c hc))) λj y v' e1 e2 e3=>?_,λy c' e=>?_,I.free,I.jV,λp hp=>?_,tracked (aF oc Au (I.jV x c hc)) hs,by simpa using I.len⟩ (aF c hs (.inr hc))
  ·exact(hs.2 b (gQ (eP (cR e) (I.ok.tI x c pW hc)))).trans (I.base.keep b o e n hb hx)
  ·obtain⟨sl,e1⟩:=I.base.slot b o e n hb hx;exact⟨sl,(hs.2 b (gQ (eP (cR e) (I.ok.tI x c pW hc)))).trans e1⟩
  ·obtain⟨o',e1⟩:=I.base.there b o e hx;exact⟨o',(hs.2 b (gQ (eP (cR e) (I.ok.tI x c pW hc)))).trans e1⟩
  ·by_cases hj:j=i
   ·subst hj;rw[hi]at e1;cases e1;rw[i7 Rr]at e2;cases e2;exact aF u r (.inr (cg (.inl hk) c hc kC))
   ·rw[hX (mP hj)]at e2;refine ar (hl j y v' e1 e2 e3) λu' r' q=>?_;refine aF u' r' ?_;rcases q with q|⟨k,c',e,z'⟩
    ·exact .inl q
    ·refine .inr (cg k c' e (z'.sameBut hs ?_));rintro rfl;exact hj (KJ hN e1 (I.ok.inj _ _ _ e hc▸hi))
  ·by_cases Rt:c'=c
   ·subst Rt;exact⟨_,kC⟩
   ·obtain⟨w2,z2⟩:=I.cell y c' e;exact⟨w2,z2.sameBut hs Rt⟩
  ·refine fi (I.pin p hp) λe n ne nf d=>?_;refine k9 ((hs.2 p.1 ?_).trans e) n ne nf d;intro q;rw[q,Au]at e;have q':oc=p.2:=eB e
   exact d w' (by rw[<-q'];exact acW)
def Av(I:ak X aa σ H s)(hN:X.N.Nodup)(hi:X.N[i]?=some x)(hx:tH X.env.scope x)(r:bC v u)
  (h:∀s',ak X aa (σ.set i (some v)) H s'->Q () s') (hf:X.fn x=true\/X.env.scope.names.lookup x=some .local:=by first|exact .inl rfl|exact .inr rfl|assumption):aM M A (Z0 X.env x u) Q E s:=
 Rq I hN hi hx r (λs' I' _=>h s' I') hf
def ak.KL{s':aw}(I:ak X aa σ H s)(ho:s'.os=s.os)(u:Un (ic X.stack) ch H H' s.heap s'.heap)(aG:dy X.prog X.w H' s'.heap)(hg:uL s'.gens)
  (lx:∀b∈ch,(b∈X.ex\/X.gZ.heap.objs.size<=b)/\b≠X.env.locals/\(∀x c,X.env.cells.lookup x=some c->c≠b)/\∀p∈X.pn++aa,p.1≠b):ak X aa σ H' s':=by
 obtain⟨h',g',d',t',o'⟩:=s';have e:o'=s.os:=ho
 subst e;exact I.call (g':=g') (t':=t') (d':=d') u aG hg lx
end
abbrev XK:=Value->Option Addr->Hp->Prop
abbrev St:=List (Option V)
abbrev VK:=V->Hp->Prop
abbrev TE:=St->Hp->VK->Prop
abbrev TT:=St->Hp->(Bool->Hp->Prop)->Prop
abbrev TA:=St->Hp->(List V->Hp->Prop)->Prop
structure pX where
 nx:St->Hp->Prop
 rt:VK
 bk:St->Hp->Prop:=λ_ _=>False
 ct:St->Hp->Prop:=λ_ _=>False
abbrev TS:=pX->St->Hp->Prop
def EP(X:Cx)(aa:List (Addr×Obj))(σ:St)(Q:VK)(u:Value)(s':aw):Prop:=∃v H',ak X aa σ H' s'/\bC v u/\Q v H'
def TP(X:Cx)(aa:List (Addr×Obj))(σ:St)(Q:Bool->Hp->Prop)(b:Bool)(s':aw):Prop:=∃H',ak X aa σ H' s'/\Q b H'
def AP(X:Cx)(aa:List (Addr×Obj))(σ:St)(Q:List V->Hp->Prop)(us:List Value)(s':aw):Prop:=∃vs H',ak X aa σ H' s'/\bB vs us/\Q vs H'
def SP(X:Cx)(aa:List (Addr×Obj))(D:pX)(f:Flow)(s':aw):Prop:=
 match f with
 | .next=>∃σ' H',ak X aa σ' H' s'/\D.nx σ' H'
 | .brk=>∃σ' H',ak X aa σ' H' s'/\D.bk σ' H'
 | .cont=>∃σ' H',ak X aa σ' H' s'/\D.ct σ' H'
 | .ret u=>∃v σ' H',ak X aa σ' H' s'/\bC v u/\D.rt v H'
def PE(X:Cx)(e:bf)(t:TE):Prop:=
 ∀(aa:List (Addr×Obj))(s:aw)(σ:St)(H:Hp)(Q:VK),ak X aa σ H s->t σ H Q->aM (aR X.prog X.w) X.A (eval e X.env) (EP X aa σ Q) X.xe s
def PT(X:Cx)(e:bf)(t:TT):Prop:=
 ∀(aa:List (Addr×Obj))(s:aw)(σ:St)(H:Hp)(Q:Bool->Hp->Prop),ak X aa σ H s->t σ H Q->aM (aR X.prog X.w) X.A (Jw e X.env (eval e X.env)) (TP X aa σ Q) X.xe s
def PW(X:Cx)(e:bf)(t:TT):Prop:=
 ∀(whole:Sem Value)(aa:List (Addr×Obj))(s:aw)(σ:St)(H:Hp)(Q:Bool->Hp->Prop),ak X aa σ H s->t σ H Q->aM (aR X.prog X.w) X.A (Jw e X.env whole) (TP X aa σ Q) X.xe s
def PW.pt{X:Cx}{e:bf}{t:TT}(h:PW X e t):PT X e t:=h _
def PA(X:Cx)(es:List bf)(t:TA):Prop:=
 ∀(pos:Pos)(aa:List (Addr×Obj))(s:aw)(σ:St)(H:Hp)(Q:List V->Hp->Prop),ak X aa σ H s->t σ H Q->aM (aR X.prog X.w) X.A (spliced (jI pos (cJ es X.env))) (AP X aa σ Q) X.xe s
def PS(X:Cx)(st:Stmt)(t:TS):Prop:=
 ∀(aa:List (Addr×Obj))(s:aw)(σ:St)(H:Hp)(D:pX),ak X aa σ H s->t D σ H->aM (aR X.prog X.w) X.A (exec st X.env) (SP X aa D) X.xe s
def jW(X:Cx)(st:List Stmt)(t:TS):Prop:=
 ∀(aa:List (Addr×Obj))(s:aw)(σ:St)(H:Hp)(D:pX),ak X aa σ H s->t D σ H->aM (aR X.prog X.w) X.A (execs st X.env) (SP X aa D) X.xe s
def aI{α:Type}{t:Sem α}{Q Q':α->aw->Prop}{s:aw}(h:aM M A t Q E s)(hQ:∀a s,Q a s->Q' a s):aM M A t Q' E s:=k4 h hQ λ_ _ x=>x
end
section
variable{x:Str}{pos:Pos}{E Q:Value->aw->Prop}{aa:List (Addr×Obj)}{s:aw}{σ:St}{H:Hp}{u:Value}{op:CmpOp}{t:TE}
section
variable{X:Cx}
def pY(i:Nat):TE:=λσ H Q=>∃v,σ[i]?=some (some v)/\Q v H
def tC(v:V):TE:=λ_ H Q=>Q v H
def acX{i:Nat}(hN:X.N[i]?=some x)(hv:yq X.env.scope x)(hd:(x==("__debug__":Str))=false:=by decide)(oG:(x==("__classdict__":Str))=false:=by decide):PE X (.Name x pos) (pY i):=by
 intro aa s σ H Q I h;refine ar h λv e h=>?_;refine ar I.loc λm hn hl=>?_;refine ar (hl i x v hN e hv) λu r l=>?_;have fin:EP X aa σ Q u s:=(aB v H I r h)
 rcases l with⟨hk,hm⟩|⟨hk,c,hc,D7⟩
 ·exact Z1 (auA I.ok.kind hk hn hm fin) hd
 ·rcases hk with hk|hk
  ·exact Z1 (auB I.ok.kind hk hc D7 fin) hd
  ·exact Z1 (wpAny_loadName_free I.ok.kind hk hc D7 fin oG) hd
def aS{i j pos}:PE X (.Constant (.int i) j pos) (tC (.int i)):=λ_ _ _ H _ I h=>wpAny_Constant_int (aB (.int i) H (I.tok _) ⟨_,rfl⟩ h)
def rq{b j pos}:PE X (.Constant (.bool b) j pos) (tC (.bl b)):=λ_ _ _ H _ I h=>Constant_bool (aB (.bl b) H I rfl h)
def dW{j pos}:PE X (.Constant .none j pos) (tC .aL):=λ_ _ _ H _ I h=>Z2 (aB .aL H I rfl h)
def bG{x j pos}:PE X (.Constant (.str x) j pos) (tC (.str x)):=λ_ _ _ H _ I h=>Calls.Constant_str (aB (.str x) H (I.tok _) ⟨_,rfl⟩ h)
def Gl(X:Cx)(x:Str):Prop:=X.env.kindOf x=some .globalImplicit
def vz(I:ak X aa σ H s)(hg:Gl X x)(hm:X.mg x=some u)(h:Q u s)
  (hd:(x==("__debug__":Str))=false:=by decide):aM (aR X.prog X.w) X.A (eval (.Name x pos) X.env) Q E s:=
 auC I.ok.kind hg (Calls.loadGlobal_global (by rw[I.ok.glob];exact I.mod.glob.keeps I.bk) hm h) hd
def vA(I:ak X aa σ H s)(hg:Gl X x)(hm:X.mg x=none)(hv:kg x=some u)(h:Q u s)
  (hn:x≠"__name__":=by decide) (hd:(x==("__debug__":Str))=false:=by decide):aM (aR X.prog X.w) X.A (eval (.Name x pos) X.env) Q E s:=by
 refine ar I.mod.blt λmb h1 h2=>?_;exact auC I.ok.kind hg (Calls.loadGlobal_builtin (by rw[I.ok.glob];exact I.mod.glob.keeps I.bk) hm (by rw[I.ok.blt];exact h1.keeps I.bk) ((h2 x hn).trans hv) h) hd
def KN{v:V}(hg:Gl X x)(hm:X.mg x=some u)(r:bC v u)(hd:(x==("__debug__":Str))=false:=by decide):PE X (.Name x pos) (tC v):=
 λ_ _ _ H _ I h=>vz I hg hm (aB v H I r h) hd
variable{a b:bf}{ta tb:TE}{pos:Pos}
def PC(X:Cx)(op:CmpOp)(a b:bf)(t:TE):Prop:=
 ∀(aa:List (Addr×Obj))(s:aw)(σ:St)(H:Hp)(Q:VK),ak X aa σ H s->t σ H Q->
  aM (aR X.prog X.w) X.A (eval a X.env) (λv s₁=>aM (aR X.prog X.w) X.A (eval b X.env) (λu s₂=>aM (aR X.prog X.w) X.A (jJ op v u) (EP X aa σ Q) X.xe s₂) X.xe s₁) X.xe s
def acY(b:bf)(h:op≠ .In)(h2:op≠ .NotIn):zL op b=false:=by
 have e1:(op==auD)=false:=by cases op<;>first|rfl|exact absurd rfl h
 have e2:(op==auE)=false:=by cases op<;>first|rfl|exact absurd rfl h2
 cases b<;>simp[zL,e1,e2]
def acZ(ta:TE):TE:=λσ H Q=>ta σ H λx H1=>Q (.bl (decide (x= .aL))) H1
def ac0(ta:TE):TE:=λσ H Q=>ta σ H λx H1=>Q (.bl (!decide (x= .aL))) H1
def bC.Ru{x:V}{v:Value}(r:bC x v):(v==i9)=decide (x= .aL):=by
 cases x with
 |aL=>cases r;rfl
 |bl _=>cases r;rfl
 |int _=>obtain⟨t,rfl⟩:=r;rfl
 |str _=>obtain⟨t,rfl⟩:=r;rfl
 |lr _=>obtain⟨t,rfl⟩:=r;rfl
 |yl _=>obtain⟨t,rfl⟩:=r;rfl
 |ref _=>cases r;rfl
 |ty _=>cases r;rfl
def vB{j pos'}(ha:PE X a ta):PC X .Is a (.Constant .none j pos') (acZ ta):=by intro aa s σ H Q I h;refine aI (ha aa s σ H _ I h) λv s1 ac1=>bb ac1 λx H1 I1 r1 q1=>?_;exact Z2 (is_none_gen (aB (.bl _) H1 I1 (by rw[r1.Ru];rfl) q1))
def Aw{j pos'}(ha:PE X a ta):PC X .IsNot a (.Constant .none j pos') (ac0 ta):=by intro aa s σ H Q I h;refine aI (ha aa s σ H _ I h) λv s1 KO=>bb KO λx H1 I1 r1 q1=>?_;exact Z2 (isnot_none_gen (aB (.bl _) H1 I1 (by rw[r1.Ru];rfl) q1))
def tB(t:TE):TT:=λσ H Q=>t σ H λx H1=>∃c,x= .bl c/\Q c H1
def iV(h:PC X op a b t)(h1:zL op b=false:=by first|exact acY _ (by decide) (by decide)|rfl):PT X (.Compare a [op] [b] pos) (tB t):=by intro aa s σ H Q I hw;refine auF (aI (h aa s σ H _ I hw) λv s1 h1=>aI h1 λu s2 h2=>aI h2 λc s3 ac2=>bb ac2 λx H1 I1 r1 q1=>?_) h1;refine ar q1 λd KP q=>?_;obtain rfl:=KP;cases r1;exact uM (aF H1 I1 q)
def je{e:bf}(h:PE X e t)(he:∀whole,Jw e X.env whole=(do let v<-whole;Jx e.pos;CZ [v] (truthy v)):=by intro _;rfl):PT X e (tB t):=by intro aa s σ H Q I hw;refine isTrue_plain (aI (h aa s σ H _ I hw) λv s1 ac3=>bb ac3 λx H1 I1 r1 q1=>?_) (he _);refine ar q1 λd KQ q=>?_;obtain rfl:=KQ;cases r1;exact uM (aF H1 I1 q)
variable{tA D8:TT}{rest:List bf}
def ac4(t u:TT):TT:=λσ H Q=>t σ H λc H1=>if c=true then u σ H1 Q else Q false H1
def tOr(t u:TT):TT:=λσ H Q=>t σ H λc H1=>if c=true then Q true H1 else u σ H1 Q
def ac6(t:TT):TT:=λσ H Q=>t σ H λc H1=>Q (!c) H1
def yx(ha:PT X a tA):PW X (.BoolOp .And [a] pos) tA:=by
 intro wh aa s σ H Q I h;refine isTrue_and (aI (ha aa s σ H Q I h) λc s1 e=>?_);cases c with
 |true=>exact isTrue_and_nil e
 |false=>exact e
def pZ(ha:PT X a tA):PW X (.BoolOp .Or [a] pos) tA:=by
 intro wh aa s σ H Q I h;refine isTrue_or (aI (ha aa s σ H Q I h) λc s1 e=>?_);cases c with
 |false=>exact isTrue_or_nil e
 |true=>exact e
def rA(ha:PT X a tA)(hb:PW X (.BoolOp .And (b::rest) pos) D8):PW X (.BoolOp .And (a::b::rest) pos) (ac4 tA D8):=by
 intro wh aa s σ H Q I h;refine isTrue_and (aI (ha aa s σ H _ I h) λc s1 ac7=>ar ac7 λH1 I1 q1=>?_);cases c with
 |true=>exact hb wh aa s1 σ H1 Q I1 q1
 |false=>exact aF H1 I1 q1
def l6(ha:PT X a tA)(hb:PW X (.BoolOp .Or (b::rest) pos) D8):PW X (.BoolOp .Or (a::b::rest) pos) (tOr tA D8):=by
 intro wh aa s σ H Q I h;refine isTrue_or (aI (ha aa s σ H _ I h) λc s1 ac8=>ar ac8 λH1 I1 q1=>?_);cases c with
 |true=>exact aF H1 I1 q1
 |false=>exact hb wh aa s1 σ H1 Q I1 q1
def vC(ha:PT X a tA):PT X (.UnaryOp .Not a pos) (ac6 tA):=by intro aa s σ H Q I h;exact isTrue_not (ha aa s σ H (λc H1=>Q (!c) H1) I h)
def ac9(ta tb:TE):TE:=λσ H Q=>ta σ H λx H1=>∃c,x= .bl c/\if c=true then tb σ H1 Q else Q (.bl false) H1
def ac_(ta tb:TE):TE:=λσ H Q=>ta σ H λx H1=>∃c,x= .bl c/\if c=true then Q (.bl true) H1 else tb σ H1 Q
def Rv{op}(h:PE X a t):PE X (.BoolOp op [a] pos) t:=λaa s σ H Q I hw=>BoolOp_one (h aa s σ H Q I hw)
def ada(ha:PE X a ta)(hb:PE X (.BoolOp .And (b::rest) pos) tb):PE X (.BoolOp .And (a::b::rest) pos) (ac9 ta tb):=by
 intro aa s σ H Q I h;refine BoolOp_and (aI (ha aa s σ H _ I h) λv s1 adb=>bb adb λx H1 I1 r1 q1=>?_);obtain⟨c,rfl,q1⟩:=q1;cases r1;refine uM ?_;cases c with
 |true=>exact hb aa s1 σ H1 Q I1 q1
 |false=>exact⟨.bl false,H1,I1,rfl,q1⟩
def ade(ha:PE X a ta)(hb:PE X (.BoolOp .Or (b::rest) pos) tb):PE X (.BoolOp .Or (a::b::rest) pos) (ac_ ta tb):=by
 intro aa s σ H Q I h;refine BoolOp_or (aI (ha aa s σ H _ I h) λv s1 adf=>bb adf λx H1 I1 r1 q1=>?_);obtain⟨c,rfl,q1⟩:=q1;cases r1;refine uM ?_;cases c with
 |false=>exact hb aa s1 σ H1 Q I1 q1
 |true=>exact⟨.bl true,H1,I1,rfl,q1⟩
def tIf(t:TT)(ta tb:TE):TE:=λσ H Q=>t σ H λc H1=>if c=true then ta σ H1 Q else tb σ H1 Q
def p6{c:bf}(hc:PT X c tA)(ha:PE X a ta)(hb:PE X b tb):PE X (.IfExp c a b pos) (tIf tA ta tb):=by
 intro aa s σ H Q I h;refine wpAny_IfExp (aI (hc aa s σ H _ I h) λd s1 adh=>ar adh λH1 I1 q1=>?_);cases d with
 |true=>exact ha aa s1 σ H1 Q I1 q1
 |false=>exact hb aa s1 σ H1 Q I1 q1
end
end
section
variable{x:Str}{u:Value}{K:aV}{E:Value->aw->Prop}{aa:List (Addr×Obj)}{σ:St}{H:Hp}{s:aw}{c e o tg:bf}{tc:TT}{i:Nat}{es:List bf}{to ti te:TE}{pos':Pos}{op:C5}{P:Program}{w:a9}
def ah(K:aV)(H:Hp)(a:Addr)(xs:List V):Prop:=
 Rd H a (.lst xs)\/
  ∃(o:Obj)(ay:Array Value)(n:Nat),K.lookup a=some o/\o.cls= .type "list"/\o.dict=none/\o.data= .seq ay n/\ay.size<=sizeLine/\bB xs ay.toList
def dm(K:aV)(H:Hp)(a:Addr)(xs:List V):Prop:=
 Rd H a (.tup xs)\/
  ∃(o:Obj)(ay:Array Value)(n:Nat),K.lookup a=some o/\o.cls= .type "tuple"/\o.data= .seq ay n/\ay.size<=sizeLine/\bB xs ay.toList
def adi:Value->Option V
 | .none=>some .aL
 | .bool b=>some (.bl b)
 | .int i _=>some (.int i)
 | .str x _=>some (.str x)
 | .bytes b _=>some (.lr b)
 | .float b _=>some (.yl b)
 | .ref a=>some (.ref a)
 | .type n=>some (.ty n)
 |_=>none
def bC.abs{x:V}(r:bC x u):adi u=some x:=by
 cases x with
 |aL=>cases r;rfl
 |bl _=>cases r;rfl
 |int _=>obtain⟨t,rfl⟩:=r;rfl
 |str _=>obtain⟨t,rfl⟩:=r;rfl
 |lr _=>obtain⟨t,rfl⟩:=r;rfl
 |yl _=>obtain⟨t,rfl⟩:=r;rfl
 |ref _=>cases r;rfl
 |ty _=>cases r;rfl
theorem bC.inj{x y:V}{u:Value}(r:bC x u)(q:bC y u):x=y:=eB (r.abs.symm.trans q.abs)
theorem bB.inj:∀{xs ys:List V}{us:List Value},bB xs us->bB ys us->xs=ys
 |_,_,_, .nil, .nil=>rfl
 |_,_,_, .cons r t, .cons r' t'=>by rw[r.inj r',bB.inj t t']
section
variable{X:Cx}{aa:List (Addr×Obj)}{σ:St}{H:Hp}{s:aw}{a:Addr}{xs ys:List V}
def ah.of(h:H a=some (.lst xs)):ah K H a xs:= .inl (.inl h)
def dm.of(h:H a=some (.tup xs)):dm K H a xs:= .inl (.inl h)
def ak.list(I:ak X aa σ H s)(h:ah X.K H a xs):∃ay:List Value,bB xs ay/\PlainL s.heap a ay.toArray/\xs.length<=sizeLine:=by
 rcases h with h|⟨o,ay,n,hk,hc,hd,hs,hz,r⟩
 ·refine pK (h.ok I.aG) λz ay n r e=>?_;exact aW ay r (cC _ n e rfl rfl rfl) z
 ·refine⟨ay.toList,r,⟨o,n,I.fW a o hk,hc,hd,by simpa using hs⟩,?_⟩;have e:=r.length
  simp only[Jy]at e;lia
def ak.tuple(I:ak X aa σ H s)(h:dm X.K H a xs):∃ay:List Value,bB xs ay/\IsTup s.heap a ay.toArray/\xs.length<=sizeLine:=by
 rcases h with h|⟨o,ay,n,hk,hc,hs,hz,r⟩
 ·refine iD (h.ok I.aG) λz ay r p=>?_;exact aW ay r p z
 ·refine aW ay.toList r (aW o (I.fW a o hk) hc ⟨n,by simpa using hs⟩) ?_;have e:=r.length
  simp only[Jy]at e;omega
def ak.yy(I:ak X aa σ H s)(h:ah X.K H a xs)(h':ah X.K H a ys):xs=ys:=by
 refine bc (I.list h) λay r KR _=>?_;obtain⟨o,n,e,_,_,d⟩:=KR;refine bc (I.list h') λits' r' adj _=>?_;obtain⟨o',n',e',_,_,d'⟩:=adj;rw[e]at e';cases e';rw[d]at d';injection d' with d1 _
 have:ay=its':=by simpa using congrArg auG d1
 subst this;exact r.inj r'
def ak.adk(I:ak X aa σ H s)(h:dm X.K H a xs)(h':dm X.K H a ys):xs=ys:=by
 refine bc (I.tuple h) λay r adl _=>?_;obtain⟨o,e,_,n,d⟩:=adl;refine bc (I.tuple h') λits' r' adm _=>?_;obtain⟨o',e',_,n',d'⟩:=adm;rw[e]at e';cases e';rw[d]at d';injection d' with d1 _
 have:ay=its':=by simpa using congrArg auG d1
 subst this;exact r.inj r'
end
abbrev Cx.m4(X:Cx)(E:Value->aw->Prop):Cx:={X with xe:=E}
abbrev Cx.Ax(X:Cx):Cx:=X.m4 λ_ _=>False
theorem Cx.Ok.m4{X:Cx}(ok:X.Ok)(E:Value->aw->Prop):(X.m4 E).Ok:=
 ⟨ok.mod,ok.kind,ok.glob,ok.blt,ok.above,ok.inj,ok.has,ok.tI,ok.hd,ok.frames,ok.Ao,ok.Ap,ok.bs,ok.mZ,ok.yr,ok.yt,ok.kz,ok.m3⟩
def Cx.Ok.oH{X:Cx}(ok:(X.m4 E).Ok):X.Ok:=
 ⟨ok.mod,ok.kind,ok.glob,ok.blt,ok.above,ok.inj,ok.has,ok.tI,ok.hd,ok.frames,ok.Ao,ok.Ap,ok.bs,ok.mZ,ok.yr,ok.yt,ok.kz,ok.m3⟩
section
variable{X:Cx}{aa:List (Addr×Obj)}{σ:St}{H:Hp}{s:aw}{E:Value->aw->Prop}
theorem ak.m4(I:ak X aa σ H s)(E:Value->aw->Prop):ak (X.m4 E) aa σ H s:=⟨I.ok.m4 E,I.os,I.bare,I.base,I.loc,I.cell,I.free,I.jV,I.pin,I.aG,I.len⟩
theorem ak.oH(I:ak (X.m4 E) aa σ H s):ak X aa σ H s:=⟨I.ok.oH,I.os,I.bare,I.base,I.loc,I.cell,I.free,I.jV,I.pin,I.aG,I.len⟩
theorem SP.oH{D:pX}{f:Flow}{s':aw}(h:SP (X.m4 E) aa D f s'):SP X aa D f s':=by
 cases f with
 |next=>obtain⟨σ',H',I,q⟩:=h;exact⟨σ',H',I.oH,q⟩
 |brk=>obtain⟨σ',H',I,q⟩:=h;exact⟨σ',H',I.oH,q⟩
 |cont=>obtain⟨σ',H',I,q⟩:=h;exact⟨σ',H',I.oH,q⟩
 |ret u=>obtain⟨v,σ',H',I,r,q⟩:=h;exact⟨v,σ',H',I.oH,r,q⟩
theorem jW.Ax{st:List Stmt}{t:TS}(h:jW X.Ax st t):jW X st t:=λaa s σ H D I hw=>
 k4 (h aa s σ H D (I.m4 _) hw) (λ_ _ q=>q.oH) λ_ _ z=>iA z
end
section
variable{X:Cx}{st:Stmt}{rest:List Stmt}{t u:TS}{e:bf}{te:TE}{pos:Pos}
def adn:TS:=λD σ H=>D.nx σ H
def p7(t u:TS):TS:=λD σ H=>t {D with nx:=u D} σ H
def bI:jW X [] adn:=λ_ _ σ H _ I h=>C6 (cD σ H I h)
def au(h1:PS X st t)(h2:jW X rest u):jW X (st::rest) (p7 t u):=by
 intro aa s σ H D I h;refine Z3 (aI (h1 aa s σ H {D with nx:=u D} I h) λf s1 q=>?_);cases f with
 |next=>
  obtain⟨σ',H',I',q⟩:=q;exact h2 aa s1 σ' H' D I' q
 |ret v=>exact q
 |brk=>exact q
 |cont=>exact q
def ax(h1:PS X st t):jW X [st] t:=by
 intro aa s σ H D I h;refine Z3 (aI (h1 aa s σ H D I h) λf s1 q=>?_);cases f with
 |next=>exact C6 q
 |ret v=>exact q
 |brk=>exact q
 |cont=>exact q
def ado:TS:=λD σ H=>D.ct σ H
def KS:PS X (.Continue pos) ado:=λ_ _ σ H _ I h=>wpAny_Continue (cD σ H I h)
def ak.quiet(I:ak X aa σ H s):auH X.env=false:=by simp[auH,I.ok.kind]
def Rw(te:TE):TS:=λD σ H=>te σ H λ_ H1=>D.nx σ H1
def fJ(he:PE X e te)(hs:sE e none pos.line X.env=pure false:=by rfl):PS X (.Expr e pos) (Rw te):=by intro aa s σ H D I h;exact wpAny_Expr_any (aI (he aa s σ H _ I h) λv s1 adp=>bb adp λx H1 I1 r1 q1=>cD σ H1 I1 q1) I.quiet hs
def Rx(te:TE):TS:=λD σ H=>te σ H D.rt
def aQ(he:PE X e te):PS X (.Return (some e) pos) (Rx te):=by intro aa s σ H D I h;exact wpAny_Return_some (aI (he aa s σ H _ I h) λv s1 adq=>bb adq λx H1 I1 r1 q1=>fQ x σ H1 I1 r1 q1)
def Ry:TS:=λD _ H=>D.rt .aL H
def ads:PS X (.Return none pos) Ry:=λ_ _ σ H _ I h=>wpAny_Return_none (fQ .aL σ H I rfl h)
def Rz(c:TT)(t u:TS):TS:=λD σ H=>c σ H λb H1=>if b=true then t D σ H1 else u D σ H1
def bx{a b:List Stmt}(hc:PT X c tc)(ha:jW X a t)(hb:jW X b u):PS X (.If c a b pos) (Rz tc t u):=by
 intro aa s σ H D I h;refine wpAny_If (aI (hc aa s σ H _ I h) λd s1 adt=>ar adt λH1 I1 q1=>?_);cases d with
 |true=>exact ha aa s1 σ H1 D I1 q1
 |false=>exact hb aa s1 σ H1 D I1 q1
end
abbrev TG:=V->St->Hp->(St->Hp->Prop)->Prop
abbrev vD:=List V->St->Hp->(St->Hp->Prop)->Prop
def PG(X:Cx)(target:bf)(t:TG):Prop:=
 ∀(aa:List (Addr×Obj))(s:aw)(σ:St)(H:Hp)(v:V)(u:Value)(Q:St->Hp->Prop),ak X aa σ H s->bC v u->t v σ H Q->
  aM (aR X.prog X.w) X.A (zM target X.env u) (λ_ s'=>∃σ' H',ak X aa σ' H' s'/\Q σ' H') X.xe s
def D9(X:Cx)(ts:List bf)(t:vD):Prop:=
 ∀(aa:List (Addr×Obj))(s:aw)(σ:St)(H:Hp)(vs:List V)(us:List Value)(Q:St->Hp->Prop),ak X aa σ H s->bB vs us->t vs σ H Q->
  aM (aR X.prog X.w) X.A (assignInOrder ((C7 ts X.env).map (·.2)) us) (λ_ s'=>∃σ' H',ak X aa σ' H' s'/\Q σ' H') X.xe s
abbrev Ay:=V->V->V->Hp->(Hp->Prop)->Prop
def KU(X:Cx)(t:Ay):Prop:=
 ∀(aa:List (Addr×Obj))(s:aw)(σ:St)(H:Hp)(o i v:V)(ov iv u:Value)(Q:Hp->Prop),ak X aa σ H s->bC o ov->bC i iv->bC v u->t o i v H Q->
  aM (aR X.prog X.w) X.A (O2 ov iv u) (λ_ s'=>∃H',ak X aa σ H' s'/\Q H') X.xe s
abbrev yz:=V->V->Hp->VK->Prop
def KW(X:Cx)(op:C5)(t:yz):Prop:=
 ∀(aa:List (Addr×Obj))(s:aw)(σ:St)(H:Hp)(x y:V)(v u:Value)(Q:VK),ak X aa σ H s->bC x v->bC y u->t x y H Q->
  aM (aR X.prog X.w) X.A (xS op v u) (EP X aa σ Q) X.xe s
section
variable{X:Cx}{pos:Pos}
def m7(i:Nat):TG:=λv σ H Q=>Q (σ.set i (some v)) H
def adu(hN:X.N.Nodup)(hi:X.N[i]?=some x)(hx:tH X.env.scope x)(hf:X.fn x=true\/X.env.scope.names.lookup x=some .local:=by first|exact .inl rfl|exact .inr rfl|assumption):PG X (.Name x pos) (m7 i):=by intro aa s σ H v u Q I r h;exact auI (Av I hN hi hx r (λs' I'=>cD _ H I' h) hf)
def RA:vD:=λvs σ H Q=>vs=[]/\Q σ H
def KY(t:TG)(u:vD):vD:=λvs σ H Q=>∃v r,vs=v::r/\t v σ H λσ' H'=>u r σ' H' Q
def oJ:D9 X [] RA:=by intro aa s σ H vs us Q I r h;obtain⟨e,h⟩:=h;subst e;cases r;exact assignInOrder_nil (cD σ H I h)
def g5{t:TG}{u:vD}(h1:PG X e t)(h2:D9 X es u)
  (hs:(C7 (e::es) X.env).map (·.2)=zM e X.env::(C7 es X.env).map (·.2):=by rfl):D9 X (e::es) (KY t u):=by
 intro aa s σ H vs us Q I r h;obtain⟨v,vr,e1,h⟩:=h;subst e1;cases r with
 |cons r rr=>
  rw[hs];refine assignInOrder_cons (aI (h1 aa s σ H _ _ _ I r h) λ_ s1 adv=>bZ adv λσ1 H1 I1 q1=>?_);exact h2 aa s1 σ1 H1 _ _ Q I1 rr q1
def RB(K:aV)(n:Nat)(t:vD):TG:=λv σ H Q=>∃a xs,v= .ref a/\dm K H a xs/\xs.length=n/\t xs σ H Q
def oK{k:Nat}{t:vD}{n:Nat}(hc:X.calm=true)(h:D9 X es t)
  (hn:(C7 es X.env).length=n:=by rfl) (kD:(C7 es X.env).findIdx? (·.1)=none:=by rfl):PG X (.Tuple es k pos) (RB X.K n t):=by
 intro aa s σ H v u Q I r hw;obtain⟨a,xs,e1,hq,hl,hw⟩:=hw;subst e1;cases r;obtain⟨ay,rv,ht,hz⟩:=I.tuple hq;refine assign_Tuple_tuple (I.ok.hd hc) ht (by simp[hn,<-hl,rv.length]) kD λh' hx=>?_;have I1:ak X aa σ H {s with heap:=h'}:=I.kept (t':=s.toks) λb o e=>hx b o (gQ (cR e)) e
 exact h aa _ σ H xs _ Q I1 (by simpa using rv) hw
def adw(to ti:TE)(t:Ay):TG:=λv σ H Q=>to σ H λo H1=>ti σ H1 λi H2=>t o i v H2 λH3=>Q σ H3
def tN{i:bf}{t:Ay}(ho:PE X o to)(hi:PE X i ti)(hs:KU X t)
  (ha:∀v,zM (.Subscript o i pos) X.env v=(do
   let ov<-CZ [v] (eval o X.env)
   let iv<-CZ [v,ov] (eval i X.env)
   Jx pos
   CZ [v,ov,iv] (O2 ov iv v)
   release [v,ov,iv] []):=by intro _;rfl):PG X (.Subscript o i pos) (adw to ti t):=by
 intro aa s σ H v u Q I r h;rw[ha];refine cv (O3 (aI (ho aa s σ H _ I h) λov s1 adx=>bb adx λx H1 I1 r1 q1=>?_));refine cv (O3 (aI (hi aa s1 σ H1 _ I1 q1) λiv s2 ady=>bb ady λy H2 I2 r2 q2=>?_));refine cv (C8 (cv (O3 (aI (hs aa s2 σ H2 x y v ov iv u _ I2 r1 r2 r q2) λ_ s3 adz=>ar adz λH3 I3 q3=>?_))));exact wpAny_release (cD σ H3 I3 q3)
def Ea(te:TE)(g:TG):TS:=λD σ H=>te σ H λx H1=>g x σ H1 D.nx
def tO{g:TG}(he:PE X e te)(hg:PG X tg g)(hs:swapsWithSole [tg] e pos.line X.env=pure false:=by rfl)(hw:swappedStores [tg] e X.env=pure none:=by rfl)
  (h1:(C7 [tg] X.env).map (·.2)=[zM tg X.env]:=by rfl):PS X (.Assign [tg] e pos) (Ea te g):=by
 intro aa s σ H D I h;refine wpAny_Assign_stores (aI (he aa s σ H _ I h) λv s1 adA=>bb adA λx H1 I1 r1 q1=>?_) hs hw;rw[h1];exact aI (hg aa s1 σ H1 x v _ I1 r1 q1) λ_ s2 q=>q
def adB(hN:X.N.Nodup)(hi:X.N[i]?=some x)(hx:tH X.env.scope x)(he:PE X e te)(hs:sE e (some (.Name x pos')) pos.line X.env=pure false:=by rfl)(hf:X.fn x=true\/X.env.scope.names.lookup x=some .local:=by first|exact .inl rfl|exact .inr rfl|assumption):
  PS X (.Assign [.Name x pos'] e pos) (Ea te (m7 i)):=by
 intro aa s σ H D I h;refine auJ (aI (he aa s σ H _ I h) λv s1 adC=>bb adC λy H1 I1 r1 q1=>?_) hs;exact Av I1 hN hi hx r1 (λs2 I2=>cD _ H1 I2 q1) hf
def KZ(i:Nat)(te:TE)(ti:yz):TS:=λD σ H=>∃x,σ[i]?=some (some x)/\te σ H λy H1=>ti x y H1 λz H2=>D.nx (σ.set i (some z)) H2
def adD{ti:yz}(hN:X.N.Nodup)(hi:X.N[i]?=some x)(hx:tH X.env.scope x)(he:PE X e te)(ho:KW X op ti)(hf:X.fn x=true\/X.env.scope.names.lookup x=some .local:=by first|exact .inl rfl|exact .inr rfl|assumption):
  PS X (.AugAssign (.Name x pos') op e pos) (KZ i te ti):=by
 intro aa s σ H D I h;refine ar h λv e1 h=>?_;refine ar I.loc λm hn hl=>?_;have vis:yq X.env.scope x:=by rcases hx with k|k;exact .inl k;exact .inr (.inl k)
 refine ar (hl i x v hi e1 vis) λu r l=>?_;refine wpAny_AugAssign_Name ?_;have go:aM (aR X.prog X.w) X.A (eval e X.env) (λw s₂=>aM (aR X.prog X.w) X.A (xS op u w) (λr s₃=>aM (aR X.prog X.w) X.A (Z0 X.env x r) (λ_=>SP X aa D .next) X.xe s₃) X.xe s₂) X.xe s:=by refine aI (he aa s σ H _ I h) λw s1 adF=>bb adF λy H1 I1 r1 q1=>?_;refine aI (ho aa s1 σ H1 v y u w _ I1 r r1 q1) λz s2 adG=>bb adG λzv H2 I2 r2 q2=>?_;exact Av I2 hN hi hx r2 (λs3 I3=>cD _ H2 I3 q2) hf
 rcases l with⟨hk,hm⟩|⟨hk,c,hc,D7⟩
 ·exact auA I.ok.kind hk hn hm go
 ·rcases hk with hk|hk
  ·exact auB I.ok.kind hk hc D7 go
  ·rcases hx with k|k
   ·have:X.env.scope.names.lookup x=some .free:=hk;rw[k]at this;cases this
   ·have:X.env.scope.names.lookup x=some .free:=hk;rw[k]at this;cases this
def adH(to ti te:TE)(Eb:V->V->Hp->VK->Prop)(Ec:yz)(Ed:Ay):TS:=λD σ H=>to σ H λo H1=>ti σ H1 λi H2=>Eb o i H2 λx H3=>te σ H3 λy H4=>Ec x y H4 λz H5=>Ed o i z H5 λH6=>D.nx σ H6
def RC(X:Cx)(t:V->V->Hp->VK->Prop):Prop:=
 ∀(aa:List (Addr×Obj))(s:aw)(σ:St)(H:Hp)(o i:V)(ov iv:Value)(Q:VK),ak X aa σ H s->bC o ov->bC i iv->t o i H Q->
  aM (aR X.prog X.w) X.A (zN ov iv) (EP X aa σ Q) X.xe s
def Ee{i:bf}{Eb:V->V->Hp->VK->Prop}{Ec:yz}{Ed:Ay}{kE:Pos}(ho:PE X o to)(hi:PE X i ti)(hg:RC X Eb)(he:PE X e te)(hp:KW X op Ec)(hs:KU X Ed)
  (ha:∀ov iv new,augStore i ov iv new=(do CZ [new,ov,iv] (O2 ov iv new);release [new,ov,iv] [];pure .next):=by intros;rfl):PS X (.AugAssign (.Subscript o i kE) op e pos) (adH to ti te Eb Ec Ed):=by
 intro aa s σ H D I h;refine wpAny_AugAssign_SubscriptAny (aI (ho aa s σ H _ I h) λov s1 adI=>bb adI λx1 H1 I1 r1 q1=>?_) ha;refine aI (hi aa s1 σ H1 _ I1 q1) λiv s2 adJ=>bb adJ λx2 H2 I2 r2 q2=>?_;refine aI (hg aa s2 σ H2 x1 x2 ov iv _ I2 r1 r2 q2) λold s3 adK=>bb adK λx3 H3 I3 r3 q3=>?_;refine aI (he aa s3 σ H3 _ I3 q3) λv s4 adL=>bb adL λx4 H4 I4 r4 q4=>?_;refine aI (hp aa s4 σ H4 x3 x4 old v _ I4 r3 r4 q4) λnew s5 adM=>bb adM λx5 H5 I5 r5 q5=>?_;exact aI (hs aa s5 σ H5 x1 x2 x5 ov iv new _ I5 r1 r2 r5 q5) λ_ s6 adN=>ar adN λH6 I6 q6=>cD σ H6 I6 q6
end
section
variable{X:Cx}{pos:Pos}
def adO(c:TT)(tb:TS):TS:=λD σ H=>∃W:Nat->St->Hp->Prop,(∃m,W m σ H)/\∀m σ H,W m σ H->
 c σ H λb H1=>if b=true then∃N:St->Hp->Prop,(∀σ' H',N σ' H'->∃m',m'<m/\W m' σ' H')/\tb {D with nx:=N,ct:=N,bk:=D.nx} σ H1 else D.nx σ H1
def Az{body:List Stmt}{tb:TS}(hp:PassesOwn (aR X.prog X.w) X.A X.env X.xe)(hc:PT X c tc)(hb:jW X body tb):PS X (.While c body [] pos) (adO tc tb):=by
 intro aa s σ H D I h;refine ar h λW adP turn=>?_;obtain⟨m0,w0⟩:=adP;refine wpAny_While (codeAny_whileLoop (λn s'=>∃σ' H',ak X aa σ' H' s'/\W n σ' H') ?_ m0 (cD σ H I w0));rintro n s1 ⟨σ1,H1,I1,w1⟩;refine zO hp (aI (hc aa s1 σ1 H1 _ I1 (turn n σ1 H1 w1)) λb s2 adQ=>ar adQ λH2 I2 q2=>?_);cases b with
 |true=>
  refine ar q2 λN hN q2=>?_;rw[if_pos rfl];refine zO hp (aI (hb aa s2 σ1 H2 _ I2 q2) λf s3 q3=>?_);cases f with
  |next=>
   obtain⟨σ3,H3,I3,n3⟩:=q3;obtain⟨m',hm,w3⟩:=hN σ3 H3 n3;exact⟨m',hm,σ3,H3,I3,w3⟩
  |cont=>
   obtain⟨σ3,H3,I3,n3⟩:=q3;obtain⟨m',hm,w3⟩:=hN σ3 H3 n3;exact⟨m',hm,σ3,H3,I3,w3⟩
  |brk=>exact q3
  |ret v=>exact q3
 |false=>
  rw[if_neg gq];exact C6 (cD σ1 H2 I2 q2)
end
structure It where
 go:Nat->Hp->Prop
 iH:Nat->Hp->V->Hp->Prop
 stop:Nat->Hp->Prop
def m8(X:Cx)(aa:List (Addr×Obj))(H:Hp)(b:Addr):Prop:=
 H b=none/\b≠X.env.locals/\b∉X.fs/\(b∈X.ex\/X.gZ.heap.objs.size<=b)/\(∀x c,X.env.cells.lookup x=some c->c≠b)/\∀p∈X.pn++aa,p.1≠b
def ak.tP{X:Cx}{H':Hp}{b:Addr}(I:ak X aa σ H s)(hb:s.heap.objs.size<=b)(hn:H' b=none):m8 X aa H' b:=by
 refine⟨hn,zP (eP I.lt hb),I.acT hb, .inr (i8 I.sz hb),λx c e z=>?_,λp hp z=>?_⟩
 ·obtain⟨v,q⟩:=I.cell x c e;exact absurd (eP q.lt (by rw[z];exact hb)) (qM _)
 ·exact absurd (eP (cR (I.pin p hp).1) (by rw[z];exact hb)) (qM _)
structure oM (P:Program) (w:a9) (K:aV) (tg:bf) (J:It) (fp:List Addr) (it:Addr) (tn:Nat->Heap->Prop):Prop where
 mem:it∈fp
 obj:∀i h,tn i h->∀b∈fp,∃o,h.get? b=some o/\∀v,o.data≠ .cell v
 keep:∀i h h',tn i h->(∀b∈fp,∀o,h.get? b=some o->h'.get? b=some o)->tn i h'
 item:∀(X:Cx),X.prog=P->X.w=w->X.K=K->X.calm=true->∀(i:Nat)(aa:List (Addr×Obj))(s:aw)(σ:St)(H:Hp)(E:Value->aw->Prop),ak X aa σ H s->(∀b∈fp,m8 X aa H b)->tn i s.heap->J.go i H->
  aM (aR P w) X.A (Jz (.ref it)) (λr s1=>∃u,r=some u/\
   aM (aR P w) X.A (O4 tg (.ref it) u) (λ_ s2=>∃x H',ak X aa σ H' s2/\bC x u/\J.iH i H x H'/\tn (i+1) s2.heap/\∀b∈fp,H' b=none) E s1) E s
 done:∀(X:Cx),X.prog=P->X.w=w->X.K=K->X.calm=true->∀(i:Nat)(aa:List (Addr×Obj))(s:aw)(σ:St)(H:Hp)(E:Value->aw->Prop),ak X aa σ H s->(∀b∈fp,m8 X aa H b)->tn i s.heap->J.stop i H->
  aM (aR P w) X.A (Jz (.ref it)) (λr s1=>r=none/\ak X aa σ H s1) E s
 self:∀(A:cX)(i:Nat)(s:aw)(Q:Value->aw->Prop)(E:Value->aw->Prop),tn i s.heap->Q (.ref it) s->aM (aR P w) A (JA (.ref it)) Q E s
abbrev TI:=St->Hp->(It->Hp->Prop)->Prop
def Ef(X:Cx)(aa:List (Addr×Obj))(σ:St)(tg:bf)(R:It->Hp->Prop)(K0:Value)(s2:aw):Prop:=
 ∃(it:Addr)(fp:List Addr)(tn:Nat->Heap->Prop)(J:It)(H':Hp),K0= .ref it/\ak X aa σ H' s2/\oM X.prog X.w X.K tg J fp it tn/\tn 0 s2.heap/\(∀b∈fp,m8 X aa H' b)/\R J H'
def PI(X:Cx)(tg iter:bf)(wi:TI):Prop:=
 ∀(aa:List (Addr×Obj))(s:aw)(σ:St)(H:Hp)(R:It->Hp->Prop),ak X aa σ H s->wi σ H R->
  aM (aR X.prog X.w) X.A (eval iter X.env) (λv s1=>aM (aR X.prog X.w) X.A (JA v) (Ef X aa σ tg R) X.xe s1) X.xe s
def AA{M:zK}{A:cX}{it:Addr}{o:Obj}{n:String}{vs:Array Value}{Q:Unit->aw->Prop}(ho:s.heap.get? it=some o)(hc:o.cls= .type n)(hd:o.data= .fields vs)
  (hn:["enumerate","zip","dict_itemiterator","dict_reverseitemiterator","odict_iterator","itertools.zip_longest","itertools.pairwise"].contains n=false) (hQ:Q () s):aM M A (O4 tg (.ref it) u) Q E s:=by
 unfold O4;cases tg<;>first
  |exact eQ hQ
  |(cases u<;>first
   |exact eQ hQ
   |(refine cv (wpAny_load ho ?_)
     rw[hc,hd]
     show aM M A (if(["enumerate","zip","dict_itemiterator","dict_reverseitemiterator","odict_iterator","itertools.zip_longest","itertools.pairwise"].contains n&&vs[0]?==some (sF _))=true then _ else _) Q E s
     rw[if_neg (by intro h;rw[hn,O5]at h;cases h)]
     exact eQ hQ))
def tQ(K:aV)(a:Addr):It:=
 ⟨λi H=>∃xs x,ah K H a xs/\xs[i]?=some x,λi H x H'=>H'=H/\∀xs,ah K H a xs->xs[i]?=some x,λi H=>∃xs,ah K H a xs/\xs.length<=i⟩
def tR(K:aV)(a:Addr):It:=
 ⟨λi H=>∃xs x,dm K H a xs/\xs[i]?=some x,λi H x H'=>H'=H/\∀xs,dm K H a xs->xs[i]?=some x,λi H=>∃xs,dm K H a xs/\xs.length<=i⟩
def rB(lo:Int)(n:Nat):It:=⟨λi _=>i<n,λi H x H'=>H'=H/\x= .int (lo+i),λi _=>n<=i⟩
def adR(a it:Addr):oM P w K tg (tQ K a) [it] it (λi h=>h.IsListIter it a i)where
 mem:=by simp
 obj:=λi h st b hb=>by
  have e:b=it:=by simpa using hb
  subst e;refine bc st λo e c d=>?_;exact aF o e λv z=>by rw[d]at z;cases z
 keep:=λi h h' st k=>st.at λo e=>k it (by simp) o e
 item:=by
  intro X hP hw hK hc i aa s σ H E I hf st hg;subst hP hw hK;refine bZ hg λxs x hq hx=>?_;refine bc (I.list hq) λay rv p hz=>?_;refine ar (rv.get hx) λu hu ru=>?_;refine iR (hf it (by simp)) λf0 f1 f2 f3 f4 f5=>?_;refine wpAny_pyNext_list_item st p.isList (x:=u) (by simpa using hu) λh' kF sb=>?_;have I1:ak X aa σ H {s with heap:=h'}:=I.turned (t':=s.toks) (λb o hb e=>(sb.2 b hb).trans e) f0 f1 f3 f4 f5
  refine bc (id kF) λo e c d=>?_;exact aF u rfl (AA (s:={s with heap:=h'}) e c d (by decide) (gU x H I1 ru ⟨rfl,λys hy=>by rw[I.yy hy hq];exact hx⟩ kF λb hb=>(hf b hb).1))
 done:=by
  intro X hP hw hK hc i aa s σ H E I hf st hg;subst hP hw hK;refine ar hg λxs hq hx=>?_;refine bc (I.list hq) λay rv p hz=>?_;refine iR (hf it (by simp)) λf0 f1 f2 f3 f4 f5=>?_;have hl:=rv.length
  exact wpAny_pyNext_list_end (I.ok.hd hc) st p.isList (by simp;lia) λh' eb=>⟨rfl,I.turned (t':=s.toks) (λb o hb e=>eb b o hb e) f0 f1 f3 f4 f5⟩
 self:=λ_ _ _ _ _ st h=>wpAny_pyIter_listiter st h
def adS(a it:Addr):oM P w K tg (tR K a) [it] it (λi h=>h.IsTupleIter it a i)where
 mem:=by simp
 obj:=λi h st b hb=>by
  have e:b=it:=by simpa using hb
  subst e;refine bc st λo e c d=>?_;exact aF o e λv z=>by rw[d]at z;cases z
 keep:=λi h h' st k=>st.at λo e=>k it (by simp) o e
 item:=by
  intro X hP hw hK hc i aa s σ H E I hf st hg;subst hP hw hK;refine bZ hg λxs x hq hx=>?_;refine bc (I.tuple hq) λay rv p hz=>?_;refine ar (rv.get hx) λu hu ru=>?_;refine iR (hf it (by simp)) λf0 f1 f2 f3 f4 f5=>?_;refine wpAny_pyNext_tuple_item st (show s.heap.IsTuple a ay.toArray from p) (x:=u) (by simpa using hu) λh' kF sb=>?_;have I1:ak X aa σ H {s with heap:=h'}:=I.turned (t':=s.toks) (λb o hb e=>(sb.2 b hb).trans e) f0 f1 f3 f4 f5
  refine bc (id kF) λo e c d=>?_;exact aF u rfl (AA (s:={s with heap:=h'}) e c d (by decide) (gU x H I1 ru ⟨rfl,λys hy=>by rw[I.adk hy hq];exact hx⟩ kF λb hb=>(hf b hb).1))
 done:=by
  intro X hP hw hK hc i aa s σ H E I hf st hg;subst hP hw hK;refine ar hg λxs hq hx=>?_;refine bc (I.tuple hq) λay rv p hz=>?_;refine iR (hf it (by simp)) λf0 f1 f2 f3 f4 f5=>?_;have hl:=rv.length
  exact wpAny_pyNext_tuple_end (I.ok.hd hc) st (show s.heap.IsTuple a ay.toArray from p) (by simp;omega) λh' eb=>⟨rfl,I.turned (t':=s.toks) (λb o hb e=>eb b o hb e) f0 f1 f3 f4 f5⟩
 self:=λ_ _ _ _ _ st h=>wpAny_pyIter_tupleiter st h
def adT(it:Addr)(lo:Int)(n:Nat):oM P w K tg (rB lo n) [it] it (λi h=>auK h it (lo+(i:Nat)*1) ((n:Int)-(i:Nat)) 1)where
 mem:=by simp
 obj:=λi h st b hb=>by
  have e:b=it:=by simpa using hb
  subst e;exact aq st λv z=>by have z':Data.fields _=Data.cell v:=z;cases z'
 keep:=λi h h' st k=>k it (by simp) _ st
 item:=by
  intro X hP hw hK hc i aa s σ H E I hf st hg;subst hP hw hK;refine iR (hf it (by simp)) λf0 f1 f2 f3 f4 f5=>?_;have W:=Walks.range (prog:=X.prog) (w:=X.w) (I.ok.hd hc) it lo 1 n
  refine W.item i s _ _ hg st λv h' tk hv kF kk=>?_;obtain⟨t,rfl⟩:=hv;have I1:ak X aa σ H {s with heap:=h',toks:=tk}:=I.turned (λb o hb e=>kk b o (by simpa using hb) e) f0 f1 f3 f4 f5
  refine aq rfl (AA (s:={s with heap:=h',toks:=tk}) (n:="range_iterator") kF rfl rfl (by decide) (gU (.int (lo+i)) H I1 ⟨t,?_⟩ ⟨rfl,rfl⟩ kF λb hb=>(hf b hb).1));rw[Int.mul_one]
 done:=by intro X hP hw hK hc i aa s σ H E I hf st hg;subst hP hw hK;refine iR (hf it (by simp)) λf0 f1 f2 f3 f4 f5=>?_;exact wpAny_pyNext_range_end (I.ok.hd hc) st (by have:n<=i:=hg;lia) λh' eb=>⟨rfl,I.turned (t':=s.toks) (λb o hb e=>eb b o hb e) f0 f1 f3 f4 f5⟩
 self:=λ_ _ _ _ _ st h=>wpAny_pyIter_rangeiter st h
end
section
variable{aa:List (Addr×Obj)}{σ:St}{H:Hp}{s:aw}{lo:Int}{a:Addr}{pos:Pos}{fp:List Addr}{h:Heap}{g:TG}{tb:TS}{K:aV}{xs:List V}{D:pX}
section
variable{X:Cx}{tg:bf}
def adU(K:aV)(tl:TE):TI:=λσ H R=>tl σ H λx H1=>∃a,x= .ref a/\(∃xs,ah K H1 a xs)/\R (tQ K a) H1
def RD(K:aV)(tl:TE):TI:=λσ H R=>tl σ H λx H1=>∃a,x= .ref a/\(∃xs,dm K H1 a xs)/\R (tR K a) H1
def kG{l:bf}{tl:TE}(hl:PE X l tl):PI X tg l (adU X.K tl):=by
 intro aa s σ H R I h;refine aI (hl aa s σ H _ I h) λv s1 adV=>bb adV λx H1 I1 r1 q1=>?_;refine bc q1 λa e adW q=>?_;obtain⟨xs,hq⟩:=adW;subst e;cases r1;refine bc (I1.list hq) λay rv p hz=>?_;refine JB p.isList ?_;refine⟨s1.heap.objs.size,[s1.heap.objs.size],_,_,H1,rfl,I1.kept (t':=s1.toks) λb o e=>fc _ e,adR a _,aW _ (h7 _ rfl) rfl rfl,λb hb=>?_,q⟩;have e:b=s1.heap.objs.size:=by simpa using hb
 subst e;exact I1.tP (aX _) (I1.aG.fresh (aX _))
def yA{l:bf}{tl:TE}(hl:PE X l tl):PI X tg l (RD X.K tl):=by
 intro aa s σ H R I h;refine aI (hl aa s σ H _ I h) λv s1 adX=>bb adX λx H1 I1 r1 q1=>?_;refine bc q1 λa e adY q=>?_;obtain⟨xs,hq⟩:=adY;subst e;cases r1;refine bc (I1.tuple hq) λay rv p hz=>?_;refine wpAny_pyIter_tuple (show s1.heap.IsTuple a ay.toArray from p) ?_;refine⟨s1.heap.objs.size,[s1.heap.objs.size],_,_,H1,rfl,I1.kept (t':=s1.toks) λb o e=>fc _ e,adS a _,aW _ (h7 _ rfl) rfl rfl,λb hb=>?_,q⟩;have e:b=s1.heap.objs.size:=by simpa using hb
 subst e;exact I1.tP (aX _) (I1.aG.fresh (aX _))
def adZ{R:It->Hp->Prop}{E:Value->aw->Prop}{hi:Int}{t u v:Tok}{tk:Nat}(I:ak X aa σ H s)(h1:-(2^62)<=lo)(h2:lo<2^62)(h3:-(2^62)<=hi)(h4:hi<2^62)
  (q:R (rB lo (hi-lo).toNat) H):aM (aR X.prog X.w) X.A (JA (.ref s.heap.objs.size)) (Ef X aa σ tg R) E {s with heap:=s.heap.push {cls:= .type "range",data:= .fields #[.int lo t, .int hi u, .int 1 v]},toks:=tk}:=by
 refine wpAny_pyIter_range (IsRange.new ..) (small_one h1 h2 h3 h4) ?_;have I1:ak X aa σ H {s with heap:=s.heap.push {cls:= .type "range",data:= .fields #[.int lo t, .int hi u, .int 1 v]},toks:=tk}:=I.kept λb o e=>fc _ e
 refine⟨(s.heap.push {cls:= .type "range",data:= .fields #[.int lo t, .int hi u, .int 1 v]}).objs.size,[(s.heap.push {cls:= .type "range",data:= .fields #[.int lo t, .int hi u, .int 1 v]}).objs.size],_,_,H,rfl,I1.kept (t':=tk) λb o e=>fc _ e,adT _ lo (hi-lo).toNat,?_,λb hb=>?_,q⟩
 ·have e1:lo+((0:Nat):Int)*1=lo:=by simp
  have e2:(((hi-lo).toNat:Nat):Int)-((0:Nat):Int)=axf lo hi 1:=by rw[auL];split<;>lia
  show auK _ _ (lo+((0:Nat):Int)*1) ((((hi-lo).toNat:Nat):Int)-((0:Nat):Int)) 1;rw[e1,e2];exact h7 _ rfl
 ·have e:b=(s.heap.push {cls:= .type "range",data:= .fields #[.int lo t, .int hi u, .int 1 v]}).objs.size:=by simpa using hb
  subst e;exact I1.tP (aX _) (I1.aG.fresh (aX _))
def ad0(ta:TA):TI:=λσ H R=>ta σ H λvs H1=>∃j:Int,vs=[.int j]/\-(2^62)<=j/\j<2^62/\R (rB 0 j.toNat) H1
def Eg{a:bf}{ta:TA}{p:Pos}(hg:Gl X "range")(hm:X.mg "range"=none)(ha:PA X [a] ta)(hs:cJ [a] X.env=[(false,eval a X.env)]:=by rfl):PI X tg (.Call (.Name "range" p) [a] [] pos) (ad0 ta):=by
 intro aa s σ H R I h;refine O6 (vA I hg hm boot_range (JC (aI (ha pos aa s σ H _ I h) λus s1 ad1=>bb ad1 λvs H1 I1 r1 q1=>?_) hs rfl));obtain⟨j,e,q1,q2,q⟩:=q1;subst e;cases r1 with
 |cons r rr=>
  cases rr;obtain⟨t,rfl⟩:=r;exact auM (adZ I1 (by omega) (by omega) q1 q2 (by simpa using q))
def RE(wi:TI)(g:TG)(tb:TS):TS:=λD σ H=>wi σ H λJ H1=>∃W:Nat->Nat->St->Hp->Prop,(∃m,W 0 m σ H1)/\∀i m σ H,W i m σ H->
 (J.stop i H/\D.nx σ H)\/(J.go i H/\∃N:St->Hp->Prop,(∀σ' H',N σ' H'->∃m',m'<m/\W (i+1) m' σ' H')/\∀x H',J.iH i H x H'->g x σ H' λσ2 H2=>tb {D with nx:=N,ct:=N,bk:=D.nx} σ2 H2)
def AB(fp:List Addr)(h:Heap):List (Addr×Obj):=fp.filterMap λb=>(h.get? b).map λo=>(b,o)
def K1{b:Addr}{o:Obj}(hb:b∈fp)(e:h.get? b=some o):(b,o)∈AB fp h:=CT.mpr ⟨b,hb,by rw[e];rfl⟩
def ad2{p:Addr×Obj}(hp:p∈AB fp h):p.1∈fp/\h.get? p.1=some p.2:=by
 refine ar (CT.mp hp) λb hb e=>?_;cases q:h.get? b with
 |none=>rw[q]at e;cases e
 |some o=>
  rw[q]at e;have e':(b,o)=p:=eB e
  subst e';exact⟨hb,q⟩
def ak.pinned(I:ak X aa σ H s)(hf:∀b∈fp,m8 X aa H b)(ho:∀b∈fp,∃o,s.heap.get? b=some o/\∀v,o.data≠ .cell v):ak X (aa++AB fp s.heap) σ H s:=
 I.Ro λp hp=>(eO.mp hp).elim (λz=>I.pin p (iz _ z)) λz=>by obtain⟨hb,e⟩:=ad2 z;refine fz (hf p.1 hb) λf0 f1 f2 _=>?_;refine ar (ho p.1 hb) λo e' d=>?_;rw[e]at e';cases e';exact k9 e f0 f1 f2 d
def ak.Eh{pl:List (Addr×Obj)}(I:ak X (aa++pl) σ H s):ak X aa σ H s:=I.Ro λp hp=>I.pin p (iz _ (hZ _ hp))
def gj{iter:bf}{body:List Stmt}{wi:TI}(hp:PassesOwn (aR X.prog X.w) X.A X.env X.xe)(hc:X.calm=true)(hi:PI X tg iter wi)(hg:PG X tg g)(hb:jW X body tb)
  (hs:∀x,O7 iter X.env x=pure x:=by intro _;rfl):PS X (.For tg iter body [] pos) (RE wi g tb):=by
 intro aa s σ H D I h;refine wpAny_For (aI (hi aa s σ H _ I h) λv s1 h1=>aI h1 λK0 s2 h2=>?_) hs;refine lT h2 λit fp tn J H2 e I2 ad3=>?_;refine fz ad3 λT Ei f2 ad4=>?_;refine ar ad4 λW ad5 turn=>?_;obtain⟨m0,w0⟩:=ad5;subst e;have vE:∀{H':Hp},(∀b∈fp,H' b=none)->∀b∈fp,m8 X aa H' b:=λhn b hb=>⟨hn b hb,(f2 b hb).2⟩
 refine codeAny_forLoop_any (λn s'=>∃i σ' H',ak X aa σ' H' s'/\tn i s'.heap/\(∀b∈fp,H' b=none)/\W i n σ' H') ?_ m0 (kj 0 σ H2 I2 Ei (λb hb=>(f2 b hb).1) w0);rintro n s3 ⟨i,σ3,H3,I3,Ej,m9,w3⟩;rcases turn i n σ3 H3 w3 with⟨stop,qn⟩|⟨go,N,hN,step⟩
 ·refine zO hp (aI (T.done X rfl rfl rfl hc i aa s3 σ3 H3 X.xe I3 (vE m9) Ej stop) λr s4 ad6=>eA ad6 λhr I4=>?_);subst hr;exact C6 (cD σ3 H3 I4 qn)
 ·refine zO hp (aI (T.item X rfl rfl rfl hc i aa s3 σ3 H3 X.xe I3 (vE m9) Ej go) λr s4 ad7=>ar ad7 λu hr h4=>?_);subst hr;refine zO hp (aI h4 λ_ s5 ad8=>iE ad8 λx H5 I5 r5 y5 yB fr5=>?_);have I5':=I5.pinned (vE fr5) (T.obj _ _ yB)
  refine zO hp (aI (hg _ s5 σ3 H5 x u _ I5' r5 (step x H5 y5)) λ_ s6 aea=>bZ aea λσ6 H6 I6 q6=>?_);refine zO hp (aI (hb _ s6 σ6 H6 _ I6 q6) λf s7 q7=>?_);have again:∀{σ7:St}{H7:Hp},ak X (aa++AB fp s5.heap) σ7 H7 s7->N σ7 H7->∃m,m<n/\∃i σ' H',ak X aa σ' H' s7/\tn i s7.heap/\(∀b∈fp,H' b=none)/\W i m σ' H':=λ{σ7 H7} I7 n7=>by refine ar (hN σ7 H7 n7) λm' hm w7=>?_;refine aF m' hm (kj (i+1) σ7 H7 I7.Eh (T.keep _ _ _ yB λb hb o e=>(I7.pin (b,o) (iz _ (iz _ (K1 hb e)))).1) (λb hb=>?_) w7);refine ar (T.obj _ _ yB b hb) λo e d=>?_;exact(I7.pin (b,o) (iz _ (iz _ (K1 hb e)))).2.1
  cases f with
  |next=>refine bZ q7 λaeb H7 I7 n7=>?_;obtain σ7:=aeb;exact again I7 n7
  |cont=>refine bZ q7 λaec H7 I7 n7=>?_;obtain σ7:=aec;exact again I7 n7
  |brk=>obtain⟨σ7,H7,I7,q7⟩:=q7;exact⟨σ7,H7,I7.Eh,q7⟩
  |ret v=>obtain⟨x7,σ7,H7,I7,r7,q7⟩:=q7;exact⟨x7,σ7,H7,I7.Eh,r7,q7⟩
end
def rC(Pv:Nat->St->Hp->Prop)(h0:Pv 0 σ H)(hl:∀i σ H,i<=xs.length->Pv i σ H->ah K H a xs)
  (hs:∀i x σ H,xs[i]?=some x->Pv i σ H->g x σ H λσ2 H2=>tb {D with nx:=Pv (i+1),ct:=Pv (i+1),bk:=D.nx} σ2 H2) (hd:∀σ H,Pv xs.length σ H->D.nx σ H):
  ∃W:Nat->Nat->St->Hp->Prop,(∃m,W 0 m σ H)/\∀i m σ H,W i m σ H->
   ((tQ K a).stop i H/\D.nx σ H)\/((tQ K a).go i H/\∃N:St->Hp->Prop,(∀σ' H',N σ' H'->∃m',m'<m/\W (i+1) m' σ' H')/\∀x H',(tQ K a).iH i H x H'->g x σ H' λσ2 H2=>tb {D with nx:=N,ct:=N,bk:=D.nx} σ2 H2):=by
 refine aF (λi m σ H=>m=xs.length-i/\i<=xs.length/\Pv i σ H) (aW xs.length (by simp) (iO _) h0) ?_;rintro i m σ H ⟨rfl,hi,p⟩;have q:=hl i σ H hi p
 by_cases bH:i<xs.length
 ·refine .inr ⟨⟨xs,xs[i],q,by simp[bH]⟩,Pv (i+1),λσ' H' p'=>⟨xs.length-(i+1),by omega,rfl,bH,p'⟩,λx H' y=>?_⟩;obtain⟨e,y⟩:=y;subst e;exact hs i x σ _ (y xs q) p
 ·have e:i=xs.length:=by lia
  subst e;exact .inl ⟨⟨xs,q,aX _⟩,hd σ H p⟩
def RF(Pv:Nat->St->Hp->Prop)(h0:Pv 0 σ H)(hl:∀i σ H,i<=xs.length->Pv i σ H->dm K H a xs)
  (hs:∀i x σ H,xs[i]?=some x->Pv i σ H->g x σ H λσ2 H2=>tb {D with nx:=Pv (i+1),ct:=Pv (i+1),bk:=D.nx} σ2 H2) (hd:∀σ H,Pv xs.length σ H->D.nx σ H):
  ∃W:Nat->Nat->St->Hp->Prop,(∃m,W 0 m σ H)/\∀i m σ H,W i m σ H->
   ((tR K a).stop i H/\D.nx σ H)\/((tR K a).go i H/\∃N:St->Hp->Prop,(∀σ' H',N σ' H'->∃m',m'<m/\W (i+1) m' σ' H')/\∀x H',(tR K a).iH i H x H'->g x σ H' λσ2 H2=>tb {D with nx:=N,ct:=N,bk:=D.nx} σ2 H2):=by
 refine aF (λi m σ H=>m=xs.length-i/\i<=xs.length/\Pv i σ H) (aW xs.length (by simp) (iO _) h0) ?_;rintro i m σ H ⟨rfl,hi,p⟩;have q:=hl i σ H hi p
 by_cases bH:i<xs.length
 ·refine .inr ⟨⟨xs,xs[i],q,by simp[bH]⟩,Pv (i+1),λσ' H' p'=>⟨xs.length-(i+1),by omega,rfl,bH,p'⟩,λx H' y=>?_⟩;obtain⟨e,y⟩:=y;subst e;exact hs i x σ _ (y xs q) p
 ·have e:i=xs.length:=by omega
  subst e;exact .inl ⟨aF xs q (aX _),hd σ H p⟩
def RG{n:Nat}(Pv:Nat->St->Hp->Prop)(h0:Pv 0 σ H)
  (hs:∀i σ H,i<n->Pv i σ H->g (.int (lo+i)) σ H λσ2 H2=>tb {D with nx:=Pv (i+1),ct:=Pv (i+1),bk:=D.nx} σ2 H2) (hd:∀σ H,Pv n σ H->D.nx σ H):
  ∃W:Nat->Nat->St->Hp->Prop,(∃m,W 0 m σ H)/\∀i m σ H,W i m σ H->
   ((rB lo n).stop i H/\D.nx σ H)\/((rB lo n).go i H/\∃N:St->Hp->Prop,(∀σ' H',N σ' H'->∃m',m'<m/\W (i+1) m' σ' H')/\∀x H',(rB lo n).iH i H x H'->g x σ H' λσ2 H2=>tb {D with nx:=N,ct:=N,bk:=D.nx} σ2 H2):=by
 refine aF (λi m σ H=>m=n-i/\i<=n/\Pv i σ H) (aW n (by simp) (iO _) h0) ?_;rintro i m σ H ⟨rfl,hi,p⟩;by_cases bH:i<n
 ·refine .inr (cg bH (Pv (i+1)) (λσ' H' p'=>d7 (n-(i+1)) (by omega) rfl bH p') λx H' y=>?_);obtain⟨e,y⟩:=y;subst e y;exact hs i σ _ bH p
 ·have e:i=n:=by lia
  subst e;exact .inl ⟨aX _,hd σ H p⟩
end
section
variable{aa:List (Addr×Obj)}{s:aw}{σ:St}{H:Hp}{f:Value->Value->Sem Value}{op yC:CmpOp}{g:Int->Int->Int}{i j:Int}
abbrev R2:=V->V->Hp->VK->Prop
def dB(X:Cx)(f:Value->Value->Sem Value)(r:R2):Prop:=
 ∀(aa:List (Addr×Obj))(s:aw)(σ:St)(H:Hp)(x y:V)(v u:Value)(Q:VK),ak X aa σ H s->bC x v->bC y u->r x y H Q->
  aM (aR X.prog X.w) X.A (f v u) (EP X aa σ Q) X.xe s
def Ek(X:Cx)(f:Value->Sem Value)(r:V->Hp->VK->Prop):Prop:=
 ∀(aa:List (Addr×Obj))(s:aw)(σ:St)(H:Hp)(x:V)(v:Value)(Q:VK),ak X aa σ H s->bC x v->r x H Q->
  aM (aR X.prog X.w) X.A (f v) (EP X aa σ Q) X.xe s
def jv(X:Cx)(f:Value)(r:List V->Hp->VK->Prop):Prop:=
 ∀(aa:List (Addr×Obj))(s:aw)(σ:St)(H:Hp)(xs:List V)(us:List Value)(Q:VK),ak X aa σ H s->bB xs us->r xs H Q->
  aM (aR X.prog X.w) X.A (mQ f us) (EP X aa σ Q) X.xe s
def AD(r:R2)(ta tb:TE):TE:=λσ H Q=>ta σ H λx H1=>tb σ H1 λy H2=>r x y H2 Q
def tUn(r:V->Hp->VK->Prop)(ta:TE):TE:=λσ H Q=>ta σ H λx H1=>r x H1 Q
def rI(C:Int->Int->Prop)(g:Int->Int->V):R2:=λx y H Q=>∃i j,x= .int i/\y= .int j/\C i j/\Q (g i j) H
def jw(g:Int->Int->V):R2:=λx y H Q=>∃i j,x= .int i/\y= .int j/\Q (g i j) H
def rU(g:Int->V):V->Hp->VK->Prop:=λx H Q=>∃i,x= .int i/\Q (g i) H
section
variable{X:Cx}{a b c:bf}{ta tb tc:TE}{pos:Pos}
def K2(ha:PE X a ta)(hb:PE X b tb){R:V->V->Hp->Prop}(I:ak X aa σ H s)
  (h:ta σ H λx H1=>tb σ H1 λy H2=>R x y H2) {Q:Value->aw->Prop}
  (hf:∀v u s2 x y H2,ak X aa σ H2 s2->bC x v->bC y u->R x y H2->aM (aR X.prog X.w) X.A (f v u) Q X.xe s2):
  aM (aR X.prog X.w) X.A (eval a X.env) (λv s₁=>aM (aR X.prog X.w) X.A (eval b X.env) (λu s₂=>aM (aR X.prog X.w) X.A (f v u) Q X.xe s₂) X.xe s₁) X.xe s:=by
 refine aI (ha aa s σ H _ I h) λv s1 aee=>bb aee λx H1 I1 r1 q1=>?_;refine aI (hb aa s1 σ H1 _ I1 q1) λu s2 aef=>bb aef λy H2 I2 r2 q2=>?_;exact hf v u s2 x y H2 I2 r1 r2 q2
def b9{op:C5}{r:R2}(ho:dB X (oj op) r)(ha:PE X a ta)(hb:PE X b tb):PE X (.BinOp a op b pos) (AD r ta tb):=by intro aa s σ H Q I h;exact wpAny_BinOp (K2 ha hb I h λv u s2 x y H2 I2 rx ry q=>ho aa s2 σ H2 x y v u Q I2 rx ry q)
def tS{op:UnaryOp}{r:V->Hp->VK->Prop}(ho:Ek X (Z4 op) r)(ha:PE X a ta):PE X (.UnaryOp op a pos) (tUn r ta):=by intro aa s σ H Q I h;exact UnaryOp_ (aI (ha aa s σ H _ I h) λv s1 aeg=>bb aeg λx H1 I1 r1 q1=>ho aa s1 σ H1 x v Q I1 r1 q1)
def AE{C:Int->Int->Prop}
  (rule:∀(i j:Int)(t u:Tok)(s:aw)(Q:Value->aw->Prop)(E:Value->aw->Prop),C i j->Q (.int (g i j) s.toks) {s with toks:=s.toks+1}->aM (aR X.prog X.w) X.A (f (.int i t) (.int j u)) Q E s):
  dB X f (rI C λi j=> .int (g i j)):=by
 intro aa s σ H x y v u Q I rx ry h;refine lj h λi j aeh aei hc q=>?_;obtain rfl:=aeh;obtain rfl:=aei;obtain⟨t,rfl⟩:=rx;obtain⟨t',rfl⟩:=ry;exact rule i j t t' s _ _ hc (aB (.int (g i j)) H (I.tok _) ⟨_,rfl⟩ q)
def p8
  (rule:∀(i j:Int)(t u:Tok)(s:aw)(Q:Value->aw->Prop)(E:Value->aw->Prop),Q (.int (g i j) s.toks) {s with toks:=s.toks+1}->aM (aR X.prog X.w) X.A (f (.int i t) (.int j u)) Q E s):
  dB X f (jw λi j=> .int (g i j)):=by
 intro aa s σ H x y v u Q I rx ry h;refine bb h λi j aej aek q=>?_;obtain rfl:=aej;obtain rfl:=aek;obtain⟨t,rfl⟩:=rx;obtain⟨t',rfl⟩:=ry;exact rule i j t t' s _ _ (aB (.int (g i j)) H (I.tok _) ⟨_,rfl⟩ q)
def El{g:Int->Int->Bool}
  (rule:∀(i j:Int)(t u:Tok)(s:aw)(Q:Value->aw->Prop)(E:Value->aw->Prop),Q (.bool (g i j)) s->aM (aR X.prog X.w) X.A (f (.int i t) (.int j u)) Q E s):
  dB X f (jw λi j=> .bl (g i j)):=by
 intro aa s σ H x y v u Q I rx ry h;refine bb h λi j ael aem q=>?_;obtain rfl:=ael;obtain rfl:=aem;obtain⟨t,rfl⟩:=rx;obtain⟨t',rfl⟩:=ry;exact rule i j t t' s _ _ (aB (.bl (g i j)) H I rfl q)
def K3(i j:Int):Prop:=0<=j/\j<=1000000/\i.natAbs<2^64
def K4(i j:Int):Prop:=(-(2^64)<i/\i<2^64)\/(-(2^64)<j/\j<2^64)
def K4.ok(h:K4 i j):IntMulOk i j:=by
 rcases h with⟨h1,h2⟩|⟨h1,h2⟩
 ·exact .of_left (auN h1 h2)
 ·exact .of_right (auN h1 h2)
def aen(k:Nat):(0:Int)<=2^k:=by rw[two_pow_cast];exact auO _
def jx:dB X (oj .Add) (jw λi j=> .int (i+j)):=p8 λ_ _ _ _ _ _ _ q=>add_int q
def yD:dB X (oj .Sub) (jw λi j=> .int (i-j)):=p8 λ_ _ _ _ _ _ _ q=>sub_int q
def aeo:dB X (oj .Mult) (rI K4 λi j=> .int (i*j)):=AE λ_ _ _ _ _ _ _ hc q=>mul_int q hc.ok
def aep:dB X (oj .Mod) (rI (λ_ j=>0<j) λi j=> .int (i%j)):=AE λi j _ _ _ _ _ hc q=>by have h1:(0:Int)<j:=hc;exact mod_int' (by lia) (by rw[Int.fmod_eq_emod_of_nonneg i (by lia)];exact q)
def oN:dB X (oj .LShift) (rI K3 λi j=> .int (i*2^j.toNat)):=AE λ_ _ _ _ _ _ _ hc q=>lshift_int_small hc.1 hc.2.1 hc.2.2 q
def RH:dB X (oj .RShift) (rI (λ_ j=>0<=j) λi j=> .int (i/2^j.toNat)):=AE λi j _ _ _ _ _ hc q=>
 rshift_int hc (by rw[auP i (aen _)];exact q)
def p9:dB X (oj .BitAnd) (jw λi j=> .int (auQ i j)):=p8 λ_ _ _ _ _ _ _ q=>and_int q
def aeq:dB X (oj .BitOr) (jw λi j=> .int (Z5 i j)):=p8 λ_ _ _ _ _ _ _ q=>or_int q
def aer:dB X (oj .BitXor) (jw λi j=> .int (Z6 i j)):=p8 λ_ _ _ _ _ _ _ q=>xor_int q
def AF:dB X (xS .Add) (jw λi j=> .int (i+j)):=p8 λ_ _ _ _ _ _ _ q=>iadd_int q
def aes:dB X (xS .Sub) (jw λi j=> .int (i-j)):=p8 λ_ _ _ _ _ _ _ q=>isub_int q
def Em:dB X (xS .BitAnd) (jw λi j=> .int (auQ i j)):=p8 λ_ _ _ _ _ _ _ q=>iand_int q
def vF:dB X (xS .BitOr) (jw λi j=> .int (Z5 i j)):=p8 λ_ _ _ _ _ _ _ q=>ior_int q
def aet:dB X (xS .BitXor) (jw λi j=> .int (Z6 i j)):=p8 λ_ _ _ _ _ _ _ q=>ixor_int q
def RJ{f:Value->Sem Value}{g:Int->Int}
  (rule:∀(i:Int)(t:Tok)(s:aw)(Q:Value->aw->Prop)(E:Value->aw->Prop),Q (.int (g i) s.toks) {s with toks:=s.toks+1}->aM (aR X.prog X.w) X.A (f (.int i t)) Q E s):
  Ek X f (rU λi=> .int (g i)):=by
 intro aa s σ H x v Q I rx h;refine ar h λi aeu q=>?_;obtain rfl:=aeu;obtain⟨t,rfl⟩:=rx;exact rule i t s _ _ (aB (.int (g i)) H (I.tok _) ⟨_,rfl⟩ q)
def En:Ek X (Z4 .USub) (rU λi=> .int (-i)):=RJ λ_ _ _ _ _ q=>neg_int q
def Eo:Ek X (Z4 .Invert) (rU λi=> .int (Builtin.bitNot i)):=RJ λ_ _ _ _ _ q=>invert_int q
end
def RK:V->V->Bool
 | .aL, .aL=>true| .aL, .int _=>true| .int _, .aL=>true| .aL, .bl _=>true| .bl _, .aL=>true| .aL, .str _=>true| .str _, .aL=>true
 | .int _, .int _=>true| .bl _, .bl _=>true| .str _, .str _=>true| .lr _, .lr _=>true
 | .int _, .str _=>true| .str _, .int _=>true| .bl _, .str _=>true| .str _, .bl _=>true
 |_,_=>false
def rEq:R2:=λx y H Q=>RK x y=true/\Q (.bl (decide (x=y))) H
def rNe:R2:=λx y H Q=>RK x y=true/\Q (.bl (!decide (x=y))) H
def RL:decide (V.int i=V.int j)=(i==j):=by rw[fu];simp
def RM{i j:Bool}:decide (V.bl i=V.bl j)=(i==j):=by rw[fu];simp
def RN{i j:Str}:decide (V.str i=V.str j)=(i==j):=by rw[fu];simp
def RO{i j:Array UInt8}:decide (V.lr i=V.lr j)=(i.toList==j.toList):=by rw[fu];cases i;cases j;simp
section
variable{X:Cx}{a b c:bf}{ta tb tc:TE}{pos:Pos}
def eI{Q:VK}{k k':Bool}(I:ak X aa σ H s)(q:Q (.bl k) H)(e:k=k'):EP X aa σ Q (.bool k') s:=by subst e;exact aB (.bl k) H I rfl q
def b_:dB X (jJ .Eq) rEq:=by
 intro aa s σ H x y v u Q I rx ry h;obtain⟨hs,q⟩:=h;cases x with
 |aL=>
  cases rx;cases y with
  |aL=>cases ry;exact axg (eI I q (by simp))
  |bl j=>cases ry;exact axh (eI I q (by simp))
  |int j=>obtain⟨t',rfl⟩:=ry;exact axi (eI I q (by simp))
  |str j=>obtain⟨t',rfl⟩:=ry;exact axj (eI I q (by simp))
  |_=>exact absurd (show false=true from hs) gq
 |bl i=>
  cases rx;cases y with
  |aL=>cases ry;exact axk (eI I q (by simp))
  |bl j=>cases ry;exact eq_bool (eI I q RM)
  |str j=>obtain⟨t',rfl⟩:=ry;exact axl (eI I q (by simp))
  |_=>exact absurd (show false=true from hs) gq
 |int i=>
  obtain⟨t,rfl⟩:=rx;cases y with
  |aL=>cases ry;exact axm (eI I q (by simp))
  |int j=>obtain⟨t',rfl⟩:=ry;exact eq_int (eI I q RL)
  |str j=>obtain⟨t',rfl⟩:=ry;exact axn (eI I q (by simp))
  |_=>exact absurd (show false=true from hs) gq
 |str i=>
  obtain⟨t,rfl⟩:=rx;cases y with
  |aL=>cases ry;exact axo (eI I q (by simp))
  |bl j=>cases ry;exact axp (eI I q (by simp))
  |int j=>obtain⟨t',rfl⟩:=ry;exact axq (eI I q (by simp))
  |str j=>obtain⟨t',rfl⟩:=ry;exact eq_str (eI I q RN)
  |_=>exact absurd (show false=true from hs) gq
 |lr i=>
  obtain⟨t,rfl⟩:=rx;cases y with
  |lr j=>obtain⟨t',rfl⟩:=ry;exact PySem.W.eq_bytes (eI I q RO)
  |_=>exact absurd (show false=true from hs) gq
 |_=>cases y<;>exact absurd (show false=true from hs) gq
def vG:dB X (jJ .NotEq) rNe:=by
 intro aa s σ H x y v u Q I rx ry h;obtain⟨hs,q⟩:=h;cases x with
 |aL=>
  cases rx;cases y with
  |aL=>cases ry;exact axr (eI I q (by simp))
  |bl j=>cases ry;exact axs (eI I q (by simp))
  |int j=>obtain⟨t',rfl⟩:=ry;exact axt (eI I q (by simp))
  |str j=>obtain⟨t',rfl⟩:=ry;exact axu (eI I q (by simp))
  |_=>exact absurd (show false=true from hs) gq
 |bl i=>
  cases rx;cases y with
  |aL=>cases ry;exact axv (eI I q (by simp))
  |bl j=>cases ry;exact ne_bool (eI I q (congrArg not RM))
  |str j=>obtain⟨t',rfl⟩:=ry;exact axw (eI I q (by simp))
  |_=>exact absurd (show false=true from hs) gq
 |int i=>
  obtain⟨t,rfl⟩:=rx;cases y with
  |aL=>cases ry;exact axx (eI I q (by simp))
  |int j=>obtain⟨t',rfl⟩:=ry;exact ne_int (eI I q (congrArg not RL))
  |str j=>obtain⟨t',rfl⟩:=ry;exact axy (eI I q (by simp))
  |_=>exact absurd (show false=true from hs) gq
 |str i=>
  obtain⟨t,rfl⟩:=rx;cases y with
  |aL=>cases ry;exact axz (eI I q (by simp))
  |bl j=>cases ry;exact axA (eI I q (by simp))
  |int j=>obtain⟨t',rfl⟩:=ry;exact axB (eI I q (by simp))
  |str j=>obtain⟨t',rfl⟩:=ry;exact ne_str (eI I q (congrArg not RN))
  |_=>exact absurd (show false=true from hs) gq
 |lr i=>
  obtain⟨t,rfl⟩:=rx;cases y with
  |lr j=>obtain⟨t',rfl⟩:=ry;exact PySem.W.ne_bytes (eI I q (congrArg not RO))
  |_=>exact absurd (show false=true from hs) gq
 |_=>cases y<;>exact absurd (show false=true from hs) gq
def tT:dB X (jJ .Lt) (jw λi j=> .bl (decide (i<j))):=El λ_ _ _ _ _ _ _ q=>lt_int q
def p_:dB X (jJ .LtE) (jw λi j=> .bl (decide (i<=j))):=El λ_ _ _ _ _ _ _ q=>le_int q
def oO:dB X (jJ .Gt) (jw λi j=> .bl (decide (j<i))):=El λ_ _ _ _ _ _ _ q=>gt_int q
def aex:dB X (jJ .GtE) (jw λi j=> .bl (decide (j<=i))):=El λ_ _ _ _ _ _ _ q=>ge_int q
def bt(b:bf)(h:op≠ .In:=by decide)(h2:op≠ .NotIn:=by decide):zL op b=false:=by
 have e1:(op==auD)=false:=by cases op<;>first|rfl|exact absurd rfl h
 have e2:(op==auE)=false:=by cases op<;>first|rfl|exact absurd rfl h2
 cases b<;>simp[zL,e1,e2]
def rD{r:R2}(ho:dB X (jJ op) r)(ha:PE X a ta)(hb:PE X b tb)(hm:zL op b=false):PE X (.Compare a [op] [b] pos) (AD r ta tb):=by intro aa s σ H Q I h;exact wpAny_Compare1 (K2 ha hb I h λv u s2 x y H2 I2 rx ry q=>ho aa s2 σ H2 x y v u Q I2 rx ry q) hm
def RQ(t:TE):TT:=λσ H Q=>t σ H λx H'=>∃k,x= .bl k/\Q k H'
def bz{r:R2}(ho:dB X (jJ op) r)(ha:PE X a ta)(hb:PE X b tb)(hm:zL op b=false):PT X (.Compare a [op] [b] pos) (RQ (AD r ta tb)):=by
 intro aa s σ H Q I h;refine auF (aI (ha aa s σ H _ I h) λv s1 aey=>bb aey λx H1 I1 r1 q1=>aI (hb aa s1 σ H1 _ I1 q1) λu s2 ⟨y,H2,I2,r2,q2⟩=>aI (ho aa s2 σ H2 x y v u _ I2 r1 r2 q2) λc s3 ⟨z,H3,I3,r3,k,e,q3⟩=>?_) hm
 subst e;cases r3;exact uM (aF H3 I3 q3)
def RS(r r':R2)(ta tb tc:TE):TE:=λσ H Q=>ta σ H λx H1=>tb σ H1 λy H2=>r x y H2 λz H3=>∃k,z= .bl k/\
 (if k=true then tc σ H3 λw' H4=>r' y w' H4 Q else Q (.bl false) H3)
def RT{r r':R2}(ho:dB X (jJ op) r)(g4:dB X (jJ yC) r')(ha:PE X a ta)(hb:PE X b tb)(hc:PE X c tc)
  (hm:lastMarks [op,yC] [b,c]=false:=by with_unfolding_all rfl):PE X (.Compare a [op,yC] [b,c] pos) (RS r r' ta tb tc):=by
 intro aa s σ H Q I h;refine Compare_chain (aI (ha aa s σ H _ I h) λv s1 aez=>bb aez λx H1 I1 r1 q1=>chain_link (aI (hb aa s1 σ H1 _ I1 q1) λu s2 ⟨y,H2,I2,r2,q2⟩=>aI (ho aa s2 σ H2 x y v u _ I2 r1 r2 q2) λd s3 ⟨z,H3,I3,r3,k,e,q3⟩=>?_)) hm
 subst e;cases r3;refine uM ?_;cases k with
 |false=>exact ite_ff (aB (.bl false) H3 I3 rfl q3)
 |true=>exact ite_tt (chain_last (aI (hc aa s3 σ H3 _ I3 q3) λw' s4 aeA=>bb aeA λz' H4 I4 r4 q4=>g4 aa s4 σ H4 y z' u w' Q I4 r2 r4 q4))
def RU{r r':R2}(ho:dB X (jJ op) r)(g4:dB X (jJ yC) r')(ha:PE X a ta)(hb:PE X b tb)(hc:PE X c tc)
  (hm:lastMarks [op,yC] [b,c]=false:=by with_unfolding_all rfl):PT X (.Compare a [op,yC] [b,c] pos) (RQ (RS r r' ta tb tc)):=by
 intro aa s σ H Q I h;refine isTrue_chain (aI (ha aa s σ H _ I h) λv s1 aeB=>bb aeB λx H1 I1 r1 q1=>test_link (aI (hb aa s1 σ H1 _ I1 q1) λu s2 ⟨y,H2,I2,r2,q2⟩=>aI (ho aa s2 σ H2 x y v u _ I2 r1 r2 q2) λd s3 ⟨z,H3,I3,r3,k,e,q3⟩=>?_)) hm
 subst e;cases r3;refine uM ?_;cases k with
 |false=>
  refine ar q3 λk' e' q'=>?_;cases e';exact ite_ff (aF H3 I3 q')
 |true=>
  refine ite_tt (test_last (aI (hc aa s3 σ H3 _ I3 q3) λw' s4 aeC=>bb aeC λz' H4 I4 r4 q4=>aI (g4 aa s4 σ H4 y z' u w' _ I4 r2 r4 q4) λd' s5 ⟨z2,H5,I5,r5,k2,e2,q5⟩=>?_));subst e2;cases r5;exact uM (aF H5 I5 q5)
def vH:(sizeLine:Nat)<2^63:=by rw[JD];decide
def l7{x:V}{us:List Value}(r:bB [x] us):∃u,us=[u]/\bC x u:=by
 cases r with
 |cons r1 r2=>cases r2;exact aq rfl r1
def Ep:jv X (.builtin "abs") (λxs H Q=>∃i,xs=[.int i]/\Q (.int (if i<0 then-i else i)) H):=by intro aa s σ H xs us Q I r h;refine ar h λi aeD q=>?_;obtain rfl:=aeD;refine ar (l7 r) λu aeE aeF=>?_;refine eE aeF λt aeG=>?_;obtain rfl:=aeE;obtain rfl:=aeG;exact call_abs_int λu tk=>aB (.int (if i<0 then-i else i)) H (I.tok _) ⟨_,rfl⟩ q
def aeH:jv X (.type "str") (λxs H Q=>∃i,xs=[.int i]/\i.natAbs.log2<1920/\Q (.str (toString i)) H):=by intro aa s σ H xs us Q I r h;refine bc h λi aeI hz q=>?_;obtain rfl:=aeI;refine ar (l7 r) λu aeJ aeK=>?_;refine eE aeK λt aeL=>?_;obtain rfl:=aeJ;obtain rfl:=aeL;exact PySem.P.str_of_int hz (aB (.str _) H (I.tok _) ⟨_,rfl⟩ q)
def RW:jv X (.builtin "ord") (λxs H Q=>∃x,xs=[.str x]/\x.length=1/\Q (.int (x.cps.getD 0 0:Nat)) H):=by intro aa s σ H xs us Q I r h;refine bc h λx aeM hz q=>?_;obtain rfl:=aeM;refine ar (l7 r) λu aeN AG=>?_;refine eE AG λt aeO=>?_;obtain rfl:=aeN;obtain rfl:=aeO;exact ord_of_one hz (aB (.int _) H (I.tok _) ⟨_,rfl⟩ q)
end
end
section
variable{h:Heap}{dx C:Addr}{mA:Str->Option Value}{Q:Value->aw->Prop}{v:V}{u:Value}{K:aV}
structure yE (h:Heap) (x dx C:Addr) (mA:Str->Option Value):Prop where
 obj:h.get? x=some (xR C dx)
 ns:h.Ns1 dx mA
 ne:dx≠x
def aeP(n:h.Ns1 dx mA):∃od,h.get? dx=some od/\∀name,Z7 name od=some (mA name):=by
 refine bR n λo es ep ho hd AG=>?_;refine cT AG λhk _ hm=>?_;refine aF o ho λname=>?_;have e:=hm name
 unfold nsFind findBy at e;rw[<-auR]at e;unfold Z7;rw[hd];dsimp only;split
 ·rename_i y q;rw[q]at e;exact congrArg some e
 ·rename_i q;rw[q]at e;have a:es.toList.any (·.refKey)=false:=by rw[List.any_eq_false];intro y hy;refine lh (hk y (Array.mem_toList_iff.mp hy)) λz t K5=>?_;simp[axC,K5]
  have a':¬es.toList.any (·.refKey)=true:=by rw[a];exact gq
  rw[if_neg a'];exact congrArg some e
def yE.look{x:Addr}(I:yE h x dx C mA):∃od,PySem.W.InstAt h x (xR C dx) C (some od)/\∀name,Z7 name od=some (mA name):=
 ar (aeP I.ns) λod ho hl=>
 (aF od ⟨I.obj,rfl,rfl,ho⟩ hl)
section
variable{prog:Program}{w:a9}{A:cX}{E:Value->aw->Prop}{s:aw}{K:aV}{x dx C f:Addr}{mA:Str->Option Value}{name:Str}{v:Value}
def aeQ{expr:Bool}(X:K.In s.heap)(I:yE s.heap x dx C mA)(hg:JE K C name=true)(hh:O8 K C=true)
  (ha:uN K (.ref C) name=some none) (hv:mA name=some v) (gf:auS v=true) (h:Q v {s with toks:=s.toks+1}):
  aM (aR prog w) A (JF (.ref x) name expr) Q E s:=by
 refine ar I.look λod J hl=>?_;exact PySem.W.get_value X J (PySem.W.plainGet_of hg).1 (PySem.W.findObj_own hh ha rfl (by rw[hl,hv])) gf h
def aeR{ns:List Str}{Q:Unit->aw->Prop}(X:K.In s.heap)(I:yE s.heap x dx C mA)
  (hs:uN K (.ref C) "__setattr__"=some (some (.builtin "object.__setattr__"))) (hp:Z8 K C=true) (ht:Z9 K C name=some none) (hh:O8 K C=true)
  (hw:ZW mA ns) (hsz:ns.length<=sizeLine)
  (h:∀h',yE h' x dx C (λy=>if y=name then some v else mA y)->Jv dx s.heap h'->Q () {s with heap:=h',toks:=s.toks+2}):
  aM (aR prog w) A (JG (.ref x) name v) Q E s:=by
 refine ar I.look λod J hl=>?_;refine PySem.W.set_plain X J hs (PySem.W.osa_open (s:={s with toks:=s.toks+1}) (r:=none) X J hp ht λb=>?_);refine ar (PySem.W.any_some hh) λcd hc jd=>?_;have hx:s.heap.get? x=some ⟨.ref C,some dx, .plain,#[]⟩:=I.obj
 refine cv (eQ (cv (cv (wpAny_loadPart hx (cv (axD (s:={s with toks:=s.toks+1}) (PySem.W.looks_clsIn X hc) ?_))))));rw[jd];refine eQ (a:=some dx) (cv (eQ (cv ?_)));refine auT (s:={s with toks:=s.toks+1}) I.ns λh' RX RY=>?_;refine bR (RX.count (axE name v hw)) λoD esD epD K6 AH K7=>?_;refine cv (auU K6 (by rw[AH];exact auV (i8 K7 (by rw[cG];lia))) ?_);exact eQ (h _ ⟨(RY.2 _ (mP I.ne)).trans I.obj,RX,I.ne⟩ RY)
def aeU{R:JH->aw->Prop}{vs:List Value}{kw:List (Str×Value)}(X:K.In s.heap)(hm:Z_ K C=true)
  (hi:uN K (.ref C) "__init__"=some (some (.ref f))) (hf:PySem.W.typeIn K (.ref f)=some (.type "function"))
  (h:sG (aR prog w) (A.under (.builtin "type.__call__" ⟨.ref C::vs,kw⟩)) (.call (.ref f) ⟨.ref (s.heap.objs.size+1)::vs,kw⟩) (PySem.W.InitBack (s.heap.objs.size+1) R)
   {s with heap:=(s.heap.push uO).push (xR C s.heap.objs.size)}):
  sG (aR prog w) A (.call (.ref C) ⟨vs,kw⟩) R s:=by
 obtain⟨hh,g,d,t,os⟩:=s;exact PySem.W.make_core (PySem.W.makes_of X hm) (PySem.W.looks_findIn X hi) (λself=>PySem.W.bind_fn X self hf) (.inl rfl) h
end
def dN(f:Str)(v:V):List (Str×V)->List (Str×V)
 |[]=>[(f,v)]
 |(g,x)::r=>if g=f then(g,v)::r else(g,x)::dN f v r
theorem RZ(f g:Str)(v:V):∀fs:List (Str×V),(dN f v fs).lookup g=if g=f then some v else fs.lookup g
 |[]=>by
  show qT g [(f,v)]=_;by_cases h:g=f
  ·have hb:(g==f)=true:=beq_iff_eq.mpr h;simp only[qT,hb,if_pos h]
  ·have hb:(g==f)=false:=beq_eq_false_iff_ne.mpr h;simp only[qT,hb,if_neg h]
 |(k,x)::r=>by
  have ih:=RZ f g v r;rw[show dN f v ((k,x)::r)=(if k=f then(k,v)::r else(k,x)::dN f v r) from rfl];by_cases hk:k=f
  ·rw[if_pos hk];by_cases h:g=k
   ·have hb:(g==k)=true:=beq_iff_eq.mpr h;simp only[qT,hb,if_pos (h.trans hk)]
   ·have hb:(g==k)=false:=beq_eq_false_iff_ne.mpr h;simp only[qT,hb,if_neg (λe:g=f=>h (e.trans hk.symm))]
  ·rw[if_neg hk];by_cases h:g=k
   ·have hb:(g==k)=true:=beq_iff_eq.mpr h;simp only[qT,hb,if_neg (λe:g=f=>hk (h.symm.trans e))]
   ·have hb:(g==k)=false:=beq_eq_false_iff_ne.mpr h;simp only[qT,hb];exact ih
theorem K8(f:Str)(v:V):∀fs:List (Str×V),f∈(dN f v fs).map (·.1)/\∀g,g∈fs.map (·.1)->g∈(dN f v fs).map (·.1)
 |[]=>⟨by simp[dN],λg h=>by simp at h⟩
 |(k,x)::r=>by
  obtain⟨i1,i2⟩:=K8 f v r;rw[show dN f v ((k,x)::r)=(if k=f then(k,v)::r else(k,x)::dN f v r) from rfl];by_cases hk:k=f
  ·rw[if_pos hk];subst hk;exact⟨by simp,λg h=>by simpa using h⟩
  ·rw[if_neg hk];refine⟨?_,λg h=>?_⟩
   ·rw[cM];exact dn _ i1
   ·rw[cM]at h⊢;rcases cu.mp h with e|e
    ·exact cu.mpr (.inl e)
    ·exact dn _ (i2 g e)
theorem R0(f:Str)(v:V):∀fs:List (Str×V),(dN f v fs).length<=fs.length+1
 |[]=>by simp[dN]
 |(k,x)::r=>by
  have ih:=R0 f v r;rw[show dN f v ((k,x)::r)=(if k=f then(k,v)::r else(k,x)::dN f v r) from rfl];by_cases hk:k=f
  ·rw[if_pos hk,cG,cG];lia
  ·rw[if_neg hk,cG,cG];lia
def jU.some_of{o:Option Value}(r:jU (some v) o):∃u,o=some u/\bC v u:=by
 cases o with
 |none=>exact(show False from r).elim
 |some u=>exact aF u rfl r
def aeV(r:bC v u):auS u=true:=by
 cases v with
 |aL=>cases(show u=i9 from r);rfl
 |bl b=>cases(show u=CW b from r);rfl
 |int i=>obtain⟨t,e⟩:=(show∃t,u=CV i t from r);cases e;rfl
 |str x=>obtain⟨t,e⟩:=(show∃t,u=O1 x t from r);cases e;rfl
 |lr b=>obtain⟨t,e⟩:=(show∃t,u=auu b t from r);cases e;rfl
 |yl b=>obtain⟨t,e⟩:=(show∃t,u=auv b t from r);cases e;rfl
 |ref a=>cases(show u=c9 a from r);rfl
 |ty n=>cases(show u=ZV n from r);rfl
section
variable{P:Program}{w:a9}{H H':Hp}{h h':Heap}{a C dx:Addr}{fs yo:List (Str×V)}
def K9(aG:dy P w H h)(e:H a=some (.ins C dx fs)):∃mA,yE h a dx C mA/\(∀f,jU (fs.lookup f) (mA f))/\ZW mA (fs.map (·.1))/\fs.length<=1000/\H dx=some (.own a):=by refine fi (show d9 P w H h a (.ins C dx fs) from aG a _ e) λd z ne ob AG=>?_;refine bc AG λmA n r q=>?_;exact⟨mA,⟨ob,n,ne⟩,r,q,z,d⟩
end
structure l8 (K:aV) (C:Addr):Prop where
 pg:JE K C aaa=true
 hd:O8 K C=true
 po:Z8 K C=true
 sa:uN K (.ref C) "__setattr__"=some (some (.builtin "object.__setattr__"))
def l8.get(c:l8 K C)(f:Str):JE K C f=true:=c.pg
def dj(K:aV)(C:Addr)(f:Str):Prop:=uN K (.ref C) f=some none
def dj.aeW{f:Str}(n:dj K C f):Z9 K C f=some none:=by unfold Z9;rw[show uN K (.ref C) f=some none from n];rfl
section
variable{X:Cx}{aa:List (Addr×Obj)}{σ:St}{H:Hp}{s:aw}{a C dx:Addr}{fs:List (Str×V)}{f:Str}{v:V}{A:cX}{E:Value->aw->Prop}
def K_{b:Bool}(I:ak X aa σ H s)(e:H a=some (.ins C dx fs))(c:l8 X.K C)(n:dj X.K C f)(l:fs.lookup f=some v)
  (h:∀u s',ak X aa σ H s'->bC v u->Q u s'):aM (aR X.prog X.w) A (JF (.ref a) f b) Q E s:=by
 refine u9 (K9 I.aG e) λmA O r _ _ _=>?_;refine ar (jU.some_of (v:=v) (o:=mA f) (by rw[<-l];exact r f)) λu hu ru=>?_;exact aeQ I.fW O (c.get f) c.hd n hu (aeV ru) (h u _ (I.tok _) ru)
def R1{y:V}{Q:Unit->aw->Prop}(I:ak X aa σ H s)(e:H a=some (.ins C dx fs))(c:l8 X.K C)(n:dj X.K C f)(hl:fs.length<1000)(ry:bC y u)
  (h:∀s',ak X aa σ (upd H a (.ins C dx (dN f y fs))) s'->Q () s'):aM (aR X.prog X.w) A (JG (.ref a) f u) Q E s:=by
 refine u9 (K9 I.aG e) λmA O r wi _ ho=>?_;have hz:(fs.map (·.1)).length<=sizeLine:=by rw[aA,JD];lia
 refine aeR I.fW O c.sa c.po n.aeW c.hd wi hz λh' O' sb=>h _ ?_;have hd:∃o,h'.get? dx=some o:=gb O'.ns λo _ _ e' _=>⟨o,e'⟩
 refine I.write (x:=a) (e:=dx) (by rw[e];exact uP) (.inr ho) (λb q hb z=>(sb.2 b hb).trans z) hd ?_;refine⟨by rw[aj O.ne];exact ho,?_,O.ne,O'.obj,_,O'.ns,λg=>?_,λg hg=>?_⟩
 ·have:=R0 f y fs;lia
 ·show jU ((dN f y fs).lookup g) (if g=f then some u else mA g);rw[RZ];by_cases q:g=f
  ·rw[if_pos q,if_pos q];exact ry
  ·rw[if_neg q,if_neg q];exact r g
 ·by_cases q:g=f
  ·rw[q];exact(K8 f y fs).1
  ·refine(K8 f y fs).2 g (wi g λz=>hg ?_);show(if g=f then some u else mA g)=none;rw[if_neg q];exact z
def ak.made(I:ak X aa σ H s):ak X aa σ (upd (upd H s.heap.objs.size (.own (s.heap.objs.size+1))) (s.heap.objs.size+1) (.ins C s.heap.objs.size []))
  {s with heap:=(s.heap.push uO).push (xR C s.heap.objs.size)}:=by
 have e1:(s.heap.push uO).get? s.heap.objs.size=some uO:=h7 s.heap rfl;have e2:((s.heap.push uO).push (xR C s.heap.objs.size)).get? (s.heap.objs.size+1)=some (xR C s.heap.objs.size):=by
  have:=h7 (s.heap.push uO) (o:=xR C s.heap.objs.size) rfl
  rwa [mR]at this
 have e3:(s.heap.push uO).Ns s.heap.objs.size (λ_=>none):=(kj uO (#[]) _ e1 rfl (λe he=>absurd he (by simp)) λ_=>rfl);have I1:=I.laid (a:=s.heap.objs.size) (o:= .own (s.heap.objs.size+1)) (h':=s.heap.push uO) (t':=s.toks) (λb u q=>fc _ q) (aX _) ⟨_,e1⟩;refine I1.laid (a:=s.heap.objs.size+1) (o:= .ins C s.heap.objs.size []) (t':=s.toks) (λb u q=>fc _ q) (JI (mR _ _)) ?_;have ne:s.heap.objs.size≠s.heap.objs.size+1:=gQ (aab _);refine⟨by rw[aj ne,ag],iO _,ne,e2,λ_=>none,(auW e3).at λo q=>fc _ q,λ_=>uP,λy hy=>absurd rfl hy⟩
def R3{prog:Program}{w:a9}{env:Env}{e:bf}{f:Str}{pos:Pos}{s:aw}(hb:mS e f env (eval e env)=eval e env)
  (h:aM (aR prog w) A (eval e env) (λo s₁=>aM (aR prog w) A (JF o f true) Q E s₁) E s):aM (aR prog w) A (eval (.Attribute e f pos) env) Q E s:=
 Attribute_any_ h (by rw[arm_eval_Attribute,hb])
end
def vJ(K:aV)(ta:TE)(f:Str):TE:=λσ H Q=>ta σ H λx H1=>∃a C dx fs v,x= .ref a/\H1 a=some (.ins C dx fs)/\l8 K C/\dj K C f/\fs.lookup f=some v/\Q v H1
def aeX(K:aV)(ta tv:TE)(f:Str):TS:=λD σ H=>tv σ H λy H1=>ta σ H1 λx H2=>∃a C dx fs,x= .ref a/\H2 a=some (.ins C dx fs)/\l8 K C/\dj K C f/\fs.length<1000/\
 D.nx σ (upd H2 a (.ins C dx (dN f y fs)))
def R4(X:Cx)(op:C5)(rd:V->V->Hp->VK->Prop):Prop:=
 ∀(aa:List (Addr×Obj))(s:aw)(σ:St)(H:Hp)(x y:V)(u v:Value)(Q:VK),ak X aa σ H s->bC x u->bC y v->rd x y H Q->aM (aR X.prog X.w) X.A (xS op u v) (EP X aa σ Q) X.xe s
def aeY(K:aV)(ta tv:TE)(rd:V->V->Hp->VK->Prop)(f:Str):TS:=λD σ H=>ta σ H λx H1=>∃a C dx fs v,x= .ref a/\H1 a=some (.ins C dx fs)/\l8 K C/\dj K C f/\fs.lookup f=some v/\
 tv σ H1 λy H2=>rd v y H2 λz H3=>∃kH yo,H3 a=some (.ins C kH yo)/\yo.length<1000/\D.nx σ (upd H3 a (.ins C kH (dN f z yo)))
section
variable{X:Cx}{o e value:bf}{f:Str}{pos pos' kE:Pos}{ta tv:TE}
def aD(he:PE X e ta)(hb:mS e f X.env (eval e X.env)=eval e X.env):PE X (.Attribute e f pos) (vJ X.K ta f):=by intro aa s σ H Q I h;refine R3 hb (aI (he aa s σ H _ I h) λu s1 ⟨x,H1,I1,rx,a,C,dx,fs,v,ex,ea,c,n,l,q⟩=>?_);subst ex;obtain rfl:u=c9 a:=rx;exact K_ I1 ea c n l λu' s2 I2 ru=>aB v H1 I2 ru q
def fj(ha:PE X o ta)(hv:PE X value tv)(hs:sE value (some (.Attribute o f pos')) pos.line X.env=pure false):PS X (.Assign [.Attribute o f pos'] value pos) (aeX X.K ta tv f):=by intro aa s σ H D I h;refine auX (aI (hv aa s σ H _ I h) λu s1 aeZ=>bb aeZ λy H1 I1 ry q=>aI (ha aa s1 σ H1 _ I1 q) λov s2 ⟨x,H2,I2,rx,a,C,dx,fs,ex,ea,c,n,l,q2⟩=>?_) hs;subst ex;obtain rfl:ov=c9 a:=rx;exact R1 I2 ea c n l ry λs3 I3=>cD σ _ I3 q2
def ae0{op:C5}{rd:V->V->Hp->VK->Prop}(ha:PE X o ta)(hv:PE X value tv)(hop:R4 X op rd):PS X (.AugAssign (.Attribute o f kE) op value pos) (aeY X.K ta tv rd f):=by intro aa s σ H D I h;refine wpAny_AugAssign_AttributeAny (aI (ha aa s σ H _ I h) λov s1 ⟨x,H1,I1,rx,a,C,dx,fs,v,ex,ea,c,n,l,q⟩=>?_);subst ex;obtain rfl:ov=c9 a:=rx;refine K_ I1 ea c n l λu s2 I2 ru=>aI (hv aa s2 σ H1 _ I2 q) λw3 s3 ae2=>bb ae2 λy H2 I3 ry q3=>aI (hop aa s3 σ H2 v y u w3 _ I3 ru ry q3) λw4 s4 ⟨z,H3,I4,rz,kH,yo,ea',l',q4⟩=>?_;exact R1 I4 ea' c n l' rz λs5 I5=>cD σ _ I5 q4
def ae4:V->V->Hp->VK->Prop:=λx y H Q=>∃i j,x= .int i/\y= .int j/\Q (.int (i+j)) H
def ae5:R4 X .Add ae4:=by rintro aa s σ H x y u v Q I rx ry ⟨i,j,rfl,rfl,q⟩;obtain⟨t,rfl⟩:=(show∃t,u=CV i t from rx);obtain⟨t',rfl⟩:=(show∃t',v=CV j t' from ry);exact axF (aB (.int (i+j)) H (I.tok _) ⟨_,rfl⟩ q)
end
end
section
variable{A:cX}{C f:Addr}{us:List Value}{kw:List (Str×Value)}{P:Program}{w:a9}{K:aV}{mg:Str->Option Value}{base:Heap}{outer:List Env}{s:aw}{H:Hp}{Q:VK}{ps N:List Str}{aa:List (Addr×Obj)}{σ:St}{vs:List V}{qual:Str}{scope:Scope}
structure eJ (k:Nat) (A:cX):Prop where
 hd:A.handled=none
 dp:A.depth+3*k+5<recursionLimit
 un:A.units+16*k+200<cLine
def eJ.mono{j k:Nat}(r:eJ k A)(h:j<=k):eJ j A:=⟨r.hd,by have:=r.dp;lia,by have:=r.un;lia⟩
theorem eJ.deeper{k:Nat}{A:cX}(r:eJ (k+1) A)(env:Env):eJ k (A.deeper env):=
 ⟨r.hd,by have:=r.dp;show A.depth+1+3*k+5<_;lia,by have:=r.un;show A.units+3+16*k+200<_;lia⟩
def ae6:(A.under (.builtin "type.__call__" ⟨.ref C::us,kw⟩)).depth=A.depth+1:=by first|rfl|simp[aac,Code.weight,Code.isCreation,Code.isGuard,Code.isCaller,auY,aad,guardIds]
def ae7:(A.under (.builtin "type.__call__" ⟨.ref C::us,kw⟩)).units=A.units+1:=by first|rfl|simp[aac,Code.cUnits,auY,aad]
def eJ.make{k:Nat}(r:eJ (k+1) A)(C:Addr)(us:List Value)(kw:List (Str×Value)):eJ k (A.under (.builtin "type.__call__" ⟨.ref C::us,kw⟩)):=
 ⟨r.hd,by have:=r.dp;rw[ae6];lia,by have:=r.un;rw[ae7];lia⟩
theorem eJ.depth{k:Nat}{A:cX}(r:eJ k A):A.depth<recursionLimit:=by have:=r.dp;lia
theorem eJ.units{k:Nat}{A:cX}(r:eJ k A):A.units+64<cLine:=by have:=r.un;lia
def m_:TA:=λ_ H Q=>Q [] H
def l9(ta:TE)(tr:TA):TA:=λσ H Q=>ta σ H λx H1=>tr σ H1 λxs H2=>Q (x::xs) H2
section
variable{X:Cx}{e:bf}{es:List bf}{te:TE}{t:TA}{pos:Pos}
def az:PA X [] m_:=λ_ _ _ _ H Q I h=>O9 (aB [] H I .nil h)
def ae(ha:PE X e te)(hr:PA X es t)(hs:cJ (e::es) X.env=(false,eval e X.env)::cJ es X.env:=by rfl):PA X (e::es) (l9 te t):=by intro pos aa s σ H Q I h;rw[hs];show aM _ _ (spliced ((false,eval e X.env)::jI pos (cJ es X.env))) _ _ s;refine C9 (aI (ha aa s σ H _ I h) λu s1 ae8=>bb ae8 λx H1 I1 r1 q1=>?_);exact aI (hr pos aa s1 σ H1 _ I1 q1) λus s2 ae9=>bb ae9 λxs H2 I2 r2 q2=>aB (x::xs) H2 I2 (.cons r1 r2) q2
def ae_(t:TA):TE:=λσ H Q=>t σ H λxs H1=>xs.length<=sizeLine/\∀p,H1 p=none->Q (.ref p) (upd H1 p (.tup xs))
def afa(t:TA):TE:=λσ H Q=>t σ H λxs H1=>xs.length<=sizeLine/\∀p,H1 p=none->Q (.ref p) (upd H1 p (.lst xs))
def oP{x1}(h:PA X es t):PE X (.Tuple es x1 pos) (ae_ t):=by
 intro aa s σ H Q I hq;refine wpAny_Tuple_spliced (aI (h pos aa s σ H _ I hq) λus s1 afb=>lj afb λxs H1 I1 r z q=>⟨by rw[<-r.length];exact z,?_⟩);have hf:H1 s1.heap.objs.size=none:=I1.aG.fresh (aX _)
 refine aB (.ref s1.heap.objs.size) (upd H1 s1.heap.objs.size (.tup xs)) (I1.laid (t':=s1.toks) (λb u e=>fc _ e) (aX _) ?_) rfl (q _ hf);exact cg z us r (aW _ (h7 _ rfl) rfl ⟨_,rfl⟩)
def cK(h:PA X es t):PE X (.List es pos) (afa t):=by
 intro aa s σ H Q I hq;refine wpAny_List_spliced (aI (h pos aa s σ H _ I hq) λus s1 afc=>lj afc λxs H1 I1 r z q=>⟨by rw[<-r.length];exact z,?_⟩);have hf:H1 s1.heap.objs.size=none:=I1.aG.fresh (aX _)
 refine aB (.ref s1.heap.objs.size) (upd H1 s1.heap.objs.size (.lst xs)) (I1.laid (t':=s1.toks) (λb u e=>fc _ e) (aX _) ?_) rfl (q _ hf);exact k_ z us 0 r (h7 _ rfl)
end
abbrev Sp:=List V->Hp->VK->XK->Prop
abbrev ly:=List Env->Hp->aw->XK->Value->aw->Prop
structure rE (P:Program) (w:a9) (K:aV) (mg:Str->Option Value) (base:Heap) (A:cX) (outer:List Env) (s:aw) (H:Hp):Prop where
 frames:A.frames=some outer
 mod:Mod K mg base
 bs:∀b o,base.get? b=some o->s.heap.get? b=some o/\H b=none
 mZ:base.objs.size<=s.heap.objs.size
 kz:s.heap.FunFrames base outer
 m3:∀b∈ic outer,H b=none
 aG:dy P w H s.heap
 bare:uL s.gens
def CE(outer:List Env)(P:Program)(w:a9)(H:Hp)(s:aw)(Q:VK)(u:Value)(s':aw):Prop:=
 ∃v H',s'.os=s.os/\uL s'.gens/\Un (ic outer) [] H H' s.heap s'.heap/\dy P w H' s'.heap/\bC v u/\Q v H'
def CR(CX:ly)(outer:List Env)(P:Program)(w:a9)(H:Hp)(s:aw)(Q:VK)(E:XK)(r:JH)(s':aw):Prop:=
 match r with
 | .ok (.ret u)=>CE outer P w H s Q u s'
 | .ok _=>False
 | .error e=>CX outer H s E e s'
structure aZ (P:Program) (w:a9) (K:aV) (mg:Str->Option Value) (base:Heap) (CX:ly) (k:Nat) (f:Addr) (fd:bg) (ps:List Str) (sp:Sp):Prop where
 len:∀vs H Q E,sp vs H Q E->vs.length=ps.length
 run:∀(A:cX)(outer:List Env)(s:aw)(H:Hp)(args:Args)(us:List Value)(vs:List V)(Q:VK)(E:XK),eJ k A->rE P w K mg base A outer s H->C_ s fd args (ps.zip us)->bB vs us->sp vs H Q E->
  sG (aR P w) A (.call (.ref f) args) (CR CX outer P w H s Q E) s
theorem aZ.mono{P:Program}{w:a9}{K:aV}{mg:Str->Option Value}{base:Heap}{CX:ly}{j k:Nat}{f:Addr}{fd:bg}{ps:List Str}{sp:Sp}(F:aZ P w K mg base CX j f fd ps sp)(h:j<=k):
 aZ P w K mg base CX k f fd ps sp:=⟨F.len,λA outer s H args us vs Q E hr=>F.run A outer s H args us vs Q E (hr.mono h)⟩
def rE.make(e:rE P w K mg base A outer s H)(C:Addr)(us:List Value)(kw:List (Str×Value)):
 rE P w K mg base (A.under (.builtin "type.__call__" ⟨.ref C::us,kw⟩)) outer s H:=⟨by first|exact e.frames|(simpa[aac,Code.envs,aad,pushEnvs]using e.frames),e.mod,e.bs,e.mZ,e.kz,e.m3,e.aG,e.bare⟩
section
variable{X:Cx}{aa:List (Addr×Obj)}{σ:St}{H:Hp}{s s':aw}
def ak.Er(I:ak X aa σ H s):rE X.prog X.w X.K X.mg X.base X.A X.stack s H:=
 ⟨I.ok.frames,I.ok.mod,I.bs,i8 I.ok.mZ I.sz,I.stack,I.KH,I.aG,I.bare⟩
def ak.after{u:Value}(I:ak X aa σ H s)(h:CE X.stack X.prog X.w H s Q u s'):EP X aa σ Q u s':=by refine iE h λv H' os bare un aG afd=>?_;refine eA afd λr q=>?_;obtain⟨hh,g,d,t,os'⟩:=s';obtain rfl:os'=s.os:=os;exact aB v H' (I.call (h':=hh) (g':=g) (d':=d) (t':=t) (ch:=[]) un aG bare (λb z=>absurd z (by simp))) r q
end
def R5(sp:Sp)(jy:List V)(E:XK)(t:TA):TE:=λσ H Q=>t σ H λvs H1=>sp (vs++jy) H1 Q E
def AI(C:Addr)(sp:Sp)(jy:List V)(E:XK)(t:TA):TE:=λσ H Q=>t σ H λvs H1=>∀x dx,H1 x=none->H1 dx=none->dx≠x->
 sp (.ref x::(vs++jy)) (upd (upd H1 dx (.own x)) x (.ins C dx [])) (λv H2=>v= .aL/\Q (.ref x) H2) E
def lz(K:aV)(fd:bg)(ps:List Str)(ds:List Value):Prop:=
 ∀(s:aw)(us:List Value),K.In s.heap->(us++ds).length=ps.length->C_ s fd ⟨us,[]⟩ (ps.zip (us++ds))
def lz.all{fd:bg}(h:∀us:List Value,us.length=ps.length->sH fd ⟨us,[]⟩=pure (ps.zip us)):lz K fd ps []:=λs us _ hl=>by rw[qR]at hl⊢;exact .of_eq (h us hl)
def yF(CX:ly)(X:Cx)(E:XK):Prop:=∀(aa:List (Addr×Obj))(σ:St)(H:Hp)(s:aw)(e:Value)(s':aw),ak X aa σ H s->CX X.stack H s E e s'->X.xe e s'
section
variable{X:Cx}{CX:ly}{k:Nat}{f C:Addr}{fd:bg}{ps:List Str}{sp:Sp}{jy:List V}{ds:List Value}{E:XK}{x m:Str}{p pos apos:Pos}{e o:bf}{es:List bf}{ta:TE}{t:TA}
def R6(F:aZ X.prog X.w X.K X.mg X.base CX k f fd ps sp)(hr:eJ k X.A)(hb:lz X.K fd ps ds)(hd:bB jy ds)(hx:yF CX X E)
  (I:ak X aa σ H s) (r:bB vs us) (h:sp (vs++jy) H Q E):aM (aR X.prog X.w) X.A (mQ (.ref f) us) (EP X aa σ Q) X.xe s:=by
 have r2:bB (vs++jy) (us++ds):=r.append hd;have hl:(us++ds).length=ps.length:=by rw[<-r2.length];exact F.len _ _ _ _ h
 refine JJ (sI (F.run X.A X.stack s H ⟨us,[]⟩ (us++ds) (vs++jy) Q E hr I.Er (hb s us I.fW hl) r2 h) λr s' hq=>?_);cases r with
 |error e=>exact hx aa σ H s e s' I hq
 |ok fl=>
  cases fl with
  |ret u=>exact I.after hq
  |next=>exact iA hq
  |brk=>exact iA hq
  |cont=>exact iA hq
def aff(F:aZ X.prog X.w X.K X.mg X.base CX k f fd ps sp)(hr:eJ k X.A)(hg:Gl X x)(hm:X.mg x=some (.ref f))(hk:qU X.K (.ref f)=true)(hb:lz X.K fd ps ds)(hd:bB jy ds)(hx:yF CX X E)
  (ha:PA X (e::es) t) (gG:(x==("__debug__":Str))=false:=by decide) (he:cJ (e::es) X.env=(false,eval e X.env)::cJ es X.env:=by rfl) (fk:(jI pos (cJ es X.env)).any (·.1)=false:=by rfl):
  PE X (.Call (.Name x p) (e::es) [] pos) (R5 sp jy E t):=by
 intro aa s σ H Q I h;refine xT (vz I hg hm ?_ gG);refine JK (h₀:=X.base) I.ok.mod.vx hk (aI (ha pos aa s σ H _ I h) λus s1 afg=>bb afg λvs H1 I1 r q=>⟨I1.fW,?_⟩) he fk;exact R6 F hr hb hd hx I1 r q
structure Mk (K:aV) (C f:Addr):Prop where
 makes:Z_ K C=true
 init:uN K (.ref C) "__init__"=some (some (.ref f))
 fn:JL K (.ref f)=true
 kp:qU K (.ref C)=true
def R7(M:Mk X.K C f)(F:aZ X.prog X.w X.K X.mg X.base CX k f fd ps sp)(hr:eJ (k+1) X.A)(hb:lz X.K fd ps ds)(hd:bB jy ds)
  (hx:yF CX X E) (I:ak X aa σ H s) (r:bB vs us)
  (h:∀x dx,H x=none->H dx=none->dx≠x->sp (.ref x::(vs++jy)) (upd (upd H dx (.own x)) x (.ins C dx [])) (λv H2=>v= .aL/\Q (.ref x) H2) E):
  aM (aR X.prog X.w) X.A (mQ (.ref C) us) (EP X aa σ Q) X.xe s:=by
 have hq:=h (s.heap.objs.size+1) s.heap.objs.size (I.aG.fresh (sJ _)) (I.aG.fresh (aX _)) (gQ (aab _));have I2:=ak.made (C:=C) I;have r2:bB (V.ref (s.heap.objs.size+1)::(vs++jy)) (c9 (s.heap.objs.size+1)::(us++ds)):= .cons rfl (r.append hd);have hl:(c9 (s.heap.objs.size+1)::us++ds).length=ps.length:=by have e:=r2.length;rw[F.len _ _ _ _ hq]at e;exact e.symm
 refine JJ (aeU (f:=f) I.fW M.makes M.init (beq_iff_eq.mp M.fn) (sI (F.run _ X.stack _ _ ⟨c9 (s.heap.objs.size+1)::us,[]⟩ (c9 (s.heap.objs.size+1)::(us++ds)) _ _ E (hr.make C us []) (I2.Er.make C us []) (hb _ (c9 (s.heap.objs.size+1)::us) I2.fW hl) r2 hq) λr s' qa=>?_))
 cases r with
 |error e=>exact hx aa σ _ _ e s' I2 qa
 |ok fl=>
  cases fl with
  |ret u=>
   refine lj (I2.after qa) λv H' I3 rv ev q3=>?_;subst ev;exact⟨rv,aB (V.ref (s.heap.objs.size+1)) H' I3 rfl q3⟩
  |next=>exact iA qa
  |brk=>exact iA qa
  |cont=>exact iA qa
def afh(M:Mk X.K C f)(F:aZ X.prog X.w X.K X.mg X.base CX k f fd ps sp)(hr:eJ (k+1) X.A)(hg:Gl X x)(hm:X.mg x=some (.ref C))(hb:lz X.K fd ps ds)(hd:bB jy ds)(hx:yF CX X E)
  (ha:PA X (e::es) t) (gG:(x==("__debug__":Str))=false:=by decide) (he:cJ (e::es) X.env=(false,eval e X.env)::cJ es X.env:=by rfl) (fk:(jI pos (cJ es X.env)).any (·.1)=false:=by rfl):
  PE X (.Call (.Name x p) (e::es) [] pos) (AI C sp jy E t):=by
 intro aa s σ H Q I h;refine xT (vz I hg hm ?_ gG);refine JK (h₀:=X.base) I.ok.mod.vx M.kp (aI (ha pos aa s σ H _ I h) λus s1 afi=>bb afi λvs H1 I1 r q=>⟨I1.fW,?_⟩) he fk;exact R7 M F hr hb hd hx I1 r q
def afj(M:Mk X.K C f)(F:aZ X.prog X.w X.K X.mg X.base CX k f fd ps sp)(hr:eJ (k+1) X.A)(hg:Gl X x)(hm:X.mg x=some (.ref C))(hb:lz X.K fd ps ds)(hd:bB jy ds)(hx:yF CX X E)
  (gG:(x==("__debug__":Str))=false:=by decide):PE X (.Call (.Name x p) [] [] pos) (AI C sp jy E m_):=by
 intro aa s σ H Q I h;refine xT (vz I hg hm ?_ gG);exact PySem.W.callWith_K0 I.fW M.kp (R7 (us:=[]) M F hr hb hd hx I .nil h)
end
def PK(X:Cx)(AJ:List sM)(t:TA):Prop:=
 ∀(pos:Pos)(aa:List (Addr×Obj))(s:aw)(σ:St)(H:Hp)(Q:List V->Hp->Prop),ak X aa σ H s->t σ H Q->aM (aR X.prog X.w) X.A (evalAll ((zQ pos (zR AJ X.env)).map (·.2))) (AP X aa σ Q) X.xe s
section
variable{X:Cx}{CX:ly}{k:Nat}{f C:Addr}{fd:bg}{ps ks:List Str}{sp:Sp}{E:XK}{x m:Str}{p pos apos La:Pos}{e o:bf}{es:List bf}{AJ:List sM}{te ta:TE}{t tk:TA}{nm:Option Str}
def afk:PK X [] m_:=λ_ _ _ _ H Q I h=>wpAny_evalAll_nil (aB [] H I .nil h)
def afl(ha:PE X e te)(hr:PK X AJ t):PK X (⟨nm,e,La⟩::AJ) (l9 te t):=by intro pos aa s σ H Q I h;show aM _ _ (evalAll ((do let v<-eval e X.env;Jx pos;pure v)::(zQ pos (zR AJ X.env)).map (·.2))) _ _ s;refine wpAny_evalAll_cons (cv (aI (ha aa s σ H _ I h) λu s1 afm=>bb afm λx H1 I1 r1 q1=>cv (C8 (eQ ?_))));exact aI (hr pos aa s1 σ H1 _ I1 q1) λus s2 afn=>bb afn λxs H2 I2 r2 q2=>aB (x::xs) H2 I2 (.cons r1 r2) q2
variable{g:List Value->List Value->List Value}{gV:List V->List V->List V}
end
structure bE (N P:List Str) (sc:Scope):Prop where
 kind:sc.kind= .function
 co:sc.isCoroutine=false
 gen:sc.isGenerator=false
 nd:N.Nodup
 pre:N.take P.length=P
 par:∀x∈P,sc.names.lookup x=some .local\/sc.names.lookup x=some .cell
 afo:∀y∈sc.names,y.2≠ .free
theorem R8{kindOf:Str->Option k6}{x:Str}:∀{binds:List (Str×Value)}{m:Str->Option Value},(∀v,(x,v)∉binds)->xU kindOf binds m x=m x
 |[],_,_=>rfl
 |(n,v)::r,m,h=>by
  unfold xU;rw[R8 λw hw=>h w (dn _ hw)];split
  ·have:x≠n:=by rintro rfl;exact h v pE
   simp[this]
  ·rfl
theorem R9{kindOf:Str->Option k6}{x:Str}:∀{binds:List (Str×Value)}{m:Str->Option Value},(∀v,(x,v)∉binds)->xV kindOf binds m x=m x
 |[],_,_=>rfl
 |(n,v)::r,m,h=>by
  unfold xV;rw[R9 λw hw=>h w (dn _ hw)];split
  ·rfl
  ·have:x≠n:=by rintro rfl;exact h v pE
   simp[this]
theorem R_{kindOf:Str->Option k6}{x:Str}{v:Value}:∀{P:List Str}{vs:List Value}{i:Nat}{m:Str->Option Value},P.Nodup->P[i]?=some x->vs[i]?=some v->kindOf x=some .local->
  xU kindOf (P.zip vs) m x=some v
 |[],_,_,_,_,h,_,_=>by simp at h
 |_::_,[],_,_,_,_,h,_=>by simp at h
 |p::P,w::vs,0,m,nd,h1,h2,hk=>by
  simp at h1 h2;subst h1;subst h2;show xU kindOf ((p,w)::P.zip vs) m p=_;unfold xU;rw[R8 λv hv=>(qN.mp nd).1 (aae hv).1,if_pos hk];simp
 |p::P,w::vs,i+1,m,nd,h1,h2,hk=>by
  show xU kindOf ((p,w)::P.zip vs) m x=_;unfold xU;exact R_ (i:=i) (qN.mp nd).2 (by simpa using h1) (by simpa using h2) hk
theorem Sa{kindOf:Str->Option k6}{x:Str}{v:Value}:∀{P:List Str}{vs:List Value}{i:Nat}{m:Str->Option Value},P.Nodup->P[i]?=some x->vs[i]?=some v->kindOf x≠some .local->
  xV kindOf (P.zip vs) m x=some v
 |[],_,_,_,_,h,_,_=>by simp at h
 |_::_,[],_,_,_,_,h,_=>by simp at h
 |p::P,w::vs,0,m,nd,h1,h2,hk=>by
  simp at h1 h2;subst h1;subst h2;show xV kindOf ((p,w)::P.zip vs) m p=_;unfold xV;rw[R9 λv hv=>(qN.mp nd).1 (aae hv).1,if_neg hk];simp
 |p::P,w::vs,i+1,m,nd,h1,h2,hk=>by
  show xV kindOf ((p,w)::P.zip vs) m x=_;unfold xV;exact Sa (i:=i) (qN.mp nd).2 (by simpa using h1) (by simpa using h2) hk
def start(N:List Str)(vs:List V):St:=vs.map some++cW (N.length-vs.length) none
def jX(CX:ly)(P:Program)(w:a9)(K:aV)(mg:Str->Option Value)(base:Heap)(N:List Str)(qual:Str)(scope:Scope)(f:Addr)(cd:Value)(A:cX)(outer:List Env)(s:aw)(H:Hp)(E:XK):Cx where
 prog:=P
 w:=w
 K:=K
 mg:=mg
 base:=base
 A:=A.deeper (qV qual scope s.heap.objs.size f cd)
 N:=N
 gZ:=s
 vy:=H
 env:=qV qual scope s.heap.objs.size f cd
 outer:=outer
 stack:=qV qual scope s.heap.objs.size f cd::outer
 ex:=[]
 calm:=true
 fn:=λ_=>true
 pn:=[]
 xe:=λe s'=>aM (aR P w) (A.deeper (qV qual scope s.heap.objs.size f cd)) (aaf (qV qual scope s.heap.objs.size f cd) e) (λ_ AK=>CX outer H s E e AK) (λe' AK=>CX outer H s E e' AK) s'
def Sb{sc:Scope}{n:Nat}{x:Str}(h:sc.names.lookup x=some .cell):∃c,(iQ n sc.names []).lookup x=some c:=by have q:=auZ sc.names n [] (.inl h);exact au0.mp q
def afp{CX:ly}{cd:Value}{s1:aw}{E:XK}
  (S:bE N ps scope) (hd:A.handled=none) (e0:rE P w K mg base A outer s H) (hl:vs.length=ps.length) (r:bB vs us)
  (x:InCallC s s.heap.objs.size (xU (qV qual scope s.heap.objs.size f cd).kindOf (ps.zip us) λ_=>none) (iQ (s.heap.objs.size+1) scope.names []) (xV (qV qual scope s.heap.objs.size f cd).kindOf (ps.zip us) λ_=>none) s1):
  ak (jX CX P w K mg base N qual scope f cd A outer s H E) [] (start N vs) H s1:=by
 have fk:ps.length<=N.length:=by have:=congrArg sN S.pre;rw[fw]at this;lia
 refine bZ x.done λh1 tk afq hk=>?_;obtain rfl:=afq;have AL:∀b:Addr,b∉(jX CX P w K mg base N qual scope f cd A outer s H E).ex:=λb z=>absurd (show b∈([]:List Addr) from z) (by simp)
 refine⟨⟨e0.mod,S.kind,rfl,rfl,aX _,λy z c h1 h2=>?_,λy hy=>?_,λy c _ h=>?_,λ_=>hd,cX.frames_deeper e0.frames, .inr ⟨rfl,rfl⟩,λb z=>absurd z (AL b),e0.bs,e0.mZ,λb _ _=>AL b,λb z=>absurd z (AL b),e0.kz,e0.m3⟩,rfl,e0.bare,Un.kept hk,aq x.toInCall.ns λi y v h1 h2 h3=>?_,λy c h=>⟨_,x.cell y c h⟩,e0.aG.fresh (aX _),λy c h=>?_,λp hp=>absurd (show p∈([]:List (Addr×Obj)) from hp) (by simp),e0.aG.kept hk,?_⟩
 ·exact name_of_addr x.apart (lP h1) (lP h2)
 ·have hy:scope.names.lookup y=some .cell\/scope.names.lookup y=some .free:=hy;rcases hy with hy|hy
  ·exact Sb hy
  ·exact absurd rfl (S.afo _ (lP hy))
 ·exact Ju (x.above y c (lP h))
 ·have hi:i<vs.length:=by
   unfold start at h2;by_cases hi:i<vs.length
   ·exact hi
   ·rw[uQ (by simpa using hi)]at h2;rw[qO]at h2;split at h2<;>cases h2
  have ha:vs[i]?=some v:=by
   unfold start at h2;rw[qS (by simpa using hi),qJ]at h2;cases e:vs[i]?with
   |none=>rw[e]at h2;cases h2
   |some a=>rw[e]at h2;cases h2;rfl
  refine ar (r.get ha) λu hu rv=>?_;have hp:ps[i]?=some y:=by rw[<-S.pre,JM (by lia)];exact h1
  have Sd:ps.Nodup:=by rw[<-S.pre];exact S.nd.sublist (List.take_sublist _ _)
  refine aF u rv ?_;rcases S.par y (cP hp)with k|k
  ·exact .inl ⟨k,R_ Sd hp hu k⟩
  ·obtain⟨c,e⟩:=Sb (n:=s.heap.objs.size+1) k;refine .inr (cg (.inl k) c e ?_);have q:=x.cell y c e
   rw[Sa Sd hp hu (by show scope.names.lookup y≠_;rw[k];decide)]at q;exact q
 ·exact e0.aG.fresh (Ju (x.above y c (lP h)))
 ·unfold start;show _=N.length;rw[cj,aA,List.length_replicate];lia
def Se{CX:ly}{k:Nat}{name:Str}{params:Arguments}{body:List Stmt}{dV kV doc pm aK ct oc:Value}{an od:Option Addr}
  {l_:Array (Option Value)} {sp:Sp} (lk:K.lookup f=some ⟨oc,od, .func (jK name qual params body scope dV kV doc pm an aK ct),l_⟩) (oG:JN K aK qual=true) (S:bE N ps scope)
  (len:∀vs H Q E,sp vs H Q E->vs.length=ps.length)
  (vK:∀(A:cX)(outer:List Env)(s:aw)(H:Hp)(vs:List V)(Q:VK)(E:XK),eJ k (A.deeper (qV qual scope s.heap.objs.size f aK))->sp vs H Q E->
   ∃t,jW (jX CX P w K mg base N qual scope f aK A outer s H E) body t/\t {nx:=λ_ H'=>Q .aL H',rt:=Q} (start N vs) H):
  aZ P w K mg base CX (k+1) f (jK name qual params body scope dV kV doc pm an aK ct) ps sp:=by
 refine⟨len,λA outer s H args us vs Q E hr e0 hb r md=>?_⟩;have hl:=len _ _ _ _ md
 have KX:K.In s.heap:=e0.mod.vx.keeps λb o e=>(e0.bs b o e).1;have lim:s.heap.NoLimit:=e0.mod.nolimit.keeps λb o e=>(e0.bs b o e).1;have afr:∀y∈ps.zip us,scope.names.lookup y.1=some .local\/(scope.names.lookup y.1=some .cell/\((iQ (s.heap.objs.size+1) scope.names []).lookup y.1).isSome=true):=λ⟨n,v⟩ hy=>by
  rcases S.par n (aae hy).1 with q|q
  ·exact .inl q
  ·exact .inr ⟨q,auZ _ _ _ (.inl q)⟩
 refine codeAny_call_function hr.depth (KX _ _ lk) rfl S.co S.gen rfl (PySem.W.codeRec_of KX oG) (hb _ _ _ _ ?_);refine wpAny_newFunctionEnv_cells S.kind afr λenv he s1 x=>?_;subst he;refine⟨lim.keeps x.toInCall.keep,codeAny_func ?_⟩;refine ar (vK A outer s H vs Q E (hr.deeper _) md) λt ht hq=>?_;have I:ak (jX CX P w K mg base N qual scope f aK A outer s H E) [] (start N vs) H s1:=afp S hr.hd e0 hl r x
 refine k4 (ht [] s1 (start N vs) H _ I hq) (λfl s' hs=>?_) λe s' hs=>hs;have fin:∀{σ':St}{H':Hp}{v:V}{u:Value},ak (jX CX P w K mg base N qual scope f aK A outer s H E) [] σ' H' s'->bC v u->Q v H'->CE outer P w H s Q u s':=
  λ{σ' H' v u} J rv q=>⟨v,H',J.os,J.bare,J.base,J.aG,rv,q⟩
 cases fl with
 |ret u=>
  refine bR hs λv afs H' J rv q=>?_;obtain σ':=afs;exact fin J rv q
 |next=>
  refine bZ hs λaft H' J q=>?_;obtain σ':=aft;exact fin (v:=V.aL) (u:=i9) J rfl q
 |brk=>
  refine bZ hs λ_ _ _ q=>?_;exact iA q
 |cont=>
  refine bZ hs λ_ _ _ q=>?_;exact iA q
end
section
section
variable{X:Cx}{x:Str}{p pos:Pos}{e:bf}{es:List bf}{t:TA}{id T:String}{r:List V->Hp->VK->Prop}
def Es(r:List V->Hp->VK->Prop)(t:TA):TE:=λσ H Q=>t σ H λvs H1=>r vs H1 Q
def afu(hc:jv X (.builtin id) r)(hg:Gl X x)(hm:X.mg x=none)(hv:kg x=some (.builtin id))(ha:PA X (e::es) t)(hn:x≠"__name__":=by decide)(gG:(x==("__debug__":Str))=false:=by decide)
  (he:cJ (e::es) X.env=(false,eval e X.env)::cJ es X.env:=by rfl) (fk:(jI pos (cJ es X.env)).any (·.1)=false:=by rfl):PE X (.Call (.Name x p) (e::es) [] pos) (Es r t):=by
 intro aa s σ H Q I h;refine xT (vA I hg hm hv ?_ hn gG);exact axG (aI (ha pos aa s σ H _ I h) λus s1 afv=>bb afv λvs H1 I1 r1 q1=>hc aa s1 σ H1 vs us Q I1 r1 q1) he fk
def afw(hc:jv X (.type T) r)(hg:Gl X x)(hm:X.mg x=none)(hv:kg x=some (.type T))(ha:PA X (e::es) t)(hn:x≠"__name__":=by decide)(gG:(x==("__debug__":Str))=false:=by decide)
  (he:cJ (e::es) X.env=(false,eval e X.env)::cJ es X.env:=by rfl) (fk:(jI pos (cJ es X.env)).any (·.1)=false:=by rfl):PE X (.Call (.Name x p) (e::es) [] pos) (Es r t):=by
 intro aa s σ H Q I h;refine xT (vA I hg hm hv ?_ hn gG);exact JC (aI (ha pos aa s σ H _ I h) λus s1 afx=>bb afx λvs H1 I1 r1 q1=>hc aa s1 σ H1 vs us Q I1 r1 q1) he fk
end
end
end L2
namespace HT
open PySem PyProof.Rows
section
open PySem.SeqAt
open PySem.AutoSeq1 (wpAny_loadPart')
open PySem.MeetsSeq PySem.MeetsSeq2 PySem.MeetsSeq3
end
section
variable{prog:Program}{w:a9}{A:cX}{E:Value->aw->Prop}{s:aw}
def cE(n d:Nat):Option Int->Nat
 |none=>d
 |some v=>if v<0 then(v+(n:Int)).toNat else min v.toNat n
def afy(n d:Nat):cE n d none=d:=rfl
def Lb(n d k:Nat):cE n d (some (k:Int))=min k n:=by show(if(k:Int)<0 then((k:Int)+(n:Int)).toNat else min (k:Int).toNat n)=min k n;rw[if_neg (by lia),gR]
def Sf(n d:Nat)(hd:d<=n)(o:Option Int):cE n d o<=n:=by
 cases o with
 |none=>exact hd
 |some v=>
  show(if v<0 then(v+(n:Int)).toNat else min v.toNat n)<=n;by_cases hv:v<0
  ·rw[if_pos hv];lia
  ·rw[if_neg hv];exact Nat.min_le_right _ _
end
end HT
namespace L2
open PySem PySem.Spec PyProof.Rows
section
abbrev TO:=St->Hp->(Option Int->Hp->Prop)->Prop
def PO(X:Cx)(e:Option bf)(t:TO):Prop:=
 ∀(aa:List (Addr×Obj))(s:aw)(σ:St)(H:Hp)(Q:Option Int->Hp->Prop),ak X aa σ H s->t σ H Q->
  aM (aR X.prog X.w) X.A (evalPart e X.env) (λu s'=>∃o H',ak X aa σ H' s'/\IsPart u o/\Q o H') X.xe s
def afz:TO:=λ_ H Q=>Q none H
def afA(t:TE):TO:=λσ H Q=>t σ H λx H1=>∃i,x= .int i/\Q (some i) H1
section
variable{X:Cx}{e:bf}{te:TE}{lo hi:Option bf}{tl th:TO}{pos p2:Pos}
def afB:PO X none afz:=by intro aa s σ H Q I h;rw[au1];exact eQ (aB none H I .none h)
def AM(h:PE X e te):PO X (some e) (afA te):=by intro aa s σ H Q I hw;rw[evalPart_some];refine aI (h aa s σ H _ I hw) λu s1 afC=>bb afC λx H1 I1 r1 q1=>?_;refine ar q1 λi afD q=>?_;obtain rfl:=afD;obtain⟨t,rfl⟩:=r1;exact aB (some i) H1 I1 (.int i t) q
def Lc(X:Cx)(r:V->Option Int->Option Int->Hp->VK->Prop):Prop:=
 ∀(aa:List (Addr×Obj))(s:aw)(σ:St)(H:Hp)(x:V)(v vl vu:Value)(lo hi:Option Int)(sl:Addr)(Q:VK),ak X aa σ H s->bC x v->s.heap.IsSliceOf sl vl vu .none->IsPart vl lo->IsPart vu hi->r x lo hi H Q->
  ∃T id,om (.type T) "__getitem__"=pure (some (.builtin id))/\s.TypeIs v T/\aM (aR X.prog X.w) X.A (zN v (.ref sl)) (EP X aa σ Q) X.xe s
def tSl(r:V->Option Int->Option Int->Hp->VK->Prop)(te:TE)(tl th:TO):TE:=λσ H Q=>te σ H λx H1=>tl σ H1 λl H2=>th σ H2 λu H3=>r x l u H3 Q
def Ld{r:V->Option Int->Option Int->Hp->VK->Prop}(hr:Lc X r)(he:PE X e te)(hl:PO X lo tl)(hu:PO X hi th):PE X (.Subscript e (.Slice lo hi none p2) pos) (tSl r te tl th):=by
 intro aa s σ H Q I h;refine aag (aI (he aa s σ H _ I h) λv s1 afF=>bb afF λx H1 I1 r1 q1=>?_);refine wpAny_Slice (aI (hl aa s1 σ H1 _ I1 q1) λvl s2 afG=>bb afG λl H2 I2 pl q2=>aI (hu aa s2 σ H2 _ I2 q2) λvu s3 afH=>bb afH λu H3 I3 pu q3=>?_);rw[au1];refine eQ ?_;have I4:ak X aa σ H3 {s3 with heap:=s3.heap.push {cls:= .type "slice",data:= .fields #[vl,vu, .none]}}:=I3.kept (t':=s3.toks) λb ob q=>fc _ q
 refine bb (hr aa {s3 with heap:=s3.heap.push {cls:= .type "slice",data:= .fields #[vl,vu, .none]}} σ H3 x v vl vu l u s3.heap.objs.size Q I4 r1 (axH ..) pl pu q3) λT id hT ht hg=>?_;show aM (aR X.prog X.w) X.A (aah e (.Slice lo hi none p2) v (.ref s3.heap.objs.size)) (EP X aa σ Q) X.xe {s3 with heap:=s3.heap.push {cls:= .type "slice",data:= .fields #[vl,vu, .none]}};exact tail_any (ops:=[.ref s3.heap.objs.size,v]) ht hT hg (by with_unfolding_all rfl)
def yG(xs:List V)(lo hi:Option Int):List V:=(xs.drop (HT.cE xs.length 0 lo)).take (HT.cE xs.length xs.length hi-HT.cE xs.length 0 lo)
def afI(xs:List V)(lo hi:Option Int):(yG xs lo hi).length<=xs.length:=by unfold yG;rw[fw,sO];lia
end
end
section
variable{α:Type}{n j:Nat}{i:Int}{aa:List (Addr×Obj)}{σ:St}{H:Hp}{s:aw}{y x:V}{u v:Value}
def nj(n:Nat)(i:Int):Option Nat:=if 0<=i then(if i<n then some i.toNat else none)else if-(n:Int)<=i then some (i+n).toNat else none
def oQ(xs:List α)(i:Int):Option α:=(nj xs.length i).bind λj=>xs[j]?
def Sg(h:nj n i=some j):seqIndex? i n=some j/\j<n/\-(n:Int)<=i/\i<n:=by
 unfold nj at h;by_cases h0:0<=i
 ·rw[if_pos h0]at h;by_cases h1:i<n
  ·rw[if_pos h1]at h;have e:i.toNat=j:=eB h
   exact⟨by rw[O_ h0 h1,e],by omega,by omega,h1⟩
  ·rw[if_neg h1]at h;cases h
 ·rw[if_neg h0]at h;by_cases h1:-(n:Int)<=i
  ·rw[if_pos h1]at h;have e:(i+n).toNat=j:=eB h
   exact⟨by rw[Pa (by omega) h1,e],by omega,h1,by omega⟩
  ·rw[if_neg h1]at h;cases h
def Et{xs:List α}{v:α}(h:oQ xs i=some v):∃j,seqIndex? i xs.length=some j/\xs[j]?=some v/\j<xs.length/\-(xs.length:Int)<=i/\i<xs.length:=by
 unfold oQ at h;cases e:nj xs.length i with
 |none=>rw[e]at h;cases h
 |some j=>
  rw[e]at h;refine fz (Sg e) λh1 h2 h3 h4=>?_;exact⟨j,h1,h,h2,h3,h4⟩
def Eu{xs:List α}{v:α}(h:xs[j]?=some v):oQ xs (j:Int)=some v:=by
 have hj:j<xs.length:=(d0.mp h).1;have e:nj xs.length (j:Int)=some j:=by unfold nj;rw[if_pos (by lia),if_pos (by lia)];simp
 unfold oQ;rw[e];exact h
def afJ(b:bf):Prop:=∀o i,Pb b false o i=aai [o,i] (zN o i)
def AN(X:Cx)(r:R2):Prop:=
 ∀(value slice:bf)(aa:List (Addr×Obj))(s:aw)(σ:St)(H:Hp)(x y:V)(v u:Value)(Q:VK),ak X aa σ H s->bC x v->bC y u->r x y H Q->
  Pb slice false v u=aai [v,u] (zN v u)->aM (aR X.prog X.w) X.A (aah value slice v u) (EP X aa σ Q) X.xe s
def tU(X:Cx)(id:String)(r:V->List V->Hp->VK->Prop):Prop:=
 ∀(aa:List (Addr×Obj))(s:aw)(σ:St)(H:Hp)(x:V)(xs:List V)(v:Value)(us:List Value)(Q:VK),ak X aa σ H s->bC x v->bB xs us->r x xs H Q->
  aM (aR X.prog X.w) X.A (mQ (.builtin id) (v::us)) (EP X aa σ Q) X.xe s
section
variable{X:Cx}{a b:bf}{ta tb:TE}{pos:Pos}
def bK{r:R2}(hr:AN X r)(ha:PE X a ta)(hb:PE X b tb)(hs:afJ b):PE X (.Subscript a b pos) (AD r ta tb):=by intro aa s σ H Q I h;exact aag (K2 ha hb I h λv u s2 x y H2 I2 rx ry q=>hr a b aa s2 σ H2 x y v u Q I2 rx ry q (hs _ _))
def Le(K:aV):R2:=λx y H Q=>∃p xs i v,x= .ref p/\y= .int i/\ah K H p xs/\oQ xs i=some v/\Q v H
def afK(K:aV):R2:=λx y H Q=>∃p xs i v,x= .ref p/\y= .int i/\dm K H p xs/\oQ xs i=some v/\Q v H
def afL:R2:=λx y H Q=>∃z i c,x= .str z/\y= .int i/\z.length<=sizeLine/\oQ z.cps.toList i=some c/\Q (.str ⟨#[c]⟩) H
def bU:AN X (Le X.K):=by
 intro value slice aa s σ H x y v u Q I rx ry h hs;refine fR h λp xs i z afM afN=>?_;refine fz afN λafO hq he q=>?_;obtain rfl:=afM;obtain rfl:=afO;cases rx;obtain⟨t,rfl⟩:=ry;refine bc (I.list hq) λay r pl hz=>?_;refine u9 (Et he) λj h1 h2 h3 h4 h5=>?_;refine ar (r.get h2) λw ew me=>?_;have hl:=r.length
 have hn:=vH;have fin:EP X aa σ Q w s:=(aB z H I me q);by_cases h0:0<=i
 ·have hj:i.toNat=j:=by rw[O_ h0 h5]at h1;exact eB h1
  exact item_listR pl.isList h0 (by lia) (by rw[hj];simpa using ew) fin hs
 ·have hj:(i+(ay.toArray.size:Int)).toNat=j:=by rw[Pa (by lia) h4]at h1;rw[eY,<-hl];exact eB h1
  exact au2 (x:=w) pl.isList.typeIs slot_list_getitem.lookup
   (au3 (Q:=λr s'=>r=w/\EP X aa σ Q r s') pl.isList (by omega) (by rw[eY]<;>lia) (by lia) (by rw[hj];simpa using ew) ⟨rfl,fin⟩) hs
def Lf:AN X (afK X.K):=by
 intro value slice aa s σ H x y v u Q I rx ry h hs;refine fR h λp xs i z afP afQ=>?_;refine fz afQ λafR hq he q=>?_;obtain rfl:=afP;obtain rfl:=afR;cases rx;obtain⟨t,rfl⟩:=ry;refine bc (I.tuple hq) λay r pl hz=>?_;refine u9 (Et he) λj h1 h2 h3 h4 h5=>?_;refine ar (r.get h2) λw ew me=>?_;have hl:=r.length
 have hn:=vH;have fin:EP X aa σ Q w s:=(aB z H I me q);exact au2 (x:=w) pl.typeIs slot_tuple_getitem.lookup
  (getItem_tuple (j:=j) (Q:=λr s'=>r=w/\EP X aa σ Q r s') pl (by lia) (by lia) (by rw[eY,<-hl];exact h1) (by simpa using ew) ⟨rfl,fin⟩) hs
def Sh:AN X afL:=by
 intro value slice aa s σ H x y v u Q I rx ry h hs;refine bR h λz i c afS afT afU=>?_;refine cT afU λhz he q=>?_;obtain rfl:=afS;obtain rfl:=afT;obtain⟨t,rfl⟩:=rx;obtain⟨t',rfl⟩:=ry;refine u9 (Et he) λj h1 h2 h3 h4 h5=>?_;have hl:z.cps.toList.length=z.length:=by simp[au4]
 rw[hl]at h1 h4 h5;have hn:=vH
 exact tail_any (zS s z t) slot_str_getitem.lookup (getItem_str (c:=c) (by
  have e1:decide (i< -(2^63:Int))=false:=decide_eq_false (by lia)
  have e2:decide (i>=2^63)=false:=decide_eq_false (by lia)
  rw[e1,e2,au5]) (by rw[h1];simpa using h2) (aB (.str ⟨#[c]⟩) H (I.tok _) ⟨_,rfl⟩ q)) hs
def afV(ay:List Value)(n j:Nat)(u:Value):JO (·.setIfInBounds j u) {cls:= .type "list",data:= .seq ay.toArray n}={cls:= .type "list",data:= .seq (ay.set j u).toArray n}:=by simp[JO]
theorem ak.lst{aa:List (Addr×Obj)}{σ:St}{H:Hp}{s:aw}{p:Addr}{xs:List V}(I:ak X aa σ H s)(h:H p=some (.lst xs)):
  ∃(ay:List Value)(n:Nat),bB xs ay/\s.heap.get? p=some {cls:= .type "list",data:= .seq ay.toArray n}/\xs.length<=sizeLine:=by
 refine pK (I.aG p _ h) λz ay n r e=>?_;exact aB ay n r e z
def ak.afW{p:Addr}{xs ys:List V}{ay its':List Value}{n':Nat}{f:Obj->Obj}(I:ak X aa σ H s)(h:H p=some (.lst xs))
  (ho:s.heap.get? p=some {cls:= .type "list",data:= .seq ay.toArray n}) (hf:f {cls:= .type "list",data:= .seq ay.toArray n}={cls:= .type "list",data:= .seq its'.toArray n'}) (r:bB ys its') (hz:ys.length<=sizeLine) (t:Nat):
  ak X aa σ (upd H p (.lst ys)) {s with heap:=s.heap.update p f,toks:=t}:=by
 have e:(s.heap.update p f).get? p=some {cls:= .type "list",data:= .seq its'.toArray n'}:=by rw[Pc f ho (by rw[hf]<;>rfl),hf]
 refine I.write (x:=p) (e:=p) (by rw[h];trivial) (.inl rfl) (λb u hb q=>(zT _ _ (mP hb)).trans q) ⟨_,e⟩ ?_;exact k_ hz its' n' r e
def afX:V->V->V->Hp->(Hp->Prop)->Prop:=λo i v H Q=>∃p xs k j,o= .ref p/\i= .int k/\H p=some (.lst xs)/\nj xs.length k=some j/\Q (upd H p (.lst (xs.set j v)))
def nq:KU X afX:=by
 intro aa s σ H o i v ov iv u Q I ro ri rv h;refine fR h λp xs k j afY afZ=>?_;refine fz afZ λaf0 hp hj q=>?_;obtain rfl:=afY;obtain rfl:=af0;cases ro;obtain⟨t,rfl⟩:=ri;refine bb (I.lst hp) λay n r ho hz=>?_;refine fz (Sg hj) λh1 h2 h3 h4=>?_;have hl:=r.length
 have hn:=vH;have I':ak X aa σ (upd H p (.lst (xs.set j v))) {s with heap:=s.heap.update p (JO (·.setIfInBounds j u))}:=
  I.afW hp ho (afV ay n j u) (r.set rv j) (by rw[mM];exact hz) s.toks
 by_cases h0:0<=k
 ·have hk:k.toNat=j:=by rw[O_ h0 h4]at h1;exact eB h1
  exact PySem.W.ki_setAt ho h0 (by lia) (by rw[eY,<-hl];exact h4) (by rw[hk];exact(aq I' q))
 ·have hk:(k+(ay.toArray.size:Int)).toNat=j:=by rw[Pa (by lia) h3]at h1;rw[eY,<-hl];exact eB h1
  exact PySem.W.ki_setBack ho (by omega) (by rw[eY,<-hl];exact h3) (by lia) (by rw[hk];exact(aq I' q))
def af1(lo hi:Option Int)(n:Nat):(zU lo hi none n).1=((HT.cE n 0 lo:Nat):Int)/\(zU lo hi none n).2.1=((HT.cE n n hi:Nat):Int)/\(zU lo hi none n).2.2=1:=by
 refine b8 ?_ ?_ rfl
 ·cases lo with
  |none=>simp[zU,HT.cE]
  |some i=>
   simp only[zU,HT.cE,au6,show(1:Int)>0 by decide,if_true];by_cases h:i<0
   ·simp only[h,if_true]<;>lia
   ·simp only[h,if_false]<;>lia
 ·cases hi with
  |none=>simp[zU,HT.cE]
  |some i=>
   simp only[zU,HT.cE,au6,show(1:Int)>0 by decide,if_true];by_cases h:i<0
   ·simp only[h,if_true]<;>omega
   ·simp only[h,if_false]<;>omega
def af2(ay:List Value)(lo hi:Option Int):slicePick ay.toArray lo hi none=((ay.drop (HT.cE ay.length 0 lo)).take (HT.cE ay.length ay.length hi-HT.cE ay.length 0 lo)).toArray:=by refine cT (af1 lo hi ay.toArray.size) λh1 h2 h3=>?_;unfold slicePick;rw[h1,h2,h3];simp only[sliceRange_one,pick_run,eY]<;>rfl
def af3(K:aV):V->Option Int->Option Int->Hp->VK->Prop:=λx lo hi H Q=>∃a xs,x= .ref a/\ah K H a xs/\∀p,H p=none->Q (.ref p) (upd H p (.lst (yG xs lo hi)))
def Si:Lc X (af3 X.K):=by
 intro aa s σ H x v vl vu lo hi sl Q I rx hs pl pu h;refine bb h λa xs af4 hx q=>?_;obtain rfl:=af4;cases rx;refine bc (I.list hx) λay r ht hz=>?_;have hlen:=r.length
 refine aB ("list") _ slot_list_getitem.lookup ht.isList.typeIs ?_;refine wpAny_getItem_list_slice ht.isList hs pl pu .none (by simp) ?_ (by rw[eY]<;>lia);rw[af2,<-hlen];refine aB (.ref s.heap.objs.size) _ (I.laid (t':=s.toks) (o:= .lst (yG xs lo hi)) (λb ob q=>fc _ q) (aX _) ?_) rfl (q _ (I.aG.fresh (aX _)));exact k_ (i8 (afI xs lo hi) hz) _ 0 ((r.drop (HT.cE xs.length 0 lo)).take (HT.cE xs.length xs.length hi-HT.cE xs.length 0 lo)) (h7 _ rfl)
def tV:V->Bool
 | .aL=>true
 | .bl _=>true
 | .int _=>true
 | .str _=>true
 |_=>false
def rF:V->V->Bool
 | .aL, .aL=>true
 | .bl a, .bl b=>a==b
 | .bl a, .int b=>(if a then 1 else 0)==b
 | .int a, .bl b=>a==(if b then 1 else 0)
 | .int a, .int b=>a==b
 | .str a, .str b=>a==b
 |_,_=>false
def af5{A:cX}(ry:bC y u)(rx:bC x v)(fy:tV y=true)(fx:tV x=true):au7 A s u v (rF y x):=by
 cases y with
 |aL=>
  cases ry;cases x with
  |aL=>cases rx;exact axI _
  |bl b=>cases rx;exact axJ b
  |int b=>obtain⟨t,rfl⟩:=rx;exact au8 b t
  |str b=>obtain⟨t,rfl⟩:=rx;exact au9 b t
  |_=>exact absurd (show false=true from fx) gq
 |bl a=>
  cases ry;cases x with
  |aL=>cases rx;exact axK a
  |bl b=>cases rx;exact axL a b
  |int b=>obtain⟨t,rfl⟩:=rx;exact axM a b t
  |str b=>obtain⟨t,rfl⟩:=rx;exact axN a b t
  |_=>exact absurd (show false=true from fx) gq
 |int a=>
  obtain⟨t',rfl⟩:=ry;cases x with
  |aL=>cases rx;exact au_ a t'
  |bl b=>cases rx;exact axO a t' b
  |int b=>obtain⟨t,rfl⟩:=rx;exact axP a t' b t
  |str b=>obtain⟨t,rfl⟩:=rx;exact aus a t' b t
  |_=>exact absurd (show false=true from fx) gq
 |str a=>
  obtain⟨t',rfl⟩:=ry;cases x with
  |aL=>cases rx;exact ava a t'
  |bl b=>cases rx;exact axQ a t' b
  |int b=>obtain⟨t,rfl⟩:=rx;exact aut a t' b t
  |str b=>obtain⟨t,rfl⟩:=rx;exact axR a t' b t
  |_=>exact absurd (show false=true from fx) gq
 |_=>exact absurd (show false=true from fy) gq
def rG(x:V)(u:Value):Bool:=match u with
 | .none=>rF .aL x
 | .bool b=>rF (.bl b) x
 | .int i _=>rF (.int i) x
 | .str z _=>rF (.str z) x
 |_=>false
def Sj(r:bC y u)(f:tV y=true):rG x u=rF y x:=by
 cases y with
 |aL=>cases r;rfl
 |bl b=>cases r;rfl
 |int i=>obtain⟨t,rfl⟩:=r;rfl
 |str z=>obtain⟨t,rfl⟩:=r;rfl
 |_=>exact absurd (show false=true from f) gq
theorem Lg{x:V}:∀{xs:List V}{us:List Value},bB xs us->xs.all tV=true->us.any (rG x)=xs.any λy=>rF y x
 |_,_, .nil,_=>rfl
 |y::xs,u::us, .cons r t,f=>by
  rw[Pd,eW]at f;rw[zI,zI,Sj r f.1,Lg t f.2]
theorem Lh{A:cX}{s:aw}{x:V}{v:Value}(rx:bC x v)(fx:tV x=true):∀{xs:List V}{us:List Value},bB xs us->xs.all tV=true->∀u∈us,au7 A s u v (rG x u)
 |_,_, .nil,_=>λu hu=>by cases hu
 |y::xs,u::us, .cons r t,f=>λu' hu=>by
  rw[Pd,eW]at f;rcases cu.mp hu with rfl|hu
  ·rw[Sj r f.1];exact af5 r rx f.1 fx
  ·exact Lh rx fx t f.2 u' hu
def nt(x:V)(xs:List V):Bool:=xs.any λy=>rF y x
def rIn(K:aV)(neg:Bool):R2:=λx y H Q=>∃p xs,y= .ref p/\(ah K H p xs\/dm K H p xs)/\tV x=true/\xs.all tV=true/\Q (.bl (if neg then !nt x xs else nt x xs)) H
def af7:dB X (jJ .In) (rIn X.K false):=by
 intro aa s σ H x y v u Q I rx ry h;refine iE h λp xs af8 hq fx fs q=>?_;obtain rfl:=af8;cases ry;rcases hq with hq|hq
 ·refine bc (I.list hq) λay r pl hz=>?_;refine SeqAt.in_listAt (rG x) pl.isList (λw hw=>Lh rx fx r fs w (by simpa using hw)) (aB (.bl _) H I rfl ?_);rw[show ay.toArray.any (rG x)=ay.any (rG x) by simp,Lg r fs];exact q
 ·refine bc (I.tuple hq) λay r pl hz=>?_;refine SeqAt.in_tupleAt (rG x) pl (λw hw=>Lh rx fx r fs w (by simpa using hw)) (aB (.bl _) H I rfl ?_);rw[show ay.toArray.any (rG x)=ay.any (rG x) by simp,Lg r fs];exact q
def fD:jv X (.builtin "len") (λxs H Q=>∃p ys,xs=[.ref p]/\(ah X.K H p ys\/dm X.K H p ys)/\Q (.int ys.length) H):=by
 intro aa s σ H xs us Q I r h;refine bb h λp ys af9 hq q=>?_;obtain rfl:=af9;refine ar (l7 r) λu af_ rx=>?_;obtain rfl:=af_;cases rx;have hn:=vH
 rcases hq with hq|hq
 ·refine bc (I.list hq) λay r' pl hz=>?_;have hlen:=r'.length
  exact Calls.call_len_list pl.isList (by simp only[eY]<;>lia) (aB (.int ys.length) H (I.tok _) ⟨s.toks+1,by rw[eY,hlen]⟩ q)
 ·refine bc (I.tuple hq) λay r' pl hz=>?_;have hlen:=r'.length
  exact len_tuple pl (by simp only[eY]<;>omega) (aB (.int ys.length) H (I.tok _) ⟨s.toks+1,by rw[eY,hlen]⟩ q)
def Li:jv X (.builtin "len") (λxs H Q=>∃z,xs=[.str z]/\z.length<=sizeLine/\Q (.int z.length) H):=by
 intro aa s σ H xs us Q I r h;refine bc h λz aga hz q=>?_;obtain rfl:=aga;refine ar (l7 r) λu agb agc=>?_;refine eE agc λt agd=>?_;obtain rfl:=agb;obtain rfl:=agd;have hn:=vH
 exact len_str (by lia) (aB (.int z.length) H (I.tok _) ⟨_,rfl⟩ q)
def age:jv X (.type "list") (λxs H Q=>∃p ys,xs=[.ref p]/\(ah X.K H p ys\/dm X.K H p ys)/\∀l,H l=none->Q (.ref l) (upd H l (.lst ys))):=by
 intro aa s σ H xs us Q I r h;refine bb h λp ys agf hq q=>?_;obtain rfl:=agf;refine ar (l7 r) λu agg rx=>?_;obtain rfl:=agg;cases rx;have fin:∀(ay:List Value),bB ys ay->ys.length<=sizeLine->∀(h':Heap)(c':Nat),(∀b o',s.heap.get? b=some o'->h'.get? b=some o')->
   h'.get? s.heap.objs.size=some {cls:= .type "list",dict:=none,data:= .seq ay.toArray c',slots:=#[]}->EP X aa σ Q (.ref s.heap.objs.size) {s with heap:=h'}:=λay r' hz h' c' kp e=>
  aB (.ref s.heap.objs.size) _ (I.laid (t':=s.toks) kp (aX _) (show d9 X.prog X.w _ h' _ (.lst ys) from(k_ hz ay c' r' e))) rfl (q _ (I.aG.fresh (aX _)))
 rcases hq with hq|hq
 ·refine bc (I.list hq) λay r' pl hz=>?_;have hlen:=r'.length
  obtain⟨o,ho,hc,n,hd⟩:=pl.isList;exact avb p (.inl rfl) ho hc hd (λh' c' kp e=>fin ay r' hz h' c' kp e) (by simp only[eY]<;>omega)
 ·obtain⟨ay,r',pl,hz⟩:=I.tuple hq;have hlen:=r'.length
  obtain⟨o,ho,hc,n,hd⟩:=pl;exact avb p (.inr rfl) ho hc hd (λh' c' kp e=>fin ay r' hz h' c' kp e) (by simp only[eY]<;>omega)
def Sk:jv X (.type "tuple") (λxs H Q=>∃p ys,xs=[.ref p]/\((ah X.K H p ys/\∀l,H l=none->Q (.ref l) (upd H l (.tup ys)))\/(dm X.K H p ys/\Q (.ref p) H))):=by
 intro aa s σ H xs us Q I r h;obtain⟨p,ys,rfl,h⟩:=h;obtain⟨u,rfl,rx⟩:=l7 r;cases rx;rcases h with⟨hq,q⟩|⟨hq,q⟩
 ·obtain⟨ay,r',pl,hz⟩:=I.list hq;have hlen:=r'.length
  refine call_tuple_list pl.isList (λh' kp=>?_) (by simp only[eY]<;>omega);have I1:ak X aa σ H {s with heap:=h'}:=I.kept (t':=s.toks) kp
  have I2:ak X aa σ (upd H h'.objs.size (.tup ys)) {s with heap:=h'.push {cls:= .type "tuple",data:= .seq ay.toArray}}:=
   I1.laid (t':=s.toks) (λb o e=>fc _ e) (aX _) (show d9 X.prog X.w _ _ _ (.tup ys) from⟨hz,ay,r',IsTup.new _ _⟩)
  exact⟨.ref h'.objs.size,_,I2,rfl,q _ (I1.aG.fresh (aX _))⟩
 ·obtain⟨ay,r',pl,hz⟩:=I.tuple hq;exact call_tuple_same pl ⟨.ref p,H,I,rfl,q⟩
def Ew(K:aV)(T:String)(x:V)(H:Hp):Prop:=match x with
 | .str _=>T="str"
 | .int _=>T="int"
 | .ref p=>(T="list"/\∃xs,ah K H p xs)\/(T="tuple"/\∃o,K.lookup p=some o/\o.cls= .type "tuple"/\o.dict=none)\/
  (T="dict"/\((∃kvs,H p=some (.dK kvs))\/∃kvs,H p=some (.dT kvs)))\/(T="set"/\∃S n,H p=some (.set S n))
 |_=>False
def Sl{T:String}(I:ak X aa σ H s)(r:bC x v)(ty:Ew X.K T x H):
  s.TypeIs v T/\∀a,v= .ref a->∃ob,s.heap.get? a=some ob/\ob.dict=none:=by
 cases x with
 |str z=>
  obtain⟨t,rfl⟩:=r;cases(show T="str" from ty);exact⟨zS s z t,λ_ e=>nomatch e⟩
 |int i=>
  obtain⟨t,rfl⟩:=r;cases(show T="int" from ty);exact⟨aaj s i t,λ_ e=>nomatch e⟩
 |ref p=>
  cases r;rcases ty with⟨rfl,xs,hq⟩|⟨rfl,o,hk,hc,hd⟩|⟨rfl,hk⟩|⟨rfl,S,n,hk⟩
  ·refine bc (I.list hq) λay _ pl _=>?_;refine⟨pl.isList.typeIs,λa e=>?_⟩;cases e;refine lj pl λo n e c hd _=>?_;exact aF o e hd
  ·refine⟨aF o (I.fW p o hk) hc,λa e=>?_⟩;cases e;exact aF o (I.fW _ o hk) hd
  ·have z:∃o,s.heap.get? p=some o/\o.ExactDict:=by
    rcases hk with⟨kvs,hk⟩|⟨kvs,hk⟩
    ·refine mU (I.aG p _ hk) λ_ _ _ _ o _ _ e AO=>?_;refine eA AO λex _=>?_;exact aF o e ex
    ·refine mU (I.aG p _ hk) λ_ _ _ _ o _ _ e AO=>?_;refine eA AO λex _=>?_;exact aF o e ex
   refine ar z λo e ex=>?_;refine⟨aF o e ex.1,λa e2=>?_⟩;cases e2;exact aF o e ex.2.1
  ·refine fR (I.aG p _ hk) λo _ _ _ e AO=>?_;refine eA AO λex _=>?_;refine⟨aF o e ex.1,λa e2=>?_⟩;cases e2;exact aF o e ex.2.1
 |_=>exact iA ty
def Sm(K:aV)(T:String)(r:V->List V->Hp->VK->Prop)(to:TE):TE:=λσ H Q=>to σ H λx H1=>Ew K T x H1/\r x [] H1 Q
def Ex(K:aV)(T:String)(r:V->List V->Hp->VK->Prop)(to:TE)(t:TA):TE:=λσ H Q=>to σ H λx H1=>Ew K T x H1/\t σ H1 λxs H2=>r x xs H2 Q
variable{o e:bf}{es:List bf}{to:TE}{t:TA}{name:Str}{apos c7:Pos}{T id:String}{r:V->List V->Hp->VK->Prop}
def Sn(pa:PlainAttrs T)(slot:Slot T name id)(tW:typeOf (.builtin id)=pure (.type "method_descriptor"))(hm:tU X id r)(ho:PE X o to)
  (jz:mS o name X.env (eval o X.env)=eval o X.env:=by rfl) (jA:(apos.endLine==c7.line)=true:=by rfl):PE X (.Call (.Attribute o name apos) [] [] c7) (Sm X.K T r to):=by
 intro aa s σ H Q I h;refine wpAny_Call_method0_late jz jA (aI (ho aa s σ H _ I h) λv s1 agh=>lj agh λx H1 I1 r1 ty q1=>?_);obtain⟨h1,h2⟩:=Sl I1 r1 ty;exact⟨T,id,pa,slot,tW,h1,h2,JP rfl (avc (hm aa s1 σ H1 x [] v [] Q I1 r1 .nil q1))⟩
def So(pa:PlainAttrs T)(slot:Slot T name id)(tW:typeOf (.builtin id)=pure (.type "method_descriptor"))(hm:tU X id r)(ho:PE X o to)(ha:PA X (e::es) t)
  (jz:mS o name X.env (eval o X.env)=eval o X.env:=by rfl)
  (AQ:((jI c7 (cJ (e::es) X.env)).all (λx=>!x.1)&&(zQ c7 (zR [] X.env)).all (λx=>x.1.isSome)&&decide ((e::es).length+([]:List sM).length+(if([]:List sM).isEmpty then 0 else 1)<30))=true:=by rfl)
  (jA:(apos.endLine==c7.line)=true:=by rfl) (hs:cJ (e::es) X.env=(false,eval e X.env)::cJ es X.env:=by rfl) (agi:(jI c7 (cJ es X.env)).any (·.1)=false:=by rfl):
  PE X (.Call (.Attribute o name apos) (e::es) [] c7) (Ex X.K T r to t):=by
 intro aa s σ H Q I h;refine wpAny_Call_method_late jz AQ jA rfl (aI (ho aa s σ H _ I h) λv s1 agj=>lj agj λx H1 I1 r1 ty q1=>?_);obtain⟨h1,h2⟩:=Sl I1 r1 ty;refine⟨T,id,pa,slot,tW,h1,h2,?_⟩;have hA:=ha c7 aa s1 σ H1 _ I1 q1
 rw[hs]at hA⊢;refine JP (by show(false||(jI c7 (cJ es X.env)).any (·.1))=false;rw[agi]<;>rfl) (Pe ?_);exact aI hA λus s2 agk=>bb agk λvs H2 I2 r2 q2=>hm aa s2 σ H2 x vs v us Q I2 r1 r2 q2
end
end
section
variable{α:Type}{ay:List Value}{n t':Nat}
def Lj(X:Cx)(id:String)(r:V->List V->Hp->VK->Prop):Prop:=
 ∀(aa:List (Addr×Obj))(s:aw)(σ:St)(H:Hp)(x:V)(xs:List V)(v:Value)(us:List Value)(Q:VK),ak X aa σ H s->bC x v->bB xs us->r x xs H Q->
  aM (aR X.prog X.w) X.A (mQ (.builtin id) (v::us)) (EP X aa σ Q) X.xe s
def bB.one:∀{x:V}{us:List Value},bB [x] us->∃u,us=[u]/\bC x u
 |_,_, .cons r .nil=>aq rfl r
def bB.zero:∀{us:List Value},bB [] us->us=[]
 |_, .nil=>rfl
theorem bB.dropLast{xs:List V}{us:List Value}(h:bB xs us):bB xs.dropLast us.dropLast:=by
 induction h with
 |nil=>exact .nil
 |cons r t ih=>
  cases t with
  |nil=>exact .nil
  |cons q t'=>exact .cons r ih
theorem bB.rep{xs:List V}{us:List Value}(h:bB xs us):∀k:Nat,bB (cW k xs).flatten (cW k us).flatten
 |0=> .nil
 |k+1=>by
  rw[Dc,Dc,JQ,JQ];exact bB.append h (bB.rep h k)
def agl(l:List α):l.eraseIdx (l.length-1)=l.dropLast:=by
 induction l with
 |nil=>rfl
 |cons a r ih=>
  cases r with
  |nil=>rfl
  |cons b r=>
   have e:(a::b::r).length-1=((b::r).length-1)+1:=by have h1:(a::b::r).length=r.length+2:=rfl;have h2:(b::r).length=r.length+1:=rfl;lia
   rw[e,List.eraseIdx_cons_succ,ih]
   all_goals rfl
theorem Sq(ay:List Value):∀(k:Nat)(acc:List Value),
  OZ (λx1 x2=>x1++x2) acc.toArray (cW k ay.toArray)=(acc++(cW k ay).flatten).toArray
 |0,acc=>by simp
 |k+1,acc=>by
  have e:acc.toArray++ay.toArray=(acc++ay).toArray:=by simp
  have e2:(acc++ay)++(cW k ay).flatten=acc++(cW (k+1) ay).flatten:=by rw[Dc,JQ,kf]
  rw[<-e2,<-Sq ay k (acc++ay),<-e,Dc,og]
section
variable{X:Cx}{aa:List (Addr×Obj)}{σ:St}{H:Hp}{s:aw}{l b:Addr}{xs ys zs:List V}
def ak.Lk{its':List Value}{f:Array Value->Array Value}(I:ak X aa σ H s)(hH:H l=some (.lst xs))
  (e:s.heap.get? l=some {cls:= .type "list",data:= .seq ay.toArray n}) (hf:f ay.toArray=its'.toArray) (hv:bB ys its') (hz:ys.length<=sizeLine):
  ak X aa σ (upd H l (.lst ys)) {s with heap:=s.heap.update l (JO f),toks:=t'}:=by
 have q:=axS e f;rw[hf]at q;refine I.write (x:=l) (e:=l) (by rw[hH];exact trivial) (.inl rfl) (λb' u hb hu=>(zT s.heap (JO f) (mP hb)).trans hu) ⟨_,q⟩ ?_;exact k_ hz its' _ hv q
def ak.Sr(I:ak X aa σ H s)(hv:bB ys ay)(hz:ys.length<=sizeLine):
  ak X aa σ (upd H s.heap.objs.size (.lst ys)) {s with heap:=s.heap.push {cls:= .type "list",data:= .seq ay.toArray},toks:=t'}:=
 I.laid (λ_ _ q=>fc _ q) (aX _) (k_ hz ay 0 hv (h7 _ rfl))
theorem ak.fresh(I:ak X aa σ H s):H s.heap.objs.size=none:=I.aG.fresh (aX _)
def ak.vL(I:ak X aa σ H s)(hH:H l=some (.lst xs)):xs.length<=sizeLine/\∃(ay:List Value)(n:Nat),bB xs ay/\xs.length=ay.length/\s.heap.get? l=some {cls:= .type "list",data:= .seq ay.toArray n}:=by refine pK (I.aG l _ hH) λz ay n r e=>?_;exact⟨z,ay,n,r,r.length,e⟩
def Ss(h:n<=sizeLine):Pf n=false:=by unfold Pf;exact decide_eq_false (by lia)
end
section
variable{X:Cx}
def AR:V->List V->Hp->VK->Prop:=λx vs H Q=>∃l xs y,x= .ref l/\vs=[y]/\H l=some (.lst xs)/\xs.length<sizeLine/\Q .aL (upd H l (.lst (xs++[y])))
def agm:Lj X "list.append" AR:=by intro aa s σ H x vs v us Q I rx rv h;refine bR h λl xs y agn ago agp=>?_;refine cT agp λhH hz q=>?_;obtain rfl:=agn;obtain rfl:=ago;cases rx;refine ar rv.one λu agq ru=>?_;obtain rfl:=agq;refine u7 (I.vL hH) λz ay n r hl e=>?_;refine xW F.slot_list_append (aq e rfl) F.entry_list_append (F.args_list_append_2 _ _) (PySem.list_append l ay.toArray n u (by rw[eY];lia)) ⟨e,?_⟩;refine aB .aL _ (I.Lk (its':=ay++[u]) hH e (by simp) (r.append (.cons ru .nil)) ?_) rfl q;rw[cj,avd];lia
def Su:V->List V->Hp->VK->Prop:=λx vs H Q=>∃l b xs zs,x= .ref l/\vs=[.ref b]/\H l=some (.lst xs)/\H b=some (.lst zs)/\xs.length+zs.length<=sizeLine/\Q .aL (upd H l (.lst (xs++zs)))
def agr:Lj X "list.extend" Su:=by
 intro aa s σ H x vs v us Q I rx rv h;refine ox h λl b xs zs ags agt hH hB hz q=>?_;obtain rfl:=ags;obtain rfl:=agt;cases rx;refine ar rv.one λu agu ru=>?_;obtain rfl:=agu;cases ru;refine u7 (I.vL hH) λz ay n r hl e=>?_;refine u7 (I.vL hB) λz2 oR n2 r2 Ll e2=>?_;have hsz:ay.toArray.size+oR.toArray.size<=sizeLine:=by rw[eY,eY];lia
 have Lm:¬(!ay.toArray.isEmpty&&Pf (ay.toArray.size+oR.toArray.size))=true:=by rw[Ss hsz,ZK];exact gq
 refine xW F.slot_list_extend (aq e rfl) F.entry_list_extend (F.args_list_extend_2 _ _)
  (axT l ay.toArray n b oR.toArray n2 Lm (by rw[eY];lia) (by lia)) (b8 e e2 ?_)
 refine aB .aL _ (I.Lk (its':=ay++oR) hH e (by simp) (r.append r2) ?_) rfl q;rw[cj];lia
def agv:V->List V->Hp->VK->Prop:=λx vs H Q=>∃l xs y,x= .ref l/\vs=[]/\H l=some (.lst xs)/\xs[xs.length-1]?=some y/\Q y (upd H l (.lst xs.dropLast))
def agw:Lj X "list.pop" agv:=by
 intro aa s σ H x vs v us Q I rx rv h;refine bR h λl xs y agx agy agz=>?_;refine cT agz λhH hy q=>?_;obtain rfl:=agx;obtain rfl:=agy;cases rx;have AS:=rv.zero
 subst AS;refine u7 (I.vL hH) λz ay n r hl e=>?_;refine ar (r.get hy) λu hu ru=>?_;have J8:ay.toArray[ay.toArray.size-1]?=some u:=by show ay.toArray[ay.length-1]?=some u;rw[<-Array.getElem?_toList,<-hl];exact hu
 refine xW F.slot_list_pop (aq e rfl) F.entry_list_pop (F.args_list_pop_1 _) (axU l ay.toArray n u J8 (by rw[eY];lia)) ⟨e,?_⟩;refine aB y _ (I.Lk (its':=ay.dropLast) hH e ?_ r.dropLast ?_) ru q
 ·show ay.toArray.eraseIdxIfInBounds (ay.toArray.size-1)=ay.dropLast.toArray;rw[eY,List.eraseIdxIfInBounds_toArray,agl]
 ·rw[List.length_dropLast];lia
def agA:R2:=λx y H Q=>∃l b xs zs,x= .ref l/\y= .ref b/\H l=some (.lst xs)/\H b=some (.lst zs)/\xs.length+zs.length<=sizeLine/\∀p,H p=none->Q (.ref p) (upd H p (.lst (xs++zs)))
def Ln:dB X (oj .Add) agA:=by
 intro aa s σ H x y v u Q I rx ry h;refine ox h λl b xs zs agB agC hH hB hz q=>?_;obtain rfl:=agB;obtain rfl:=agC;cases rx;cases ry;refine u7 (I.vL hH) λz ay n r hl e=>?_;refine u7 (I.vL hB) λz2 oR n2 r2 Ll e2=>?_;refine PySem.P.add_list e e2 ?_ (by rw[eY,eY];omega);have ea:ay.toArray++oR.toArray=(ay++oR).toArray:=by simp
 rw[ea];exact aB (.ref _) _ (I.Sr (t':=s.toks) (r.append r2) (by rw[cj];lia)) rfl (q _ I.fresh)
def agD:R2:=λx y H Q=>∃l k xs,x= .ref l/\y= .int k/\H l=some (.lst xs)/\-(2^63)<=k/\k<2^63/\xs.length*k.toNat<=sizeLine/\
 ∀p,H p=none->Q (.ref p) (upd H p (.lst (cW k.toNat xs).flatten))
def agE(xs:List α)(k:Nat):(cW k xs).flatten.length=k*xs.length:=by
 induction k with
 |zero=>simp
 |succ k ih=>rw[Dc,JQ,cj,ih,Nat.succ_mul,ZU]
def yH:dB X (oj .Mult) agD:=by
 intro aa s σ H x y v u Q I rx ry h;refine bR h λl k xs agF agG agH=>?_;refine fi agH λhH h1 h2 hz q=>?_;obtain rfl:=agF;obtain rfl:=agG;cases rx;obtain⟨t,rfl⟩:=ry;refine u7 (I.vL hH) λz ay n r hl e=>?_;have hlen:ay.toArray.size*k.toNat<=sizeLine:=by rw[eY,<-hl];exact hz
 have agI:¬ay.toArray.size*k.toNat>(2^63-1)/8:=by
  have:(sizeLine:Nat)<=(2^63-1)/8:=by decide
  lia
 have jf:¬(!axV k)=true:=by rw[fitsIndex_both h1 h2];exact gq
 have Lm:¬Pf (ay.toArray.size*k.toNat)=true:=by rw[Ss hlen];exact gq
 have agJ:OZ (λx1 x2=>x1++x2) #[] (cW (if ay.toArray.isEmpty=true then 0 else k.toNat) ay.toArray)=(cW k.toNat ay).flatten.toArray:=by
  have f0:∀m:Nat,OZ (λx1 x2=>x1++x2) #[] (cW m ay.toArray)=(cW m ay).flatten.toArray:=λm=>by have:=Sq ay m [];rw[sC]at this;exact this
  rw[f0];cases ay with
  |nil=>simp
  |cons a r'=>rw[if_neg (by simp)]
 refine wpAny_binaryOp_repeat_ref (T:="list") (U:="int") (by decide) (aq e rfl) (λs'=>aaj s' k t) noFill_list_mul F.fills_int_mul ave repeat_list F.slot_int_index.lookup
  (xW ave (aaj s k t) F.entry_int_rmul (F.args_int_rmul_2 _ _) (int___rmul___int_list k t l ay.toArray n)
   (pH e rfl (aq e rfl) (xW F.slot_list_mul (aq e rfl) F.entry_list_mul (F.args_list_mul_2 _ _) (axW l ay.toArray n k t jf agI Lm) ⟨e,?_⟩)))
 rw[agJ];exact aB (.ref _) _ (I.Sr (t':=s.toks) (r.rep k.toNat) (by rw[agE,Pg];exact hz)) rfl (q _ I.fresh)
end
end
section
variable{prog:Program}{w:a9}{A:cX}
theorem bB.Sv:∀{bs:List Bool}{us:List Value},bB (bs.map V.bl) us->us=bs.map CW
 |[],us,h=>by
  rw[jH]at h;cases h;rfl
 |b::bs,us,h=>by
  rw[cM]at h;cases h with
  |cons r t=>
   cases r;rw[bB.Sv t,cM]
def bB.agK{a:Addr}{us:List Value}(r:bB [V.ref a] us):us=[c9 a]:=by
 cases r with
 |cons r t=>
  cases t;cases r;rfl
def agL{E:Value->aw->Prop}{s:aw}{l:Addr}{items:Array Value}{Q:Value->aw->Prop}(hl:s.heap.IsList l items)
  (h:∀s₂:aw,s₂={s with heap:=s.heap.push {cls:= .type "list_iterator",data:= .fields #[.ref l, .int 0 0]}}->
   (s₂.heap.IsListIter s.heap.objs.size l 0/\s₂.heap.IsList l items)->l≠s.heap.objs.size->Q (.ref s.heap.objs.size) s₂):aM (aR prog w) A (JA (.ref l)) Q E s:=by
 have bH:l<s.heap.objs.size:=by refine ar hl λ_ e _=>?_;exact cR e
 exact JB hl (h _ rfl ⟨aW _ (h7 _ rfl) rfl rfl,hl.push _⟩ (gQ bH))
def agM{bs:List Bool}{ay:List Value}(e:ay=bs.map CW):
  TruthOf prog w A (λi v=>ay.toArray[i]?=some v) (λi=>bs.getD i false):=λi v s Q E hv hq=>by
 have gf:ay[i]?=some v:=by simpa using hv
 rw[e,qJ]at gf;refine ar (avf.mp gf) λb hb agN=>?_;obtain rfl:=agN;have hg:bs.getD i false=b:=by rw[ef,hb]<;>rfl
 have qa:Q (bs.getD i false) s:=hq;rw[hg]at qa;exact uM qa
theorem Sw:∀bs:List Bool,(bD bs.length).all (λi=>bs.getD i false)=bs.all id
 |[]=>rfl
 |b::bs=>by
  rw[cG,List.range_succ_eq_map,Pd,Jq,Pd,<-Sw bs]
  all_goals rfl
section
variable{X:Cx}
def agO(K:aV):List V->Hp->VK->Prop:=λvs H Q=>∃(a:Addr)(bs:List Bool),vs=[V.ref a]/\ah K H a (bs.map V.bl)/\Q (.bl (bs.all id)) H
def Sx(hc:X.calm=true):jv X (.builtin "all") (agO X.K):=by
 intro aa s σ H vs us Q I r h;refine bb h λa bs agP hs q=>?_;obtain rfl:=agP;refine bc (I.list hs) λay rv hl _=>?_;rw[bB.agK r];have hb:=rv.Sv
 refine call_all_walk (agL hl.isList λs₂ e2 st bh=>?_);subst e2;refine⟨_,_,_,_,_,_,_,rfl,Walks.list (A:=X.A.in1) (I.ok.hd hc) _ a bh ay.toArray,st,agM hb,λh' tk hk=>?_⟩;refine aB (.bl _) H (I.kept λb o eo=>hk b o (λlV=>?_) (fc _ eo)) ?_ q
 ·rcases cu.mp lV with e1|lV
  ·exact absurd (e1▸cR eo) (qM _)
  ·cases lV
 ·show CW _=CW _;rw[<-Sw,hb,eY,aA]
end
end
section
variable{scope:Scope}{env:Env}{M:zK}{A:cX}{E:Value->aw->Prop}{s:aw}{own:List (Str×Nat)}{D a:Addr}{xs:List V}{y:Str}{elt iter tg:bf}{ifs:List bf}{pos py:Pos}{σ:St}{wi:TI}{g:TG}{tt:TT}{te:TE}{vs:List Nat}{H1:Hp}{Qd:Hp->Prop}{K:aV}
abbrev Sy(h:Heap)(c:Addr)(v:Option Value):Prop:=h.IsCell c v
def agQ(scope sc:Scope):Scope:=
 {scope with names:=scope.names.map λ(n,k)=>if(k== .free&&sc.kind== .function&&sc.names.lookup n==some .cell)then(n, .cell)else(n,k)}
def ie(cells:List (Str×Addr)):List (Str×k6)->List (Str×Addr)->List (Str×Addr)
 |[],acc=>acc
 |(n,k)::r,acc=>if k== .free then ie cells r ((n,(cells.lookup n).getD 0)::acc)else ie cells r acc
theorem Sz(env:Env)(f:Str×k6->List (Str×Addr)->Sem (ForInStep (List (Str×Addr))))
  (hf:∀n k c,f (n,k) c=if k== .free then(do let a<-cellOf env n;pure (.yield ((n,a)::c)))else pure (.yield c)):
  ∀(names:List (Str×k6))(acc:List (Str×Addr)),(∀y∈names,y.2= .free->∃c,env.cells.lookup y.1=some c)->forIn names acc f=pure (ie env.cells names acc)
 |[],acc,_=>by rw[avg];rfl
 |(n,k)::r,acc,h=>by
  rw[List.forIn_cons,hf];have ih:=λacc=>Sz env f hf r acc λy hy=>h y (dn _ hy)
  unfold ie;by_cases hk:(k==Dd)=true
  ·rw[if_pos hk,if_pos hk];obtain⟨c,hc⟩:=h (n,k) pE (by simpa using hk);have e:cellOf env n=pure c:=by unfold cellOf;rw[hc]
   rw[e];have e2:(env.cells.lookup n).getD 0=c:=by rw[hc];rfl
   rw[e2];exact ih _
  ·rw[if_neg hk,if_neg hk];exact ih _
def agR(h:∀y∈scope.names,y.2= .free->∃c,env.cells.lookup y.1=some c):closureFor scope env=pure (ie env.cells scope.names []):=by simp only[closureFor];rw[Sz env _ (λn k c=>rfl) scope.names [] h];rfl
theorem Lo{α:Type}:∀{l:List (Str×α)}{n:Str}{c:α},(n,c)∈l->∃c',l.lookup n=some c'
 |(k,v)::r,n,c,h=>by
  rw[zV];cases hb:n==k with
  |true=>exact⟨_,rfl⟩
  |false=>
   rcases cu.mp h with e|h
   ·cases e;simp at hb
   ·exact Lo h
theorem Ey{cells:List (Str×Addr)}:∀{names:List (Str×k6)}{acc:List (Str×Addr)}{n:Str}{c:Addr},(n,c)∈ie cells names acc->(n,c)∈acc\/((n, .free)∈names/\c=(cells.lookup n).getD 0)
 |[],_,_,_,h=> .inl h
 |(m,k)::r,acc,n,c,h=>by
  unfold ie at h;split at h
  ·rename_i hk;have hk:k= .free:=by simpa using hk
   rcases Ey h with h|⟨h1,h2⟩
   ·rcases cu.mp h with e|h
    ·cases e;exact .inr ⟨hk▸pE,rfl⟩
    ·exact .inl h
   ·exact .inr ⟨dn _ h1,h2⟩
  ·rcases Ey h with h|⟨h1,h2⟩
   ·exact .inl h
   ·exact .inr ⟨dn _ h1,h2⟩
theorem Lp{cells:List (Str×Addr)}:∀{names:List (Str×k6)}{acc:List (Str×Addr)}{p:Str×Addr},p∈acc->p∈ie cells names acc
 |[],_,_,h=>h
 |(m,k)::r,acc,p,h=>by
  unfold ie;split
  ·exact Lp (dn _ h)
  ·exact Lp h
theorem Lq{cells:List (Str×Addr)}:∀{names:List (Str×k6)}{acc:List (Str×Addr)}{n:Str},(n, .free)∈names->(n,(cells.lookup n).getD 0)∈ie cells names acc
 |(m,k)::r,acc,n,h=>by
  unfold ie;rcases cu.mp h with e|h
  ·cases e;exact Lp pE
  ·split
   ·exact Lq h
   ·exact Lq h
theorem AU:∀{names:List (Str×k6)}{h:Heap}{acc:List (Str×Addr)}{x:Str}{c:Addr},(x,c)∈iQ h.objs.size names acc->
  (x,c)∈acc\/((x, .cell)∈names/\h.objs.size<=c/\Sy (xX h names) c none)
 |[],_,_,_,_,h=> .inl h
 |(n,k)::r,h,acc,x,c,hm=>by
  unfold iQ at hm;unfold xX;split at hm
  ·rename_i hk;rw[if_pos hk];have hk:k= .cell:=by simpa using hk
   rw[<-mR h {cls:= .type "cell",data:= .cell none}]at hm;rcases AU hm with hm|⟨h1,h2,h3⟩
   ·rcases cu.mp hm with e|hm
    ·cases e;exact .inr (sV (hk▸pE) (aX _) _ (Ph r _ _ _ (h7 _ rfl)) rfl)
    ·exact .inl hm
   ·rw[mR]at h2;exact .inr (b8 (dn _ h1) (Pj h2) h3)
  ·rename_i hk;rw[if_neg hk];rcases AU hm with hm|⟨h1,h2,h3⟩
   ·exact .inl hm
   ·exact .inr (b8 (dn _ h1) h2 h3)
theorem Ez:∀{names:List (Str×k6)}{n:Nat}{acc:List (Str×Addr)}{p:Str×Addr},p∈acc->p∈iQ n names acc
 |[],_,_,_,h=>h
 |(m,k)::r,n,acc,p,h=>by
  unfold iQ;split
  ·exact Ez (dn _ h)
  ·exact Ez h
theorem Lr:∀{names:List (Str×k6)}{n:Nat}{acc:List (Str×Addr)}{x:Str},(x, .cell)∈names->∃c,(x,c)∈iQ n names acc
 |(m,k)::r,n,acc,x,h=>by
  unfold iQ;rcases cu.mp h with e|h
  ·cases e;exact⟨n,Ez pE⟩
  ·split
   ·exact Lr h
   ·exact Lr h
theorem Lu:∀{names:List (Str×k6)}{h:Heap}{acc:List (Str×Addr)}{x y:Str}{c:Addr},(∀p∈acc,p.2<h.objs.size)->(∀x y c,(x,c)∈acc->(y,c)∈acc->x=y)->
  (x,c)∈iQ h.objs.size names acc->(y,c)∈iQ h.objs.size names acc->x=y
 |[],_,_,_,_,_,_,hi,h1,h2=>hi _ _ _ h1 h2
 |(n,k)::r,h,acc,x,y,c,hl,hi,h1,h2=>by
  unfold iQ at h1 h2;split at h1
  ·rename_i hk;rw[if_pos hk]at h2;rw[<-mR h {cls:= .type "cell",data:= .cell none}]at h1 h2;refine Lu (h:=h.push _) (λp hp=>?_) (λx y c a b=>?_) h1 h2
   ·rw[mR];rcases cu.mp hp with rfl|hp
    ·exact aab _
    ·exact aak (hl p hp)
   ·rcases cu.mp a with e|a<;>rcases cu.mp b with e'|b
    ·cases e;cases e';rfl
    ·cases e;exact absurd (hl _ b) (qM _)
    ·cases e';exact absurd (hl _ a) (qM _)
    ·exact hi _ _ _ a b
  ·rename_i hk;rw[if_neg hk]at h2;exact Lu hl hi h1 h2
def agS{globals:Addr}{closure:List (Str×Addr)}{qual:Str}{func:Option Addr}{code:Value}{around:Env}{builtins:Addr}{Q:Env->aw->Prop}
  (h:Q (newEnv scope s.heap.objs.size globals (iQ (s.heap.objs.size+1) scope.names closure) qual func code (some around) builtins)
   {s with heap:=xX (s.heap.push {cls:= .type "dict",data:= .dict #[]}) scope.names}):
  aM M A (avh scope globals closure [] qual func code (some around) builtins) Q E s:=by
 simp only[avh,avi,if_true];refine cv (wpAny_alloc ?_);refine cv (wpAny_layCells _ (λn k c=>rfl) scope.names closure _ _ ?_);rw[show({s with heap:=s.heap.push {cls:= .type "dict",data:= .dict #[]}}:aw).heap.objs.size=s.heap.objs.size+1 from mR ..];rw[avg];exact cv (eQ (eQ h))
theorem Lv{sc:Scope}:∀{names:List (Str×k6)}{x:Str}{k:k6},
  (names.map λ(n,k)=>if(k==Dd&&sc.kind== .function&&sc.names.lookup n==some .cell)then(n,aal)else(n,k)).lookup x=some k->
  ∃k',names.lookup x=some k'/\(k=k'\/(k'= .free/\k= .cell))
 |[],_,_,h=>by simp at h
 |(n,k₀)::r,x,k,h=>by
  have ih:=@Lv sc r x k;have h':qT x ((if(k₀==Dd&&sc.kind== .function&&sc.names.lookup n==some .cell)=true then(n,aal)else(n,k₀))::(r.map _))=some k:=h;cases hx:x==n with
  |true=>
   simp only[zV,hx];by_cases hc:(k₀==Dd&&sc.kind== .function&&sc.names.lookup n==some .cell)=true
   ·rw[if_pos hc]at h';simp only[zV,hx]at h';cases h';simp only[eW,beq_iff_eq]at hc;exact aF k₀ rfl (.inr ⟨hc.1.1,rfl⟩)
   ·rw[if_neg hc]at h';simp only[zV,hx]at h';cases h';exact aq rfl (.inl rfl)
  |false=>
   simp only[zV,hx];by_cases hc:(k₀==Dd&&sc.kind== .function&&sc.names.lookup n==some .cell)=true
   ·rw[if_pos hc]at h';simp only[zV,hx]at h';exact ih h'
   ·rw[if_neg hc]at h';simp only[zV,hx]at h';exact ih h'
structure AV (N:List Str) (sc scope:Scope) (own:List (Str×Nat)):Prop where
 kind:scope.kind= .function
 uniq:∀y∈scope.names,scope.names.lookup y.1=some y.2
 ix:∀p∈own,N[p.2]?=some p.1
 free:∀y∈scope.names,y.2= .free->sc.names.lookup y.1=some .cell\/sc.names.lookup y.1=some .free
 own:∀y∈scope.names,y.2= .local\/y.2= .cell->y.1∈own.map (·.1)\/y.1∉N
def c6(σ:St):List Nat->St
 |[]=>σ
 |v::vs=>(c6 σ vs).set v none
theorem Lx(σ:St):∀vs:List Nat,(c6 σ vs).length=σ.length
 |[]=>rfl
 |v::vs=>by unfold c6;rw[mM,Lx σ vs]
theorem Ly{σ:St}{i:Nat}{x:V}:∀{vs:List Nat},(c6 σ vs)[i]?=some (some x)->σ[i]?=some (some x)/\i∉vs
 |[],h=>⟨h,by simp⟩
 |v::vs,h=>by
  unfold c6 at h;by_cases hi:v=i
  ·subst hi;by_cases hv:v<(c6 σ vs).length
   ·rw[i7 hv]at h;cases h
   ·rw[zG (by simpa using hv)]at h;cases h
  ·rw[hX hi]at h;obtain⟨h1,h2⟩:=Ly h;exact⟨h1,by simp only[cu,not_or];exact⟨λe=>hi e.symm,h2⟩⟩
abbrev Cx.iW(X:Cx)(s:aw)(H:Hp)(scope:Scope)(e_:Env)(fp:List Addr):Cx:={X with gZ:=s,vy:=H,env:=e_,outer:=X.stack,ex:=fp,fn:=λx=>scope.names.lookup x==some .cell,pn:=[],xe:=λ_ _=>False}
section
variable{X:Cx}{aa:List (Addr×Obj)}{σ:St}{H:Hp}{s:aw}
def agT{fp:List Addr}(I:ak X aa σ H s)(ok:AV X.N X.env.scope scope own)(hN:X.N.Nodup)(yI:∀b∈fp,m8 X aa H b/\b<s.heap.objs.size):
  ak (X.iW s H scope (oo scope (iQ (s.heap.objs.size+1) scope.names (ie X.env.cells scope.names [])) s.heap.objs.size X.env) fp) [] (c6 σ (own.map (·.2))) H {s with heap:=xX (s.heap.push {cls:= .type "dict",data:= .dict #[]}) scope.names}:=by
 have yw:∀y∈scope.names,y.2= .free->∃c,X.env.cells.lookup y.1=some c:=λy hy e=>by
  rcases ok.free y hy e with k|k
  ·exact I.ok.has _ (.inl k)
  ·exact I.ok.has _ (.inr k)
 generalize AW:oo scope (iQ (s.heap.objs.size+1) scope.names (ie X.env.cells scope.names [])) s.heap.objs.size X.env=e_;have kp:∀b o,s.heap.get? b=some o->(xX (s.heap.push {cls:= .type "dict",data:= .dict #[]}) scope.names).get? b=some o:=λb o e=>Ph _ _ _ _ (fc _ e)
 have hL:e_.locals=s.heap.objs.size:=by rw[<-AW];rfl
 have oS:e_.cells=iQ (s.heap.objs.size+1) scope.names (ie X.env.cells scope.names []):=by rw[<-AW];rfl
 have Lz:e_.scope=agQ scope X.env.scope:=by rw[<-AW];rfl
 rw[<-mR s.heap {cls:= .type "dict",data:= .dict #[]}]at oS;have cm:∀{y c},(y,c)∈ie X.env.cells scope.names []->X.env.cells.lookup y=some c/\c<s.heap.objs.size:=λ{y c} hm=>by
  rcases Ey hm with hm|⟨h1,rfl⟩
  ·cases hm
  ·obtain⟨c,hc⟩:=yw _ h1 rfl;rw[hc];obtain⟨w,z⟩:=I.cell _ _ hc;exact⟨rfl,z.lt⟩
 have mem:∀{y c},e_.cells.lookup y=some c->(X.env.cells.lookup y=some c/\c<s.heap.objs.size)\/(s.heap.objs.size+1<=c/\Sy (xX (s.heap.push {cls:= .type "dict",data:= .dict #[]}) scope.names) c none):=λ{y c} e=>by
  rw[oS]at e;rcases AU (lP e)with hm|⟨_,h2,h3⟩
  ·exact .inl (cm hm)
  ·rw[mR]at h2;exact .inr ⟨h2,h3⟩
 have look:∀{y},scope.names.lookup y=some .free->∃c,e_.cells.lookup y=some c/\X.env.cells.lookup y=some c:=λ{y} hl=>by
  have hy:(y,Dd)∈scope.names:=lP hl;obtain⟨c',e'⟩:=Lo (Ez (names:=scope.names) (n:=(s.heap.push {cls:= .type "dict",data:= .dict #[]}).objs.size) (Lq (cells:=X.env.cells) (acc:=[]) hy));rw[<-oS]at e';refine aF c' e' ?_;rw[oS]at e';rcases AU (lP e')with hm|⟨h1,_,_⟩
  ·exact(cm hm).1
  ·have:=ok.uniq _ h1;rw[hl]at this;cases this
 have eF:(X.iW s H scope e_ fp).Ok:=by
  refine⟨I.ok.mod,by show e_.scope.kind=_;rw[Lz];exact ok.kind,by show e_.globals=_;rw[<-AW];exact I.ok.glob,by show e_.builtins=_;rw[<-AW];exact I.ok.blt,by show s.heap.objs.size<=e_.locals;rw[hL];exact aX _,λy z c e1 e2=>?_,λy hy=>?_,λy c z e=>?_,I.ok.hd,I.ok.frames, .inl rfl,λb hb=>⟨?_,λy c e z=>?_⟩,I.bs,i8 I.ok.mZ I.sz,λb o e hb=>?_,λb hb z=>?_,I.stack,I.KH⟩
  ·have e1:e_.cells.lookup y=some c:=e1;have e2:e_.cells.lookup z=some c:=e2;rw[oS]at e1 e2;refine Lu (λp hp=>?_) (λy z c a b=>I.ok.inj y z c (cm a).1 (cm b).1) (lP e1) (lP e2);rw[mR];exact aak (cm (y:=p.1) (c:=p.2) hp).2
  ·show∃c,e_.cells.lookup y=some c;have key:∀k,e_.kindOf y=some k->(k= .cell\/k= .free)->∃c,e_.cells.lookup y=some c:=λk hk Dy=>by
    unfold Env.kindOf at hk;rw[Lz]at hk;refine ar (Lv hk) λk' e r=>?_;have:k'= .cell\/k'= .free:=by
     rcases r with rfl|⟨rfl,_⟩
     ·exact Dy
     ·exact .inr rfl
    rcases this with rfl|rfl
    ·obtain⟨c,hm⟩:=Lr (n:=(s.heap.push {cls:= .type "dict",data:= .dict #[]}).objs.size) (acc:=ie X.env.cells scope.names []) (lP e);obtain⟨c',e'⟩:=Lo hm;exact⟨c',by rw[oS];exact e'⟩
    ·refine ar (look e) λc h1 _=>?_;exact⟨c,h1⟩
   rcases hy with hy|hy
   ·exact key _ hy (.inl rfl)
   ·exact key _ hy (.inr rfl)
  ·have z:(scope.names.lookup y==some aal)=true:=z;have z:scope.names.lookup y=some .cell:=by simpa using z
   have e:e_.cells.lookup y=some c:=e;rw[oS]at e;rcases AU (lP e)with hm|⟨_,h2,_⟩
   ·rcases Ey hm with hm|⟨h1,_⟩
    ·cases hm
    ·have q:=ok.uniq _ h1;rw[z]at q;cases q
   ·rw[mR]at h2;exact Pj h2
  ·show b≠e_.locals;rw[hL];exact gQ (yI b hb).2
  ·have e:e_.cells.lookup y=some c:=e;rcases mem e with⟨h1,_⟩|⟨h1,_⟩
   ·exact(yI b hb).1.2.2.2.2.1 y c h1 z
   ·have h2:s.heap.objs.size+1<=b:=by rw[<-z];exact h1
    exact absurd (eP (yI b hb).2 (Pj h2)) (qM _)
  ·rcases(yI b hb).1.2.2.2.1 with z|z
   ·exact I.ok.yr b o e z
   ·exact absurd (eP (cR e) (i8 I.ok.mZ z)) (qM _)
  ·rcases cu.mp (I.KG b z)with z|z
   ·exact(yI b hb).1.2.1 z
   ·exact(yI b hb).1.2.2.1 z
 refine⟨eF,rfl,I.bare,Un.kept kp,aF (λ_=>none) ?_ λi y av e1 e2 e3=>?_,λy c e=>?_,?_,λy c e=>?_,λp hp=>?_,I.aG.kept kp,by rw[Lx];exact I.len⟩
 ·show Heap.Ns _ e_.locals _;rw[hL];exact Heap.Ns.keeps (Heap.Ns.new ..) λb o e=>Ph _ _ _ _ e
 ·obtain⟨e2,bh⟩:=Ly e2;have tX:scope.names.lookup y=some .free/\(e_.kindOf y=some .cell\/e_.kindOf y=some .free):=by
   have key:∀k,e_.scope.names.lookup y=some k->k= .local\/k= .cell\/k= .free->scope.names.lookup y=some .free/\(e_.kindOf y=some .cell\/e_.kindOf y=some .free):=λk hk Dy=>by
    have mf:=hk;rw[Lz]at hk;refine ar (Lv hk) λk' e r=>?_;have no:¬(k'= .local\/k'= .cell):=λhh=>by
     rcases ok.own _ (lP e) hh with e'|e'
     ·refine ar (kW.mp e') λp hp hpy=>?_;have e3:=ok.ix p hp
      have:p.1=y:=hpy;rw[this]at e3;exact bh (kW.mpr (aF p hp (KJ hN e3 e1)))
     ·exact e' (cP e1)
    rcases r with rfl|⟨rfl,rfl⟩
    ·rcases Dy with rfl|rfl|rfl
     ·exact absurd (.inl rfl) no
     ·exact absurd (.inr rfl) no
     ·exact⟨e, .inr mf⟩
    ·exact⟨e, .inl mf⟩
   have e3:yq e_.scope y:=e3;rcases e3 with e3|e3|e3
   ·exact key _ e3 (.inl rfl)
   ·exact key _ e3 (.inr (.inl rfl))
   ·exact key _ e3 (.inr (.inr rfl))
  refine ar I.loc λm hn hl=>?_;have agV:yq X.env.scope y:=(ok.free _ (lP tX.1) rfl).elim (λk=> .inr (.inl k)) (λk=> .inr (.inr k))
  refine ar (hl i y av e1 e2 agV) λw r q=>?_;refine aF w r (.inr ⟨tX.2,?_⟩);refine ar (look tX.1) λc h1 h2=>?_;rcases q with⟨k,_⟩|⟨_,c',e',z⟩
  ·have k:X.env.scope.names.lookup y=some .local:=k;rcases ok.free _ (lP tX.1) rfl with k'|k'<;>rw[show X.env.scope.names.lookup y=_ from k']at k<;>cases k
  ·rw[h2]at e';cases e';exact aF c h1 (z.keeps kp)
 ·have e:e_.cells.lookup y=some c:=e;rcases mem e with⟨h1,_⟩|⟨_,z⟩
  ·obtain⟨w,z⟩:=I.cell y c h1;exact⟨w,z.keeps kp⟩
  ·exact⟨_,z⟩
 ·show H e_.locals=none;rw[hL];exact I.aG.fresh (aX _)
 ·have e:e_.cells.lookup y=some c:=e;rcases mem e with⟨h1,_⟩|⟨h1,_⟩
  ·exact I.jV y c h1
  ·exact I.aG.fresh (Pj h1)
 ·exact absurd (show p∈([]:List (Addr×Obj))++[] from hp) (by simp)
def agW{y:V}{v:Value}{Q:Value->aw->Prop}(I:ak X aa σ H s)(hD:H D=some (.lst xs))(hz:xs.length<sizeLine)(r:bC y v)
  (h:∀s',ak X aa σ (upd H D (.lst (xs++[y]))) s'->Q .none s'):aM (aR X.prog X.w) X.A (mQ (.builtin "list.append") [.ref D,v]) Q E s:=by
 refine pK (I.aG D _ hD) λq_ ay n ri e=>?_;have hl:=ri.length
 refine append_at (hsz:=by rw[eY];omega) e λh' sb g4=>?_;refine h {s with heap:=h'} (I.write (t':=s.toks) (by rw[hD];trivial) (.inl rfl) (λb u hb q=>(sb.2 b hb).trans q) ⟨_,g4⟩ (k_ (by rw[cj];exact hz) (ay++[v]) (n+1) (ri.append (.cons r .nil)) ?_));rw[g4];simp
def AX(X:Cx)(ifs:List bf)(t:TT):Prop:=
 ∀(aa:List (Addr×Obj))(s:aw)(σ:St)(H:Hp)(Q:Bool->Hp->Prop),ak X aa σ H s->t σ H Q->
  aM (aR X.prog X.w) X.A (forIn ifs true λc r=>if r=true then do let ok<-Jw c X.env (eval c X.env);pure (Pk ok)else pure (Pk r)) (TP X aa σ Q) X.xe s
def agX:TT:=λ_ H Q=>Q true H
def mi:AX X [] agX:=λ_ _ _ H _ I h=>wpAny_tests_nil (aF H I h)
def SA{c:bf}{t:TT}(h:PT X c t):AX X [c] t:=λaa s σ H Q I hw=>wpAny_tests_one (h aa s σ H Q I hw)
end
def yJ{α:Type}{t:Sem α}{Q Q':α->aw->Prop}(h:aM M A t Q (λ_ _=>False) s)(hQ:∀a s,Q a s->Q' a s):aM M A t Q' E s:=k4 h hQ λ_ _ z=>iA z
def agY{prog:Program}{w:a9}{R:JH->aw->Prop}{target:bf}{it acc:Value}(I:Nat->aw->Prop)
  (turn:∀n s,I n s->aM (aR prog w) A (Jz it) (λr s₁=>match r with
   |none=>R (.ok .next) s₁
   |some v=>aM (aR prog w) A (O4 target it v) (λ_ SD=>aM (aR prog w) A (zM target env v) (λ_ s₂=>
    aM (aR prog w) A (forIn ifs true λc r=>if r=true then do let ok<-Jw c env (eval c env);pure (Pk ok)else pure (Pk r)) (λok s₃=>if ok=true then aM (aR prog w) A (eval elt env) (λx s₄=>aM (aR prog w) A (mQ (.builtin "list.append") [acc,x]) (λ_ s₅=>∃m,m<n/\I m s₅) (De (aR prog w) A env λe s'=>R (.error e) s') s₄) (De (aR prog w) A env λe s'=>R (.error e) s') s₃ else∃m,m<n/\I m s₃) (De (aR prog w) A env λe s'=>R (.error e) s') s₂) (De (aR prog w) A env λe s'=>R (.error e) s') SD) (De (aR prog w) A env λe s'=>R (.error e) s') s₁) (De (aR prog w) A env λe s'=>R (.error e) s') s)
  (n:Nat) (h:I n s):
  sG (aR prog w) A (.compLoop (.ListComp elt [⟨target,iter,ifs,0⟩] scope pos) 0 it acc env) R s:=by
 refine codeAny_loop rfl I (λn s hI=>?_) n h;show aM _ A ((compTurn (.ListComp elt [⟨target,iter,ifs,0⟩] scope pos) 0 it acc env).onRaise (λx=>do JR x env;theTreesLotGoes x)) _ _ s;refine wpAny_noted ?_;rw[compTurn_list];refine cv (C8 (cv (k4 (turn n s hI) (λr s₁ h₁=>?_) λ_ _ h'=>h')));cases r with
 |none=>exact eQ h₁
 |some v=>
  refine cv (k4 h₁ (λ_ SD agZ=>?_) λ_ _ h'=>h');refine cv (k4 agZ (λ_ s₂ h₂=>cv (k4 h₂ (λok s₃ h₃=>?_) λ_ _ h'=>h')) λ_ _ h'=>h');cases ok with
  |false=>exact eQ ⟨rfl,h₃⟩
  |true=>
   exact cv (cv (k4 h₃ (λx s₄ h₄=>cv (k4 h₄ (λ_ s₅ h₅=>eQ (eQ ⟨rfl,h₅⟩)) λ_ _ h'=>h')) λ_ _ h'=>h'))
section
variable{X:Cx}
def EA(wi:TI)(g:TG)(tt:TT)(te:TE)(vs:List Nat):TE:=λσ H Q=>wi σ H λJ H1=>∀D,H1 D=none->∃W:Nat->Nat->Hp->Prop,(∃m,W 0 m (upd H1 D (.lst [])))/\∀i m H,W i m H->
 (J.stop i H/\Q (.ref D) H)\/(J.go i H/\∃Nx:Hp->Prop,(∀H',Nx H'->∃m',m'<m/\W (i+1) m' H')/\∀x H',J.iH i H x H'->g x (c6 σ vs) H' λσ2 H2=>c6 σ2 vs=c6 σ vs/\tt σ2 H2 λb H3=>if b=true then te σ2 H3 λy H4=>∃acc,H4 D=some (.lst acc)/\acc.length<sizeLine/\Nx (upd H4 D (.lst (acc++[y])))else Nx H3)
def SE{aa:List (Addr×Obj)}{H:Hp}{Q:VK}{pos':Pos}{use:Option (Value->Sem Unit)}{Qf:Value->aw->Prop}
  (hc:X.calm=true) (hN:X.N.Nodup) (I:ak X aa σ H s) (hi:PI X tg iter wi) (ok:AV X.N X.env.scope scope own)
  (hg:∀(s:aw)(H:Hp)(C:Addr)(cl:List (Str×Addr))(fp:List Addr),PG (X.iW s H scope (oo scope cl C X.env) fp) tg g) (ht:∀(s:aw)(H:Hp)(C:Addr)(cl:List (Str×Addr))(fp:List Addr),AX (X.iW s H scope (oo scope cl C X.env) fp) ifs tt)
  (he:∀(s:aw)(H:Hp)(C:Addr)(cl:List (Str×Addr))(fp:List Addr),PE (X.iW s H scope (oo scope cl C X.env) fp) elt te) (hs:∀x,O7 iter X.env x=pure x)
  (h:EA wi g tt te (own.map (·.2)) σ H Q)
  (hRR:∀D C s' m H',ak X aa σ H' s'->Q (.ref D) H'->s'.heap.Ns C m->m8 X aa H' C->aam (aR X.prog X.w) X.A X.xe use Qf (.ref D) C (.ok .next) s'):
  aM (aR X.prog X.w) X.A (avj (.ListComp elt [⟨tg,iter,ifs,0⟩] scope pos) scope X.env pos' (newList []) false (eval iter X.env) use) Qf X.xe s:=by
 have yw:∀y∈scope.names,y.2= .free->∃c,X.env.cells.lookup y.1=some c:=λy hy e=>by
  rcases ok.free y hy e with k|k
  ·exact I.ok.has _ (.inl k)
  ·exact I.ok.has _ (.inr k)
 refine wpAny_comprehension_free (use:=use) rfl hs (agR yw) ok.kind (λy hy e=>by rw[ok.uniq y hy,e])
  (aI (hi aa s σ H _ I h) λxv s1 hx=>aI hx λK0 s2 h2=>?_)
 refine lT h2 λit fp tn J H2 e I2 ag1=>?_;refine fz ag1 λT Ei f2 q=>?_;subst e;refine avk (agS ?_) (by show 0<=sizeLine;decide);generalize hD:s2.heap.objs.size=D;have hDn:H2 D=none:=I2.aG.fresh (JI hD)
 refine ar (q D hDn) λW ag3 turn=>?_;obtain⟨m0,w0⟩:=ag3;generalize SG:({s2 with heap:=s2.heap.push {cls:= .type "list",data:= .seq ([]:List Value).toArray}}:aw)=s3;have I3:ak X aa σ (upd H2 D (.lst [])) s3:=by rw[<-SG];refine I2.laid (t':=s2.toks) (λb o e=>fc _ e) (JI hD) (k_ (iO _) [] 0 .nil ?_);rw[<-hD];exact h7 _ rfl
 have h3:s3.heap=s2.heap.push {cls:= .type "list",data:= .seq ([]:List Value).toArray}:=by rw[<-SG]
 have sz:∀b∈fp,b<s2.heap.objs.size:=λb hb=>by refine ar (T.obj _ _ Ei b hb) λo e _=>?_;exact cR e
 have f3:∀b∈fp,m8 X aa (upd H2 D (.lst [])) b/\b<s3.heap.objs.size:=λb hb=>by have bH:=sz b hb;refine⟨⟨?_,(f2 b hb).2⟩,by rw[h3,mR];exact aak bH⟩;rw[aj (by rw[<-hD];exact gQ bH)];exact(f2 b hb).1
 have Ej:tn 0 s3.heap:=T.keep _ _ _ Ei λb _ o e=>by rw[h3];exact fc _ e
 have I4:=agT I3 ok hN f3;have pg:=hg s3 (upd H2 D (.lst [])) s3.heap.objs.size (iQ (s3.heap.objs.size+1) scope.names (ie X.env.cells scope.names [])) fp;have pt:=ht s3 (upd H2 D (.lst [])) s3.heap.objs.size (iQ (s3.heap.objs.size+1) scope.names (ie X.env.cells scope.names [])) fp;have pe:=he s3 (upd H2 D (.lst [])) s3.heap.objs.size (iQ (s3.heap.objs.size+1) scope.names (ie X.env.cells scope.names [])) fp;show sG _ _ (.compStart (.ListComp elt [⟨tg,iter,ifs,0⟩] scope pos) 0 (.ref it) (.ref D) (oo scope (iQ (s3.heap.objs.size+1) scope.names (ie X.env.cells scope.names [])) s3.heap.objs.size X.env)) (aam (aR X.prog X.w) X.A X.xe use Qf (.ref D) s3.heap.objs.size) {s3 with heap:=xX (s3.heap.push {cls:= .type "dict",data:= .dict #[]}) scope.names};have AY:∀b∈fp,(upd H2 D (.lst [])) b=none:=λb hb=>(f3 b hb).1.1;generalize hce:oo scope (iQ (s3.heap.objs.size+1) scope.names (ie X.env.cells scope.names [])) s3.heap.objs.size X.env=ce at I4 pg pt pe⊢;have cL:ce.locals=s3.heap.objs.size:=by subst hce;rfl
 generalize SH:upd H2 D (.lst [])=H3 at I3 I4 pg pt pe w0 AY f3;generalize hs4:({s3 with heap:=xX (s3.heap.push {cls:= .type "dict",data:= .dict #[]}) scope.names}:aw)=s4 at I4⊢;have SI:tn 0 s4.heap:=T.keep _ _ _ Ej λb _ o e=>by rw[<-hs4];exact Ph _ _ _ _ (fc _ e)
 have vE:∀{σ':St}{H':Hp}{s':aw},ak (X.iW s3 H3 scope ce fp) [] σ' H' s'->(∀b∈fp,H' b=none)->∀b∈fp,m8 (X.iW s3 H3 scope ce fp) [] H' b:=λ{σ' H' s'} I' hn b hb=>
  ⟨hn b hb,(I'.ok.Ap b hb).1,I'.ok.yt b hb, .inl hb,λx c e=>(I'.ok.Ap b hb).2 x c e,λp hp=>absurd (show p∈([]:List (Addr×Obj))++[] from hp) (by simp)⟩
 have loop:sG (aR X.prog X.w) X.A (.compLoop (.ListComp elt [⟨tg,iter,ifs,0⟩] scope pos) 0 (.ref it) (.ref D) ce) (aam (aR X.prog X.w) X.A X.xe use Qf (.ref D) s3.heap.objs.size) s4:=by
  refine agY (λn s'=>∃i H',ak (X.iW s3 H3 scope ce fp) [] (c6 σ (own.map (·.2))) H' s'/\tn i s'.heap/\(∀b∈fp,H' b=none)/\W i n H') ?_ m0 (cC 0 H3 I4 SI AY w0);rintro n s5 ⟨i,H5,I5,yB,n5,w5⟩;rcases turn i n H5 w5 with⟨stop,qq⟩|⟨go,Nx,hNx,step⟩
  ·have td:=T.done (X.iW s3 H3 scope ce fp) rfl rfl rfl hc i [] s5 _ H5 (λ_ _=>False) I5 (vE I5 n5) yB stop;refine yJ td λr s6 ag7=>eA ag7 λhr I6=>?_;subst hr;have I7:ak X aa σ H5 s6:=I3.KL (ch:=fp) I6.os I6.base I6.aG I6.bare λb hb=>pH ((f3 b hb).1.2.2.2.1) ((f3 b hb).1.2.1) ((f3 b hb).1.2.2.2.2.1) ((f3 b hb).1.2.2.2.2.2);have nC:H5 s3.heap.objs.size=none:=by have z:H5 ce.locals=none:=I6.free;rw[cL]at z;exact z
   refine ar I6.loc λm hn _=>?_;have hn:s6.heap.Ns ce.locals m:=hn
   rw[cL]at hn;exact hRR D s3.heap.objs.size s6 m H5 I7 qq hn (I3.tP (aX _) nC)
  ·have ti:=T.item (X.iW s3 H3 scope ce fp) rfl rfl rfl hc i [] s5 _ H5 (λ_ _=>False) I5 (vE I5 n5) yB go;refine yJ ti λr s6 ag8=>ar ag8 λu hr h6=>?_;subst hr;refine yJ h6 λ_ s7 ag9=>iE ag9 λx H7 I7 r7 y7 LB n7=>?_;have I7':=I7.pinned (vE I7 n7) (T.obj _ _ LB);refine yJ (pg _ s7 _ H7 x u _ I7' r7 (step x H7 y7)) λ_ s8 aha=>bb aha λσ8 H8 I8 SJ q8=>?_;refine yJ (pt _ s8 σ8 H8 _ I8 q8) λb s9 ahb=>ar ahb λH9 I9 q9=>?_;have fin:∀{s':aw}{H':Hp},ak (X.iW s3 H3 scope ce fp) ([]++AB fp s7.heap) σ8 H' s'->Nx H'->∃m,m<n/\∃i H',ak (X.iW s3 H3 scope ce fp) [] (c6 σ (own.map (·.2))) H' s'/\tn i s'.heap/\(∀b∈fp,H' b=none)/\W i m H':=λ{s' H'} I' nx=>by
    refine ar (hNx H' nx) λm' hm w'=>?_;have SK:∀b∈fp,∀o,s7.heap.get? b=some o->s'.heap.get? b=some o/\H' b=none:=λb hb o e=>
     let z:=I'.pin (b,o) (iz _ (iz _ (K1 hb e)))
     ⟨z.1,z.2.1⟩
    have hl:(c6 σ (own.map (·.2))).length=σ8.length:=by rw[<-SJ,Lx]
    refine aF m' hm (cC (i+1) H' ((I'.Eh (aa:=[])).weak hl (λj v e=>?_)) (T.keep _ _ _ LB λb hb o e=>(SK b hb o e).1) (λb hb=>?_) w')
    ·rw[<-SJ]at e;exact(Ly e).1
    ·refine ar (T.obj _ _ LB b hb) λo e _=>?_;exact(SK b hb o e).2
   cases b with
   |false=>
    simp only[kX,if_false]at q9⊢;exact fin I9 q9
   |true=>
    simp only[if_true]at q9⊢;refine yJ (pe _ s9 σ8 H9 _ I9 q9) λz s10 ahc=>sX ahc λyv H10 I10 r10 acc ahf ahg nx=>?_;exact agW (X:=X.iW s3 H3 scope ce fp) I10 ahf ahg r10 λs11 I11=>fin I11 nx
 exact codeAny_compStart_list loop (T.self X.A 0 _ _ _ SI loop)
def rH(hc:X.calm=true)(hN:X.N.Nodup)(hi:PI X tg iter wi)(ok:AV X.N X.env.scope scope own)
  (hg:∀(s:aw)(H:Hp)(C:Addr)(cl:List (Str×Addr))(fp:List Addr),PG (X.iW s H scope (oo scope cl C X.env) fp) tg g) (ht:∀(s:aw)(H:Hp)(C:Addr)(cl:List (Str×Addr))(fp:List Addr),AX (X.iW s H scope (oo scope cl C X.env) fp) ifs tt)
  (he:∀(s:aw)(H:Hp)(C:Addr)(cl:List (Str×Addr))(fp:List Addr),PE (X.iW s H scope (oo scope cl C X.env) fp) elt te) (hs:∀x,O7 iter X.env x=pure x:=by intro _;rfl):
  PE X (.ListComp elt [⟨tg,iter,ifs,0⟩] scope pos) (EA wi g tt te (own.map (·.2))):=by
 intro aa s σ H Q I h;rw[eval_ListComp];refine SE hc hN I hi ok hg ht he hs h λD C s' m H' I' q hn f=>aF m hn λjY sb=>?_;refine iR f λf0 f1 f2 f3 f4 f5=>?_;exact aB (.ref D) H' (I'.turned (t':=s'.toks) (λb o hb e=>(sb.2 b hb).trans e) f0 f1 f3 f4 f5) rfl q
def yK{i:Nat}{SM:Pos}(hc:X.calm=true)(hN:X.N.Nodup)(hy:X.N[i]?=some y)(qb:X.env.scope.names.lookup y=some .local)
  (LC:sE (.ListComp elt [⟨tg,iter,ifs,0⟩] scope pos) (some (.Name y py)) SM.line X.env=pure true) (hi:PI X tg iter wi) (ok:AV X.N X.env.scope scope own)
  (hg:∀(s:aw)(H:Hp)(C:Addr)(cl:List (Str×Addr))(fp:List Addr),PG (X.iW s H scope (oo scope cl C X.env) fp) tg g) (ht:∀(s:aw)(H:Hp)(C:Addr)(cl:List (Str×Addr))(fp:List Addr),AX (X.iW s H scope (oo scope cl C X.env) fp) ifs tt)
  (he:∀(s:aw)(H:Hp)(C:Addr)(cl:List (Str×Addr))(fp:List Addr),PE (X.iW s H scope (oo scope cl C X.env) fp) elt te) (hs:∀x,O7 iter X.env x=pure x:=by intro _;rfl):
  PS X (.Assign [.Name y py] (.ListComp elt [⟨tg,iter,ifs,0⟩] scope pos) SM) (Ea (EA wi g tt te (own.map (·.2))) (m7 i)):=by
 intro aa s σ H D I h;rw[exec_Assign_Name_used _ _ _ _ LC];refine cv (C8 (cv ?_));show aM _ X.A (do let _<-avj (.ListComp elt [⟨tg,iter,ifs,0⟩] scope pos) scope X.env (firstIterPos [⟨tg,iter,ifs,0⟩] pos) (newList []) false (eval iter X.env) (some (zM (.Name y py) X.env))) _ _ s;have h:EA wi g tt te (own.map (·.2)) σ H (λx H1=>m7 i x σ H1 D.nx):=h
 refine cv (aI (SE (Qf:=λ_ s'=>SP X aa D .next s') hc hN I hi ok hg ht he hs h λL C s' m H' I' q hn f=>?_) λ_ s' hq=>eQ (eQ hq));show aM _ _ (zM (.Name y py) X.env (.ref L)) _ _ _;refine auI (Rq (v:=V.ref L) I' hN hy (.inl qb) rfl (λs2 I2 ahi=>ar ahi λa sb ha=>?_) (.inr qb));refine iR f λf0 f1 f2 f3 f4 f5=>?_;have haC:C≠a:=by
  rcases ha with z|z
  ·rw[z];exact f1
  ·exactλe=>f4 y a z e.symm
 refine aF m (hn.sameBut sb haC) λh3 sb3=>?_;exact cD _ H' (I2.turned (t':=s2.toks) (λb o hb e=>(sb3.2 b hb).trans e) f0 f1 f3 f4 f5) q
def yL{gs:List Comprehension}{l:Nat}(hk:env.scope.kind= .function)(hy:env.scope.names.lookup y=some .local)(hl:(py.line==pos.line)=true)
  (ha:(scope.names.any λ(n,k)=>n==y&&(k== .local||k== .cell))=false):sE (.ListComp elt gs scope pos) (some (.Name y py)) l env=pure true:=by
 have ky:env.kindOf y=some .local:=hy;have hb:env.blockKind= .function:=by unfold Env.blockKind;rw[hk];rfl
 unfold sE;simp only[hb,ky,ha,bf.pos,hl];rfl
end
def SN{lo:Int}{n:Nat}(Pv:Nat->Hp->Prop)(h0:Pv 0 (upd H1 D (.lst [])))
  (hs:∀i H,i<n->Pv i H->g (.int (lo+i)) (c6 σ vs) H λσ2 H2=>c6 σ2 vs=c6 σ vs/\tt σ2 H2 λb H3=>
   if b=true then te σ2 H3 λy H4=>∃acc,H4 D=some (.lst acc)/\acc.length<sizeLine/\Pv (i+1) (upd H4 D (.lst (acc++[y])))else Pv (i+1) H3) (hd:∀H,Pv n H->Qd H):
  ∃W:Nat->Nat->Hp->Prop,(∃m,W 0 m (upd H1 D (.lst [])))/\∀i m H,W i m H->
   ((rB lo n).stop i H/\Qd H)\/((rB lo n).go i H/\∃Nx:Hp->Prop,(∀H',Nx H'->∃m',m'<m/\W (i+1) m' H')/\∀x H',(rB lo n).iH i H x H'->g x (c6 σ vs) H' λσ2 H2=>c6 σ2 vs=c6 σ vs/\tt σ2 H2 λb H3=>if b=true then te σ2 H3 λy H4=>∃acc,H4 D=some (.lst acc)/\acc.length<sizeLine/\Nx (upd H4 D (.lst (acc++[y])))else Nx H3):=by
 refine aF (λi m H=>m=n-i/\i<=n/\Pv i H) (aW n (by simp) (iO _) h0) ?_;rintro i m H ⟨rfl,hi,p⟩;by_cases bH:i<n
 ·refine .inr ⟨bH,Pv (i+1),λH' p'=>⟨n-(i+1),by omega,rfl,bH,p'⟩,λx H' y=>?_⟩;obtain⟨e,y⟩:=y;subst e y;exact hs i _ bH p
 ·have e:i=n:=by omega
  subst e;exact .inl ⟨aX _,hd H p⟩
def yM(Pv:Nat->Hp->Prop)(h0:Pv 0 (upd H1 D (.lst [])))(hl:∀i H,i<=xs.length->Pv i H->ah K H a xs)
  (hs:∀i x H,xs[i]?=some x->Pv i H->g x (c6 σ vs) H λσ2 H2=>c6 σ2 vs=c6 σ vs/\tt σ2 H2 λb H3=>
   if b=true then te σ2 H3 λy H4=>∃acc,H4 D=some (.lst acc)/\acc.length<sizeLine/\Pv (i+1) (upd H4 D (.lst (acc++[y])))else Pv (i+1) H3) (hd:∀H,Pv xs.length H->Qd H):
  ∃W:Nat->Nat->Hp->Prop,(∃m,W 0 m (upd H1 D (.lst [])))/\∀i m H,W i m H->
   ((tQ K a).stop i H/\Qd H)\/((tQ K a).go i H/\∃Nx:Hp->Prop,(∀H',Nx H'->∃m',m'<m/\W (i+1) m' H')/\∀x H',(tQ K a).iH i H x H'->g x (c6 σ vs) H' λσ2 H2=>c6 σ2 vs=c6 σ vs/\tt σ2 H2 λb H3=>if b=true then te σ2 H3 λy H4=>∃acc,H4 D=some (.lst acc)/\acc.length<sizeLine/\Nx (upd H4 D (.lst (acc++[y])))else Nx H3):=by
 refine aF (λi m H=>m=xs.length-i/\i<=xs.length/\Pv i H) (aW xs.length (by simp) (iO _) h0) ?_;rintro i m H ⟨rfl,hi,p⟩;have q:=hl i H hi p
 by_cases bH:i<xs.length
 ·refine .inr ⟨⟨xs,xs[i],q,by simp[bH]⟩,Pv (i+1),λH' p'=>⟨xs.length-(i+1),by omega,rfl,bH,p'⟩,λx H' y=>?_⟩;obtain⟨e,y⟩:=y;subst e;exact hs i x _ (y xs q) p
 ·have e:i=xs.length:=by omega
  subst e;exact .inl ⟨⟨xs,q,aX _⟩,hd H p⟩
def yN(Pv:Nat->Hp->Prop)(h0:Pv 0 (upd H1 D (.lst [])))(hl:∀i H,i<=xs.length->Pv i H->dm K H a xs)
  (hs:∀i x H,xs[i]?=some x->Pv i H->g x (c6 σ vs) H λσ2 H2=>c6 σ2 vs=c6 σ vs/\tt σ2 H2 λb H3=>
   if b=true then te σ2 H3 λy H4=>∃acc,H4 D=some (.lst acc)/\acc.length<sizeLine/\Pv (i+1) (upd H4 D (.lst (acc++[y])))else Pv (i+1) H3) (hd:∀H,Pv xs.length H->Qd H):
  ∃W:Nat->Nat->Hp->Prop,(∃m,W 0 m (upd H1 D (.lst [])))/\∀i m H,W i m H->
   ((tR K a).stop i H/\Qd H)\/((tR K a).go i H/\∃Nx:Hp->Prop,(∀H',Nx H'->∃m',m'<m/\W (i+1) m' H')/\∀x H',(tR K a).iH i H x H'->g x (c6 σ vs) H' λσ2 H2=>c6 σ2 vs=c6 σ vs/\tt σ2 H2 λb H3=>if b=true then te σ2 H3 λy H4=>∃acc,H4 D=some (.lst acc)/\acc.length<sizeLine/\Nx (upd H4 D (.lst (acc++[y])))else Nx H3):=by
 refine aF (λi m H=>m=xs.length-i/\i<=xs.length/\Pv i H) (aW xs.length (by simp) (iO _) h0) ?_;rintro i m H ⟨rfl,hi,p⟩;have q:=hl i H hi p
 by_cases bH:i<xs.length
 ·refine .inr ⟨⟨xs,xs[i],q,by simp[bH]⟩,Pv (i+1),λH' p'=>⟨xs.length-(i+1),by omega,rfl,bH,p'⟩,λx H' y=>?_⟩;obtain⟨e,y⟩:=y;subst e;exact hs i x _ (y xs q) p
 ·have e:i=xs.length:=by omega
  subst e;exact .inl ⟨aF xs q (aX _),hd H p⟩
def SO(N:List Str)(sc scope:Scope)(own:List (Str×Nat)):Bool:=
 (match scope.kind with| .function=>true|_=>false)&&(scope.names.all λy=>decide (scope.names.lookup y.1=some y.2))&&(own.all λp=>decide (N[p.2]?=some p.1))&&
  (scope.names.all λy=>match y.2 with
   | .free=>(match sc.names.lookup y.1 with|some .cell=>true|some .free=>true|_=>false)
   | .local=>decide (y.1∈own.map (·.1))||decide (y.1∉N)
   | .cell=>decide (y.1∈own.map (·.1))||decide (y.1∉N)
   |_=>true)
def kI{N:List Str}{sc:Scope}(h:SO N sc scope own=true):AV N sc scope own:=by
 unfold SO at h;simp only[eW,uR,decide_eq_true_eq]at h;obtain⟨⟨⟨h1,h2⟩,h3⟩,h4⟩:=h;refine⟨?_,h2,h3,λy hy e=>?_,λy hy e=>?_⟩
 ·split at h1
  ·assumption
  ·cases h1
 ·have q:=h4 y hy;simp only[e]at q;split at q<;>first|exact .inl (by assumption)|exact .inr (by assumption)|cases q
 ·have q:=h4 y hy;rcases e with e|e<;>(simp only[e,Pl,decide_eq_true_eq]at q;exact q)
end
section
variable{o:Option V}{u:Value}{y:V}{P:Program}{w:a9}{H H':Hp}{kvs:List (List aT×V)}{xs:List (List aT×Addr×Value)}{Q:Value->aw->Prop}{h':Heap}{s:aw}{pos:Pos}{X:Cx}{aa:List (Addr×Obj)}{σ:St}{a:Addr}{tY:List (TE×TE)}
section
variable{κ:Type} [DecidableEq κ]
def cx(kvs:List (κ×V))(k:κ):Option V:=(kvs.find? λkv=>decide (kv.1=k)).map (·.2)
def dO(kvs:List (κ×V))(k:κ)(v:V):List (κ×V):=
 if(kvs.any λkv=>decide (kv.1=k))=true then kvs.map (λkv=>if kv.1=k then(kv.1,v)else kv)else kvs++[(k,v)]
def jZ{p:κ×V}{r:List (κ×V)}{k:κ}(e:p.1=k):cx (p::r) k=some p.2:=by simp[cx,qP,e]
def jB{p:κ×V}{r:List (κ×V)}{k:κ}(e:¬p.1=k):cx (p::r) k=cx r k:=by simp[cx,qP,e]
theorem AZ(k:κ):∀kvs:List (κ×V),(kvs.any λkv=>decide (kv.1=k))=(cx kvs k).isSome
 |[]=>rfl
 |p::r=>by
  rw[zI];by_cases e:p.1=k
  ·simp only[jZ e,decide_eq_true e,Bool.true_or,avi]
  ·rw[jB e,decide_eq_false e,avl];exact AZ k r
theorem SQ(k j:κ)(y:V):∀kvs:List (κ×V),cx (kvs.map λkv=>if kv.1=k then(kv.1,y)else kv) j=(cx kvs j).map λx=>if j=k then y else x
 |[]=>rfl
 |p::r=>by
  have ih:=SQ k j y r;rw[cM];by_cases h:p.1=k
  ·rw[if_pos h];by_cases e:p.1=j
   ·rw[jZ (p:=(p.1,y)) e,jZ e,zE,if_pos (e.symm.trans h)]
   ·rw[jB (p:=(p.1,y)) e,jB e,ih]
  ·rw[if_neg h];by_cases e:p.1=j
   ·rw[jZ (p:=p) e,jZ e,zE,if_neg (λz=>h (e.trans z))]
   ·rw[jB (p:=p) e,jB e,ih]
theorem SR(k j:κ)(y:V):∀kvs:List (κ×V),cx kvs k=none->cx (kvs++[(k,y)]) j=if j=k then some y else cx kvs j
 |[],_=>by
  by_cases e:k=j
  ·rw[if_pos e.symm];exact jZ (p:=(k,y)) e
  ·rw[if_neg (λz=>e z.symm)];exact jB (p:=(k,y)) e
 |p::r,hn=>by
  rw[n_];have hk:¬p.1=k:=λz=>by rw[jZ z]at hn;cases hn
  rw[jB hk]at hn;have ih:=SR k j y r hn
  by_cases e:p.1=j
  ·rw[jZ e,jZ e,if_neg (λz=>hk (e.trans z))]
  ·rw[jB e,jB e,ih]
def A7(kvs:List (κ×V))(k j:κ)(y:V):cx (dO kvs k y) j=if j=k then some y else cx kvs j:=by
 unfold dO;by_cases a:(kvs.any λkv=>decide (kv.1=k))=true
 ·rw[if_pos a,SQ];rw[AZ]at a;by_cases e:j=k
  ·obtain⟨x,hx⟩:=au0.mp a;rw[if_pos e,e,hx,zE,if_pos rfl]
  ·rw[if_neg e];cases cx kvs j with
   |none=>rfl
   |some x=>rw[zE,if_neg e]
 ·rw[if_neg a];refine SR k j y kvs ?_;rw[AZ]at a;cases q:cx kvs k with
  |none=>rfl
  |some x=>rw[q]at a;exact(a rfl).elim
def vM(kvs:List (κ×V))(k:κ)(v:V):(dO kvs k v).length<=kvs.length+1:=by
 unfold dO;split
 ·rw[aA];lia
 ·rw[cj,cG,sP];lia
def A8{kvs:List (κ×V)}{k:κ}(v:V)(h:cx kvs k=none):dO kvs k v=kvs++[(k,v)]:=by unfold dO;rw[AZ,h];exact if_neg (by decide)
def jU.A9{u:Option Value}(r:jU o u):o.isSome=u.isSome:=by
 cases o with
 |none=>cases u with
  |none=>rfl
  |some _=>exact(show False from r).elim
 |some _=>cases u with
  |none=>exact(show False from r).elim
  |some _=>rfl
theorem jU.getD{o:Option V}{u:Option Value}{d:V}{d':Value}(r:jU o u)(rd:bC d d'):bC (o.getD d) (u.getD d'):=by
 cases o with
 |none=>cases u with
  |none=>exact rd
  |some _=>exact(show False from r).elim
 |some _=>cases u with
  |none=>exact(show False from r).elim
  |some _=>exact r
def KV.val{kvs:List (κ×V)}{vs:List (κ×Value)}(r:KV kvs vs)(k:κ):jU (cx kvs k) (lQ vs k):=by
 unfold KV at r;induction r with
 |nil=>exact uP
 |@cons p q ps qs h t ih=>
  obtain⟨h1,h2⟩:=h;by_cases e:p.1=k
  ·have e':q.1=k:=h1.symm.trans e;have b:lQ (q::qs) k=some q.2:=by simp[lQ,qP,e']
   rw[jZ e,b];exact h2
  ·have e':¬q.1=k:=λz=>e (h1.trans z);have b:lQ (q::qs) k=lQ qs k:=by simp[lQ,qP,e']
   rw[jB e,b];exact ih
theorem KV.any{kvs:List (κ×V)}{vs:List (κ×Value)}(r:KV kvs vs)(k:κ):(kvs.any λkv=>decide (kv.1=k))=vs.any λkv=>decide (kv.1=k):=by
 unfold KV at r;induction r with
 |nil=>rfl
 |cons h t ih=>rw[zI,zI,ih,h.1]
def KV.LD{kvs:List (κ×V)}{vs:List (κ×Value)}(r:KV kvs vs)(k:κ)(ry:bC y u):
  KV (kvs.map λkv=>if kv.1=k then(kv.1,y)else kv) (vs.map λkv=>if kv.1=k then(kv.1,u)else kv):=by
 unfold KV at r⊢;induction r with
 |nil=>exact .nil
 |@cons p q ps qs h t ih=>
  rw[cM,cM];refine .cons ?_ ih;obtain⟨h1,h2⟩:=h;by_cases e:p.1=k
  ·rw[if_pos e,if_pos (h1.symm.trans e)];exact⟨h1,ry⟩
  ·rw[if_neg e,if_neg (λz=>e (h1.trans z))];exact⟨h1,h2⟩
def KV.put{kvs:List (κ×V)}{vs:List (κ×Value)}(r:KV kvs vs)(k:κ)(ry:bC y u):KV (dO kvs k y) (stored vs k u):=by
 unfold dO stored;rw[r.any k];by_cases e:(vs.any λkv=>decide (kv.1=k))=true
 ·rw[if_pos e,if_pos e];exact r.LD k ry
 ·rw[if_neg e,if_neg e];exact Paired.snoc r ⟨rfl,ry⟩
theorem KV.length{kvs:List (κ×V)}{vs:List (κ×Value)}(r:KV kvs vs):kvs.length=vs.length:=Paired.length r
end
def qc{k:aT}(r:bC (kV k) u):(fC P w).is k u=true:=by
 cases k with
 |inl i=>obtain⟨t,e⟩:=(show∃t,u=CV i t from r);subst e;exact acK P w i t
 |inr x=>obtain⟨t,e⟩:=(show∃t,u=O1 x t from r);subst e;exact acL P w x t
theorem SS{P:Program}{w:a9}:∀{ks:List aT}{us:List Value},bB (ks.map kV) us->ItemsAre (fC P w) ks us
 |[],_,r=>by rw[jH]at r;cases r;exact .nil
 |k::ks,_,r=>by
  rw[cM]at r;cases r with
  |cons h t=>exact .cons (qc h) (SS t)
abbrev KT(H:Hp):List (List aT×V)->List (List aT×Addr×Value)->Prop:=Paired λp q=>p.1=q.1/\H q.2.1=some (.tup (p.1.map kV))/\bC p.2 q.2.2
def KT.val(r:KT H kvs xs)(k:List aT):jU (cx kvs k) ((uS xs k).map (·.2)):=by
 induction r with
 |nil=>exact uP
 |@cons p q ps qs h t ih=>
  refine cT h λh1 _ h2=>?_;by_cases e:p.1=k
  ·have e':q.1=k:=h1.symm.trans e;have b:uS (q::qs) k=some q.2:=by simp[uS,qP,e']
   rw[jZ e,b];exact h2
  ·have e':¬q.1=k:=λz=>e (h1.trans z);have b:uS (q::qs) k=uS qs k:=by simp[uS,qP,e']
   rw[jB e,b];exact ih
def KT.LD(r:KT H kvs xs)(k:List aT)(ry:bC y u):
  KT H (kvs.map λkv=>if kv.1=k then(kv.1,y)else kv) (xs.map (putAt k u)):=by
 induction r with
 |nil=>exact .nil
 |@cons p q ps qs h t ih=>
  rw[cM,cM];refine .cons ?_ ih;refine cT h λh1 h2 h3=>?_;unfold putAt;by_cases e:p.1=k
  ·rw[if_pos e,if_pos (h1.symm.trans e)];exact b8 h1 h2 ry
  ·rw[if_neg e,if_neg (λz=>e (h1.trans z))];exact b8 h1 h2 h3
def KT.put(r:KT H kvs xs)(k:List aT){b:Addr}(hb:H b=some (.tup (k.map kV)))(ry:bC y u):
  KT H (dO kvs k y) (storedH xs k b u):=by
 have e:(kvs.any λkv=>decide (kv.1=k))=(uS xs k).isSome:=by rw[AZ,(r.val k).A9,Pm]
 unfold dO storedH;rw[e];by_cases q:(uS xs k).isSome=true
 ·rw[if_pos q,if_pos q];exact r.LD k ry
 ·rw[if_neg q,if_neg q];exact Paired.snoc r (b8 rfl hb ry)
def KT.keeps(r:KT H kvs xs)(ht:∀b ys,H b=some (.tup ys)->H' b=some (.tup ys)):KT H' kvs xs:=
 Paired.KD r λ_ _ z=>b8 z.1 (ht _ _ z.2.1) z.2.2
section
variable{P:Program}{w:a9}{H:Hp}{h:Heap}{a:Addr}
def SU{u:HO}(ok:dy P w H h)(e:Rd H a u):d9 P w H h a u:=e.ok ok
def tZ{kvs:List (aT×V)}(ok:dy P w H h)(e:Rd H a (.dK kvs)):kvs.length<=sizeLine/\(a==oh)=false/\∃vs,KV kvs vs/\h.DictOf (fC P w) a vs:=
 show d9 P w H h a (.dK kvs) from SU ok e
def EB{kvs:List (aT×V)}(ok:dy P w H h)(e:H a=some (.dK kvs)):kvs.length<=sizeLine/\(a==oh)=false/\∃vs,KV kvs vs/\h.DictOf (fC P w) a vs:=tZ ok (.inl e)
def yO{ks:List aT}(ok:dy P w H h)(e:H a=some (.tup (ks.map kV))):(CY (fC P w)).is h ks a:=by refine iD (show d9 P w H h a (.tup (ks.map kV)) from ok a _ e) λ_ ay r A_=>?_;refine bc A_ λo h1 h2 ahl=>?_;refine eE ahl λn h3=>?_;exact⟨o,ay.toArray,n,h1,h2,h3,by simpa using SS r⟩
def vN(ok:dy P w H h)(e:Rd H a (.dT kvs)):kvs.length<=sizeLine/\(a==oh)=false/\
  ∃xs,KT H kvs xs/\h.DictOfH (CY (fC P w)) a xs:=by
 refine mU (show d9 P w H h a (.dT kvs) from SU ok e) λz y xs r o es ep h1 A_=>?_;refine fz A_ λh2 h3 h4 h5=>?_;refine sV z y xs r ⟨o,es,ep,h1,h2,h3,h4,λx hx=>?_,h5⟩;have all:∀{l:List (List aT×V)}{m:List (List aT×Addr×Value)},KT H l m->∀x∈m,(CY (fC P w)).is h x.1 x.2.1:=by
  intro l m q;induction q with
  |nil=>intro x hx;exact nomatch hx
  |@cons p q ps qs hq t ih=>
   intro x hx;rcases cu.mp hx with e|hx
   ·subst e;exact yO ok (by rw[<-hq.1];exact hq.2.1)
   ·exact ih x hx
 exact all r x hx
def ahm(ok:dy P w H h)(e:H a=some (.dT kvs)):kvs.length<=sizeLine/\(a==oh)=false/\
 ∃xs,KT H kvs xs/\h.DictOfH (CY (fC P w)) a xs:=vN ok (.inl e)
end
def dC(H:Hp)(a:Addr)(y:V)(r:Option V):Prop:=
 (∃kvs k,Rd H a (.dK kvs)/\y=kV k/\r=cx kvs k)\/∃kvs k b,Rd H a (.dT kvs)/\y= .ref b/\H b=some (.tup (k.map kV))/\r=cx kvs k
def oU(H:Hp)(a:Addr)(y v:V)(H':Hp):Prop:=
 (∃kvs k,H a=some (.dK kvs)/\y=kV k/\kvs.length<sizeLine/\H'=upd H a (.dK (dO kvs k v)))\/
 ∃kvs k b,H a=some (.dT kvs)/\y= .ref b/\H b=some (.tup (k.map kV))/\kvs.length<sizeLine/\H'=upd H a (.dT (dO kvs k v))
theorem dC.k{H:Hp}{a:Addr}{kvs:List (aT×V)}{k:aT}(e:H a=some (.dK kvs)):dC H a (kV k) (cx kvs k):= .inl (aB kvs k (.inl e) rfl rfl)
theorem oU.k{H:Hp}{a:Addr}{kvs:List (aT×V)}{k:aT}{v:V}(e:H a=some (.dK kvs))(hl:kvs.length<sizeLine):oU H a (kV k) v (upd H a (.dK (dO kvs k v))):= .inl (cC kvs k e rfl hl rfl)
section
variable{X:Cx}{aa:List (Addr×Obj)}{σ:St}{H:Hp}{s:aw}{a:Addr}{y v:V}{u r:Value}{o:Option V}{A:cX}{E:Value->aw->Prop}
def ak.big(I:ak X aa σ H s):oh<s.heap.objs.size:=by have h:mO<s.heap.objs.size:=(I.mod.glob.keeps I.bk).lt;exact Nat.lt_trans (by decide) h
def ahn(hu:A.units+1<cLine)(I:ak X aa σ H s)(g:dC H a y (some v))(ry:bC y u)(h:∀w' s',ak X aa σ H s'->bC v w'->Q w' s'):
  aM (aR X.prog X.w) A (zN (.ref a) u) Q E s:=by
 rcases g with⟨kvs,k,e,ey,l⟩|⟨kvs,k,b,e,ey,eb,l⟩
 ·subst ey;refine ja (tZ I.aG e) λz hd vs rel dd=>?_;refine ar (jU.some_of (v:=v) (o:=lQ vs k) (by rw[l];exact rel.val k)) λw' hw me=>?_;exact avm (qc ry) dd.mapOf hw (h w' _ (I.tok _) me)
 ·subst ey;cases(show u=c9 b from ry);refine ja (vN I.aG e) λz hd xs rel dd=>?_;refine ar (jU.some_of (v:=v) (o:=(uS xs k).map (·.2)) (by rw[l];exact rel.val k)) λw' hw me=>?_;refine ar (avf.mp hw) λp hp ig=>?_;refine wpAny_getItem_heap (JS hu) (yO I.aG eb) dd hp ?_;rw[ig];exact h w' _ (I.tok _) me
def aho(hu:A.units+1<cLine)(I:ak X aa σ H s)(g:dC H a y o)(ry:bC y u)(h:∀s',ak X aa σ H s'->Q (.bool o.isSome) s'):
  aM (aR X.prog X.w) A (jJ .In u (.ref a)) Q E s:=by
 rcases g with⟨kvs,k,e,ey,l⟩|⟨kvs,k,b,e,ey,eb,l⟩
 ·subst ey;refine ja (tZ I.aG e) λz hd vs rel dd=>?_;refine avn (qc ry) hd dd.mapOf ?_;rw[<-(rel.val k).A9,<-l];exact h _ (I.tok _)
 ·subst ey;cases(show u=c9 b from ry);refine ja (vN I.aG e) λz hd xs rel dd=>?_;refine wpAny_in_heap (JS hu) (yO I.aG eb) hd dd ?_;have q:=(rel.val k).A9
  rw[Pm]at q;rw[<-q,<-l];exact h _ (I.tok _)
def SV(hu:A.units+1<cLine)(I:ak X aa σ H s)(g:dC H a y o)(ry:bC y u)(h:∀s',ak X aa σ H s'->Q (.bool (!o.isSome)) s'):
  aM (aR X.prog X.w) A (jJ .NotIn u (.ref a)) Q E s:=by
 rcases g with⟨kvs,k,e,ey,l⟩|⟨kvs,k,b,e,ey,eb,l⟩
 ·subst ey;refine ja (tZ I.aG e) λz hd vs rel dd=>?_;refine avo (qc ry) hd dd.mapOf ?_;rw[<-(rel.val k).A9,<-l];exact h _ (I.tok _)
 ·subst ey;cases(show u=c9 b from ry);refine ja (vN I.aG e) λz hd xs rel dd=>?_;refine wpAny_notIn_heap (JS hu) (yO I.aG eb) hd dd ?_;have q:=(rel.val k).A9
  rw[Pm]at q;rw[<-q,<-l];exact h _ (I.tok _)
def EC{t':Nat}{ob:HO}(I:ak X aa σ H s)(mu:tG (H a))(hs:Jv a s.heap h')(he:∃q,h'.get? a=some q)(new:d9 X.prog X.w (upd H a ob) h' a ob):
  ak X aa σ (upd H a ob) {s with heap:=h',toks:=t'}:=
 I.write (x:=a) (e:=a) mu (.inl rfl) (λb q hb z=>(hs.2 b hb).trans z) he new
def LF{kvs:List (aT×V)}{vs:List (aT×Value)}(z:kvs.length<=sizeLine)(hd:(a==oh)=false)(rel:KV kvs vs)(dd:h'.DictOf (fC P w) a vs):
 d9 P w H' h' a (.dK kvs):=(sV z hd vs rel dd)
def ahp{Q:Unit->aw->Prop}(hu:A.units+1<cLine)(I:ak X aa σ H s)(g:oU H a y v H')(ry:bC y u)(rv:bC v r)(h:∀s',ak X aa σ H' s'->Q () s'):
  aM (aR X.prog X.w) A (O2 (.ref a) u r) Q E s:=by
 rcases g with⟨kvs,k,e,ey,l,eH⟩|⟨kvs,k,b,e,ey,eb,l,eH⟩
 ·subst ey eH;refine ja (EB I.aG e) λz hd vs rel dd=>?_;have hz:vs.length<=sizeLine:=by rw[<-rel.length];exact z
  have hl:(dO kvs k v).length<=sizeLine:=by have:=vM kvs k v;lia
  refine wpAny_setItem_pairs (hsz:=hz) (qc ry) dd λh' qd hs=>h _ ?_;have he:∃q,h'.get? a=some q:=gb qd λq _ _ hq _=>⟨q,hq⟩
  exact EC I (by rw[e];exact uP) hs he (LF hl hd (rel.put k rv) qd)
 ·subst ey eH;cases(show u=c9 b from ry);refine ja (ahm I.aG e) λz hd xs rel dd=>?_;have hz:xs.length<=sizeLine:=by rw[<-Paired.length rel];exact z
  have hl:(dO kvs k v).length<=sizeLine:=by have:=vM kvs k v;lia
  refine wpAny_setItem_heap (hsz:=hz) (JS hu) (yO I.aG eb) dd λh' qd hs=>h _ ?_;refine bR qd λq es ep hq h2 A_=>?_;refine fz A_ λh3 h4 _ h5=>?_;refine EC I (by rw[e];exact uP) hs ⟨q,hq⟩ (sV hl hd _ ((rel.put k eb rv).keeps λc ys ec=>?_) (iC q es ep hq h2 h3 h4 h5));rw[aj (gE ec e (λz=>nomatch z))];exact ec
end
section
variable{X:Cx}{aa:List (Addr×Obj)}{σ:St}{H:Hp}{s:aw}{a:Addr}{kvs:List (aT×V)}{k:aT}{u:Value}{A:cX}{E:Value->aw->Prop}
def ahq(I:ak X aa σ H s)(e:Rd H a (.dK kvs))(h:∀t s',ak X aa σ H s'->Q (.int kvs.length t) s'):aM (aR X.prog X.w) A (mQ (.builtin "len") [.ref a]) Q E s:=by refine ja (tZ I.aG e) λz hd vs rel dd=>?_;refine call_len_dict hd dd (by rw[<-rel.length];rw[JD]at z;lia) ?_;rw[<-rel.length];exact h _ _ (I.tok _)
end
def LG(i:bf):Prop:=∀ov iv,Pb i false ov iv=aai [ov,iv] (zN ov iv)
def SW{prog:Program}{A:cX}{E:Value->aw->Prop}{env:Env}{value slice:bf}{T id:String}
  (hl:om (.type T) "__getitem__"=pure (some (.builtin id))) (hs:LG slice)
  (h:aM (aR prog w) A (eval value env) (λo s₁=>aM (aR prog w) A (eval slice env) (λi s₂=>s₂.TypeIs o T/\aM (aR prog w) A (zN o i) Q E s₂) E s₁) E s):
  aM (aR prog w) A (eval (.Subscript value slice pos) env) Q E s:=by
 refine aag (k4 h (λo s₁ h₁=>k4 h₁ (λi s₂ h₂=>?_) λ_ _ x=>x) λ_ _ x=>x);obtain⟨hT,h₂⟩:=h₂;unfold aah;refine cv ?_;rw[getitemInPython_of_ne hT.not_modules];refine cv (wpAny_specialOf hT hl ?_);have fin:aM (aR prog w) A (Pb slice false o i) (λr s₃=>aM (aR prog w) A (letTemporaryGo value o r>>=λ_=>pure r) Q E s₃) E s₂:=by rw[hs o i];exact wpAny_operating (k4 h₂ (λr s₃ h₃=>cv (wpAny_letTemporaryGo (eQ h₃))) λ_ _ x=>x)
 first
  |exact eQ (cv fin)
  |exact cv (eQ (cv fin))
  |exact cv fin
def ahr(I:ak X aa σ H s)(g:dC H a y o):s.TypeIs (.ref a) "dict":=by
 rcases g with⟨kvs,k,e,_,_⟩|⟨kvs,k,b,e,_,_,_⟩
 ·refine ja (tZ I.aG e) λ_ _ vs _ dd=>?_;exact dd.typeIs
 ·refine ja (vN I.aG e) λ_ _ xs _ dd=>?_;exact dd.typeIs
def ahs(td ty:TE):TE:=λσ H Q=>td σ H λx H1=>ty σ H1 λy H2=>∃a v,x= .ref a/\dC H2 a y (some v)/\Q v H2
def aht(ty td:TE):TE:=λσ H Q=>ty σ H λy H1=>td σ H1 λx H2=>∃a o,x= .ref a/\dC H2 a y o/\Q (.bl o.isSome) H2
def ahu(ty td:TE):TE:=λσ H Q=>ty σ H λy H1=>td σ H1 λx H2=>∃a o,x= .ref a/\dC H2 a y o/\Q (.bl (!o.isSome)) H2
def ahv(td ty tv:TE):TS:=λD σ H=>tv σ H λv H1=>td σ H1 λx H2=>ty σ H2 λy H3=>∃a H4,x= .ref a/\oU H3 a y v H4/\D.nx σ H4
section
variable{X:Cx}{o i e value:bf}{pos pos' kE:Pos}{td ty tv:TE}
def vO(hu:X.A.units+1<cLine)(ho:PE X o td)(hi:PE X i ty)(hs:LG i):PE X (.Subscript o i pos) (ahs td ty):=by intro aa s σ H Q I h;refine SW avp.lookup hs (aI (ho aa s σ H _ I h) λu s1 ahw=>bb ahw λx H1 I1 rx q1=>aI (hi aa s1 σ H1 _ I1 q1) λiv s2 ⟨y,H2,I2,ry,a,v,ex,g,q2⟩=>?_);subst ex;obtain rfl:u=c9 a:=rx;exact⟨ahr I2 g,ahn hu I2 g ry λw' s3 I3 me=>aB v H2 I3 me q2⟩
def SX(hu:X.A.units+1<cLine)(hi:PE X i ty)(ho:PE X o td):PC X .In i o (aht ty td):=by intro aa s σ H Q I h;refine aI (hi aa s σ H _ I h) λiv s1 ahx=>bb ahx λy H1 I1 ry q1=>aI (ho aa s1 σ H1 _ I1 q1) λu s2 ⟨x,H2,I2,rx,a,ov,ex,g,q2⟩=>?_;subst ex;obtain rfl:u=c9 a:=rx;exact aho hu I2 g ry λs3 I3=>aB (.bl ov.isSome) H2 I3 rfl q2
def LH(hu:X.A.units+1<cLine)(hi:PE X i ty)(ho:PE X o td):PC X .NotIn i o (ahu ty td):=by intro aa s σ H Q I h;refine aI (hi aa s σ H _ I h) λiv s1 ahy=>bb ahy λy H1 I1 ry q1=>aI (ho aa s1 σ H1 _ I1 q1) λu s2 ⟨x,H2,I2,rx,a,ov,ex,g,q2⟩=>?_;subst ex;obtain rfl:u=c9 a:=rx;exact SV hu I2 g ry λs3 I3=>aB (.bl (!ov.isSome)) H2 I3 rfl q2
def yP(hu:X.A.units+1<cLine)(ho:PE X o td)(hi:PE X i ty)(hv:PE X value tv)(hs:sE value (some (.Subscript o i pos')) pos.line X.env=pure false):
  PS X (.Assign [.Subscript o i pos'] value pos) (ahv td ty tv):=by
 intro aa s σ H D I h;refine wpAny_Assign_Subscript (aI (hv aa s σ H _ I h) λr s1 ahz=>bb ahz λv H1 I1 rv q1=>aI (ho aa s1 σ H1 _ I1 q1) λu s2 ahA=>bb ahA λx H2 I2 rx q2=>aI (hi aa s2 σ H2 _ I2 q2) λiv s3 ⟨y,H3,I3,ry,a,H4,ex,g,q3⟩=>?_) hs;subst ex;obtain rfl:u=c9 a:=rx;exact ahp hu I3 g ry rv λs4 I4=>cD σ H4 I4 q3
end
def SY(h:Heap)(hb:oh<h.objs.size):d9 P w H (h.push {cls:= .type "dict",data:= .dict #[]}) h.objs.size (.dK []):=
 (sV (iO _) (beq_eq_false_iff_ne.mpr (mP (gQ hb))) [] .nil (axX h))
def ahB:TE:=λ_ H Q=>∀p,H p=none->Q (.ref p) (upd H p (.dK []))
section
variable{X:Cx}{pos:Pos}
def vP:PE X (.Dict [] [] pos) ahB:=λaa s σ H Q I h=>
 wpAny_Dict_empty (aB (.ref s.heap.objs.size) _ (I.laid (a:=s.heap.objs.size) (o:= .dK []) (t':=s.toks) (λ_ _ q=>fc _ q) (aX _) (SY s.heap I.big)) rfl (h _ (I.aG.fresh (aX _))))
end
def LI:List (TE×TE)->St->Hp->(List (V×V)->Hp->Prop)->Prop
 |[],_,H,Q=>Q [] H
 |(tk,tv)::r,σ,H,Q=>tk σ H λx H1=>tv σ H1 λy H2=>LI r σ H2 λps H3=>Q ((x,y)::ps) H3
abbrev VV:List (V×V)->List (Value×Value)->Prop:=Paired λp q=>bC p.1 q.1/\bC p.2 q.2
def ED(X:Cx)(pos:Pos)(keys:List (Option bf))(values:List bf)(tY:List (TE×TE)):Prop:=
 ∀(aa:List (Addr×Obj))(s:aw)(σ:St)(H:Hp)(Q:List (V×V)->Hp->Prop),ak X aa σ H s->LI tY σ H Q->
  aM (aR X.prog X.w) X.A (evalPairs (pairTrees keys values X.env pos)) (λvs s'=>∃ps H',ak X aa σ H' s'/\VV ps vs/\Q ps H') X.xe s
def ahC:ED X pos [] [] []:=λaa s σ H Q I h=>pairTrees_nil_walk (aB [] H I .nil h)
def S1{k v:bf}{ks:List (Option bf)}{vs:List bf}{tk tv:TE}(hk:PE X k tk)(hv:PE X v tv)(hr:ED X pos ks vs tY):
  ED X pos (some k::ks) (v::vs) ((tk,tv)::tY):=λaa s σ H Q I h=>
 pairTrees_cons_walk (aI (hk aa s σ H _ I h) λu s1 ahD=>bb ahD λx H1 I1 rx q1=>aI (hv aa s1 σ H1 _ I1 q1) λw2 s2 ⟨y,H2,I2,ry,q2⟩=>aI (hr aa s2 σ H2 _ I2 q2) λws s3 ahE=>bb ahE λps H3 I3 rel q3=>aB ((x,y)::ps) H3 I3 (.cons ⟨rx,ry⟩ rel) q3)
def yQ(kvs more:List (aT×V)):List (aT×V):=more.foldl (λacc kv=>dO acc kv.1 kv.2) kvs
def KV.merge:∀{more:List (aT×V)}{rs:List (aT×Value)}{kvs:List (aT×V)}{vs:List (aT×Value)},KV more rs->KV kvs vs->KV (yQ kvs more) (merged vs rs):=by
 intro more rs kvs vs r;unfold KV at r;induction r generalizing kvs vs with
 |nil=>intro q;exact q
 |@cons p q ps qs h t ih=>
  intro r0;have e:KV (dO kvs p.1 p.2) (stored vs q.1 q.2):=by have:=r0.put p.1 h.2;rw[<-h.1];exact this
  exact ih e
theorem S2:∀(more kvs:List (aT×V)),(yQ kvs more).length<=kvs.length+more.length
 |[],kvs=>by show kvs.length<=kvs.length+0;lia
 |p::r,kvs=>by
  have h1:=S2 r (dO kvs p.1 p.2);have h2:=vM kvs p.1 p.2;show(yQ (dO kvs p.1 p.2) r).length<=_;rw[cG];lia
theorem S3{P:Program}{w:a9}:∀{kvs:List (aT×V)}{ws:List (Value×Value)},VV (kvs.map λkv=>(kV kv.1,kv.2)) ws->∃rs,Carries (fC P w) ws rs/\KV kvs rs
 |[],_,r=>by rw[jH]at r;cases r;exact aF [] uP .nil
 |p::kvs,_,r=>by
  rw[cM]at r;cases r with
  |@cons a b as bs h t=>
   refine ar (S3 (P:=P) (w:=w) t) λrs c q=>?_;obtain⟨b1,b2⟩:=b;exact aF ((p.1,b2)::rs) (b8 (qc h.1) rfl c) (.cons ⟨rfl,h.2⟩ q)
def ahF(tY:List (TE×TE)):TE:=λσ H Q=>∀p,H p=none->LI tY σ (upd H p (.dK [])) λps H2=>H2 p=some (.dK [])/\∃kvs:List (aT×V),ps=kvs.map (λkv=>(kV kv.1,kv.2))/\kvs.length<=15/\Q (.ref p) (upd H2 p (.dK (yQ [] kvs)))
def ahG{keys:List (Option bf)}{values:List bf}(h:ED X pos keys values tY)(fb:keys.all (·.isSome)=true)(hl:keys.length=values.length)(h0:keys≠[])
  (h15:keys.length<=15):PE X (.Dict keys values pos) (ahF tY):=by
 intro aa s σ H Q I q;have hn:=I.aG.fresh (aX s.heap.objs.size)
 have I1:=I.laid (a:=s.heap.objs.size) (o:= .dK []) (h':=s.heap.push {cls:= .type "dict",data:= .dict #[]}) (t':=s.toks) (λ_ _ q=>fc _ q) (aX _) (SY s.heap I.big);refine wpAny_Dict_walk (knd:=fC X.prog X.w) fb hl h0 h15 (aI (h aa _ σ _ _ I1 (q _ hn)) λws s2 ⟨ps,H2,I2,rel,e,kvs,ep,lk,q2⟩=>?_);subst ep;refine ar (S3 (P:=X.prog) (w:=X.w) rel) λrs c rk=>?_;refine ja (EB I2.aG e) λz hd vs0 r0 dd=>?_;cases r0;refine aW rs c dd λh' qd hs=>aB (.ref s.heap.objs.size) _ ?_ rfl q2;have hz:(yQ [] kvs).length<=sizeLine:=by have h1:=S2 kvs [];rw[sP]at h1;rw[JD];lia
 have he:∃q,h'.get? s.heap.objs.size=some q:=gb qd λq _ _ hq _=>⟨q,hq⟩;exact EC I2 (by rw[e];exact uP) hs he (LF hz hd (rk.merge .nil) qd)
structure M2 (X:Cx) (o:bf) (m:Str) (apos:Pos) (e f:bf) (c7:Pos):Prop where
 base:mS o m X.env (eval o X.env)=eval o X.env
 S4:((jI c7 (cJ [e,f] X.env)).all (λx=>!x.1)&&(zQ c7 (zR [] X.env)).all (λx=>x.1.isSome)
  &&decide (([e,f]:List bf).length+([]:List sM).length+(if([]:List sM).isEmpty then 0 else 1)<30))=true
 line:(apos.endLine==c7.line)=true
 trees:jI c7 (cJ [e,f] X.env)=[(false,eval e X.env),(false,eval f X.env)]
def LJ(H:Hp)(a:Addr):Prop:=(∃kvs,Rd H a (.dK kvs))\/∃kvs,Rd H a (.dT kvs)
def S5(I:ak X aa σ H s)(d:LJ H a):
  s.TypeIs (.ref a) "dict"/\(∀b,c9 a= .ref b->∃ob,s.heap.get? b=some ob/\ob.dict=none)/\(a==oh)=false:=by
 rcases d with⟨kvs,e⟩|⟨kvs,e⟩
 ·refine ja (tZ I.aG e) λ_ hd vs _ dd=>?_;refine b8 dd.typeIs (λb q=>?_) hd;cases q;refine bR dd λob _ _ h1 h2 _=>?_;exact aF ob h1 h2.2.1
 ·refine ja (vN I.aG e) λ_ hd xs _ dd=>?_;refine b8 dd.typeIs (λb q=>?_) hd;cases q;refine bR dd λob _ _ h1 h2 _=>?_;exact aF ob h1 h2.2.1
section
variable{X:Cx}{aa:List (Addr×Obj)}{σ:St}{H:Hp}{s:aw}{a:Addr}{y d:V}{u r:Value}{o:Option V}{A:cX}{E:Value->aw->Prop}
def ahI(hu:A.units+1<cLine)(I:ak X aa σ H s)(g:dC H a y o)(ry:bC y u)(rd:bC d r)(h:∀w' s',ak X aa σ H s'->bC (o.getD d) w'->Q w' s'):
  aM (aR X.prog X.w) A (mQ (.builtin "dict.get") [.ref a,u,r]) Q E s:=by
 rcases g with⟨kvs,k,e,ey,l⟩|⟨kvs,k,b,e,ey,eb,l⟩
 ·subst ey;refine ja (tZ I.aG e) λz hd vs rel dd=>?_;refine aan aao dd.typeIs avq (avr _ _ _) (meets_dict_get_default (fC X.prog X.w) a (qc ry) hd r) (aq dd.mapOf (h _ _ (I.tok _) ?_));rw[l];exact(rel.val k).getD rd
 ·subst ey;cases(show u=c9 b from ry);refine ja (vN I.aG e) λz hd xs rel dd=>?_;refine aan aao dd.typeIs avq (avr _ _ _) (meetsH_dict_get_default (CY (fC X.prog X.w)) a b hd r) ⟨JS hu,k,xs,yO I.aG eb,dd,h _ _ (I.tok _) ?_⟩;rw[l];exact(rel.val k).getD rd
end
def ahJ(td ty tx:TE):TE:=λσ H Q=>td σ H λx H1=>∃a,x= .ref a/\LJ H1 a/\ty σ H1 λy H2=>tx σ H2 λz H3=>∃o,dC H3 a y o/\Q (o.getD z) H3
section
variable{X:Cx}{o e f:bf}{apos c7:Pos}{td ty tx:TE}
def LK(hu:X.A.units+1<cLine)(ho:PE X o td)(he:PE X e ty)(hf:PE X f tx)(m:M2 X o "get" apos e f c7):PE X (.Call (.Attribute o "get" apos) [e,f] [] c7) (ahJ td ty tx):=by intro aa s σ H Q I h;refine aap m.base m.S4 m.line avs aao PySem.F.type_dict_get (aI (ho aa s σ H _ I h) λu s1 ahK=>sX ahK λx H1 I1 rx a ex d q1=>?_);subst ex;obtain rfl:u=c9 a:=rx;refine cT (S5 I1 d) λt1 t2 _=>?_;refine b8 t1 t2 ?_;rw[m.trees];refine JP rfl (Pe (C9 (aI (he aa s1 σ H1 _ I1 q1) λiv s2 ⟨y,H2,I2,ry,q2⟩=>C9 (aI (hf aa s2 σ H2 _ I2 q2) λfv s3 ⟨z,H3,I3,rz,ov,g,q3⟩=>O9 ?_))));exact ahI hu I3 g ry rz λw' s4 I4 me=>aB _ H3 I4 me q3
end
end
section
variable{t' kk:Nat}{ch:List Addr}{d:Addr}{u:HO}{tg e:bf}{P:Program}{w:a9}{K:aV}{ta:TA}{p pos kE:Pos}{X:Cx}{kvs:List (aT×V)}{elts:List bf}
def ahL:kg "reversed"=some (.type "reversed"):=by decide+kernel
section
variable{X:Cx}{aa:List (Addr×Obj)}{σ:St}{H:Hp}{s:aw}{h':Heap}
def ak.ahM(I:ak X aa σ H s)(k:∀b o,b∉ch->s.heap.get? b=some o->h'.get? b=some o)(hf:∀b∈ch,m8 X aa H b):ak X aa σ H {s with heap:=h',toks:=t'}:=by
 have tM:∀b u,H b=some u->b∉ch:=λb u e z=>by have q:=(hf b z).1;rw[q]at e;cases e
 refine I.step (g':=s.gens) (d':=s.drawn) (ch:=ch) (λb hb=>pH ((hf b hb).2.2.2.1) ((hf b hb).2.1) ((hf b hb).2.2.2.2.1) ((hf b hb).2.2.2.2.2)) (λb o _ _ hc e _=>k b o hc e) (λb o _ _ hc e _=>⟨o.slots,k b o hc e⟩)
  (λ_ _ _ _ n=>n) (λb o hc e=>⟨o,k b o hc e⟩) (λ_ _ e=>e) (λ_ _ _ e=>e) (λb ps e=>⟨#[],by rw[e];simp⟩) (λm hm=>?_) (λb u e=>?_) I.bare
 ·refine gb hm λo es ep ho r=>?_;exact pI o es ep (k _ o (λz=>(hf _ z).2.1 rfl) ho) r
 ·refine(I.aG b u e).gY (λc v hc q=>k c v ?_ q) (λ_ q=>q) λ_ _ q=>q;rcases hc with z|z
  ·rw[z];exact tM b u e
  ·exact tM c _ z
def ak.EE{T:Addr}{ob:HO}(I:ak X aa σ H s)(k:∀b o,b∉ch->s.heap.get? b=some o->h'.get? b=some o)(hf:∀b∈ch,m8 X aa H b)(hT:s.heap.objs.size<=T)
  (new:d9 X.prog X.w (upd H T ob) h' T ob):ak X aa σ (upd H T ob) {s with heap:=h',toks:=t'}:=by
 have hn:H T=none:=I.aG.fresh hT;have tM:∀b u,H b=some u->b∉ch:=λb u e z=>by have q:=(hf b z).1;rw[q]at e;cases e
 refine I.step (g':=s.gens) (d':=s.drawn) (ch:=ch) (λb hb=>pH ((hf b hb).2.2.2.1) ((hf b hb).2.1) ((hf b hb).2.2.2.2.1) ((hf b hb).2.2.2.2.2)) (λb o _ _ hc e _=>k b o hc e) (λb o _ _ hc e _=>⟨o.slots,k b o hc e⟩)
  (λb o _ e n=>?_) (λb o hc e=>⟨o,k b o hc e⟩) (λb xs e=>?_) (λb o u e=>?_) (λb ps e=>⟨#[],?_⟩) (λm hm=>?_) (λb u e=>?_) I.bare
 ·rw[aj (gQ (eP (cR e) hT))];exact n
 ·rw[aj (bL e hn)];exact e
 ·rw[aj (bL e hn)];exact e
 ·rw[aj (bL e hn),e];simp
 ·refine gb hm λo es ep ho r=>?_;exact pI o es ep (k _ o (λz=>(hf _ z).2.1 rfl) ho) r
 ·by_cases hb:b=T
  ·subst hb;rw[ag]at e;cases e;exact new
  ·rw[aj hb]at e;refine(I.aG b u e).gY (λc v hc q=>k c v ?_ q) (λc q=>by rw[aj (bL q hn)];exact q) λc xs q=>by rw[aj (bL q hn)];exact q
   rcases hc with z|z
   ·rw[z];exact tM b u e
   ·exact tM c _ z
def ak.lock(I:ak X aa σ H s)(h:H d=some u)(mu:tG (some u)):∃od,ak X aa σ (upd H d (.eG od u)) s:=by
 have x:=I.aG d u h;have ex:∃od,s.heap.get? d=some od:=by
  cases u with
  |lst xs=>refine pK x λ_ _ _ _ e=>?_;exact⟨_,e⟩
  |dK kvs=>refine mU x λ_ _ _ _ o _ _ e _=>?_;exact⟨o,e⟩
  |dT kvs=>refine mU x λ_ _ _ _ o _ _ e _=>?_;exact⟨o,e⟩
  |set S n=>refine fR x λo _ _ _ e _=>?_;exact⟨o,e⟩
  |ins C dx fs=>refine fi x λ_ _ _ e _=>?_;exact⟨_,e⟩
  |ext φ=>refine cT x λ_ ahN _=>?_;obtain⟨_,e⟩:=ahN;exact⟨_,e⟩
  |_=>exact iA mu
 obtain⟨od,e⟩:=ex;have new:d9 X.prog X.w (upd H d (.eG od u)) s.heap d (.eG od u):=by
  refine⟨e,x.gY (λb v _ q=>q) (λb q=>?_) λb xs q=>?_⟩
  ·rw[aj (λz=>by rw[z,h]at q;cases q;exact mu)];exact q
  ·rw[aj (λz=>by rw[z,h]at q;cases q;exact mu)];exact q
 exact⟨od,I.write (x:=d) (e:=d) (t':=s.toks) (h':=s.heap) (by rw[h];exact mu) (.inl rfl) (λb v _ q=>q) ⟨od,e⟩ new⟩
def ak.EF(I:ak X aa σ H s)(h:H d=some u)(mu:tG (some u)):∀o' u',X.vy d≠some (.eG o' u'):=λo' u' e=>by have q:=I.base.lu d o' u' e;rw[h]at q;cases q;exact mu
def ak.unlock{od:Obj}(I:ak X aa σ H s)(h:H d=some (.eG od u))(hn:∀o' u',X.vy d≠some (.eG o' u')):ak X aa σ (upd H d u) s:=by
 have yR:∀b o,H b=some o->(∀o' u',o≠ .eG o' u')->b≠d:=λb o e bh z=>by rw[z,h]at e;cases e;exact bh _ _ rfl
 have neN:∀b,H b=none->b≠d:=λb e z=>by rw[z,h]at e;cases e
 refine⟨I.ok,I.os,I.bare,⟨I.base.keep,I.base.slot,λb o e n hx=>?_,I.base.there,λb xs e=>?_,λb o x e=>?_,λb ps e=>?_⟩,I.loc,I.cell,?_,λx c e=>?_,λp hp=>?_,λb o e=>?_,I.len⟩
 ·rw[aj (neN b (I.base.free b o e n hx))];exact I.base.free b o e n hx
 ·have q:=I.base.mX b xs e;rw[aj (yR b _ q (λ_ _ z=>nomatch z))];exact q
 ·have q:=I.base.lu b o x e;rw[aj (λz=>by rw[z]at e;exact hn _ _ e)];exact q
 ·obtain⟨m,q⟩:=I.base.mY b ps e;exact⟨m,by rw[aj (yR b _ q (λ_ _ z=>nomatch z))];exact q⟩
 ·rw[aj (neN _ I.free)];exact I.free
 ·rw[aj (neN c (I.jV x c e))];exact I.jV x c e
 ·refine cT (I.pin p hp) λe n r=>?_;exact b8 e (by rw[aj (neN _ n)];exact n) r
 ·by_cases hb:b=d
  ·rw[hb,ag]at e;cases e;rw[hb];obtain⟨_,x⟩:=I.aG d _ h;exact x.gY (λc v _ q=>q) (λc q=>by rw[aj (yR c _ q (λ_ _ z=>nomatch z))];exact q) λc xs q=>by rw[aj (yR c _ q (λ_ _ z=>nomatch z))];exact q
  ·rw[aj hb]at e;exact(I.aG b o e).gY (λc v _ q=>q) (λc q=>by rw[aj (yR c _ q (λ_ _ z=>nomatch z))];exact q) λc xs q=>by rw[aj (yR c _ q (λ_ _ z=>nomatch z))];exact q
end
def ahO(t:TS):TS:=λD σ H=>∃d u,H d=some u/\tG (some u)/\∀od,t ⟨λσ' H'=>H' d=some (.eG od u)/\D.nx σ' (upd H' d u),λv H'=>H' d=some (.eG od u)/\D.rt v (upd H' d u),λσ' H'=>H' d=some (.eG od u)/\D.bk σ' (upd H' d u),λσ' H'=>H' d=some (.eG od u)/\D.ct σ' (upd H' d u)⟩ σ (upd H d (.eG od u))
section
variable{X:Cx}
def S6{st:Stmt}{t:TS}(h:PS X st t):PS X st (ahO t):=by
 intro aa s σ H D I hw;refine bb hw λd u hd mu hw=>?_;obtain⟨od,I1⟩:=I.lock hd mu;refine aI (h aa s σ _ _ I1 (hw od)) λf s1 q=>?_;cases f with
 |next=>obtain⟨σ',H',I2,e,q⟩:=q;exact⟨σ',_,I2.unlock e (I.EF hd mu),q⟩
 |brk=>obtain⟨σ',H',I2,e,q⟩:=q;exact⟨σ',_,I2.unlock e (I.EF hd mu),q⟩
 |cont=>obtain⟨σ',H',I2,e,q⟩:=q;exact⟨σ',_,I2.unlock e (I.EF hd mu),q⟩
 |ret v=>obtain⟨x,σ',H',I2,r,e,q⟩:=q;exact⟨x,σ',_,I2.unlock e (I.EF hd mu),r,q⟩
def EG{aa:List (Addr×Obj)}{σ:St}{H:Hp}{s:aw}{R:It->Hp->Prop}{J:It}{tn:Nat->Heap->Prop}{tk:Nat}(I:ak X aa σ H s)(o:Obj)
  (T:oM X.prog X.w X.K tg J [s.heap.objs.size] s.heap.objs.size tn) (st:tn 0 (s.heap.push o)) (q:R J H):Ef X aa σ tg R (.ref s.heap.objs.size) {s with heap:=s.heap.push o,toks:=tk}:=by
 refine⟨s.heap.objs.size,[s.heap.objs.size],tn,J,H,rfl,I.kept λb ob e=>fc _ e,T,st,λb hb=>?_,q⟩;have e:b=s.heap.objs.size:=by simpa using hb
 subst e;exact I.tP (aX _) (I.aG.fresh (aX _))
end
def Ba(K:aV)(a:Addr)(n:Nat):It:=
 ⟨λi H=>i<n/\∃(xs:List V)(x:V),ah K H a xs/\xs[n-1-i]?=some x,λi H x H'=>H'=H/\∀xs,ah K H a xs->xs[n-1-i]?=some x,λi _=>n<=i⟩
def ahP(a it:Addr)(n:Nat):oM P w K tg (Ba K a n) [it] it (λi h=>i<=n/\h.IsRevIter it a ((n:Int)-1-(i:Nat)))where
 mem:=by simp
 obj:=λi h st b hb=>by
  have e:b=it:=by simpa using hb
  subst e;refine iD st λ_ o e ahQ=>?_;refine eA ahQ λc d=>?_;exact aF o e λv z=>by rw[d]at z;cases z
 keep:=λi h h' st k=>⟨st.1,st.2.at λo e=>k it (by simp) o e⟩
 item:=by
  intro X hP hw hK hc i aa s σ H E I hf st hg;subst hP hw hK;refine pK hg λEH xs x hq hx=>?_;refine bc (I.list hq) λay rv p hz=>?_;refine ar (rv.get hx) λu hu ru=>?_;refine iR (hf it (by simp)) λf0 f1 f2 f3 f4 f5=>?_;obtain⟨_,hit⟩:=st;have e1:(n:Int)-1-((i:Nat):Int)=((n-1-i:Nat):Int):=by lia
  rw[e1]at hit;refine wpAny_pyNext_rev_item hit p.isList (x:=u) (by simpa using hu) λh' kF sb=>?_;have e2:((n-1-i:Nat):Int)-1=(n:Int)-1-((i+1:Nat):Int):=by lia
  rw[e2]at kF;have I1:ak X aa σ H {s with heap:=h'}:=I.turned (t':=s.toks) (λb o hb e=>(sb.2 b hb).trans e) f0 f1 f3 f4 f5
  refine bc (id kF) λo e c d=>?_;exact aF u rfl (AA (s:={s with heap:=h'}) e c d (by decide) (gU x H I1 ru ⟨rfl,λys hy=>by rw[I.yy hy hq];exact hx⟩ ⟨EH,kF⟩ λb hb=>(hf b hb).1))
 done:=by
  intro X hP hw hK hc i aa s σ H E I hf st hg;subst hP hw hK;refine iR (hf it (by simp)) λf0 f1 f2 f3 f4 f5=>?_;obtain⟨EH,hit⟩:=st;have lU:n<=i:=hg
  have e1:(n:Int)-1-((i:Nat):Int)=-1:=by lia
  rw[e1]at hit;exact wpAny_pyNext_rev_end (I.ok.hd hc) hit λh' eb=>⟨rfl,I.turned (t':=s.toks) (λb o hb e=>eb b o hb e) f0 f1 f3 f4 f5⟩
 self:=λA i s Q E st h=>avt st.2 h
def ahR(K:aV)(ta:TA):TI:=λσ H R=>ta σ H λvs H1=>∃(a:Addr)(xs:List V),vs=[.ref a]/\ah K H1 a xs/\R (Ba K a xs.length) H1
section
variable{X:Cx}{tg:bf}
def ahS(hg:Gl X "reversed")(hm:X.mg "reversed"=none)(ha:PA X [e] ta)(hs:cJ [e] X.env=[(false,eval e X.env)]:=by rfl):PI X tg (.Call (.Name "reversed" p) [e] [] pos) (ahR X.K ta):=by
 intro aa s σ H R I h;refine O6 (vA I hg hm ahL (JC (aI (ha pos aa s σ H _ I h) λus s1 ahT=>bb ahT λvs H1 I1 r1 q1=>?_) hs rfl));refine bb q1 λa xs e hq q=>?_;subst e;cases r1 with
 |cons r rr=>
  cases rr;cases r;refine bc (I1.list hq) λay rv p' hz=>?_;have hl:=rv.length
  have e1:((ay.toArray.size:Nat):Int)-1=(xs.length:Int)-1-((0:Nat):Int):=by simp only[eY];lia
  refine call_reversed_list p'.isList (avt (l:=a) (i:=((ay.toArray.size:Nat):Int)-1) (aW _ (h7 _ rfl) rfl rfl) ?_);refine EG (tk:=s1.toks) I1 _ (ahP a _ xs.length) ⟨iO _,?_⟩ q;rw[<-e1];exact aW _ (h7 _ rfl) rfl rfl
end
def t_(x:Str):It:=⟨λi _=>i<x.cps.size,λi H v H'=>H'=H/\∃c,x.cps[i]?=some c/\v= .str ⟨#[c]⟩,λi _=>x.cps.size<=i⟩
def S7(it:Addr)(x:Str)(t:Tok)(ty:String)(tW:ty="str_ascii_iterator"\/ty="str_iterator"):
  oM P w K tg (t_ x) [it] it (λi h=>h.IsStrIter it ty x t i)where
 mem:=by simp
 obj:=λi h st b hb=>by
  have e:b=it:=by simpa using hb
  subst e;refine bc st λo e c d=>?_;exact aF o e λv z=>by rw[d]at z;cases z
 keep:=λi h h' st k=>ar st λo ho r=>(aF o (k it (by simp) o ho) r)
 item:=by
  intro X hP hw hK hc i aa s σ H E I hf st hg;subst hP hw hK;refine iR (hf it (by simp)) λf0 f1 f2 f3 f4 f5=>?_;have W:Walks X.prog X.w X.A it [it] [it] x.cps.size (SignAt x) (λi h=>h.IsStrIter it ty x t i):=by
   rcases tW with e|e
   ·rw[e];exact Walks.strAscii (I.ok.hd hc) it x t
   ·rw[e];exact Walks.strWide (I.ok.hd hc) it x t
  have h_:["enumerate","zip","dict_itemiterator","dict_reverseitemiterator","odict_iterator","itertools.zip_longest","itertools.pairwise"].contains ty=false:=by
   rcases tW with e|e
   ·rw[e];decide
   ·rw[e];decide
  refine W.item i s _ _ hg st λv h' tk hv kF kk=>?_;refine bZ hv λc u hcx ahV=>?_;obtain rfl:=ahV;have I1:ak X aa σ H {s with heap:=h',toks:=tk}:=I.turned (λb o hb e=>kk b o (by simpa using hb) e) f0 f1 f3 f4 f5
  refine bc (id kF) λoi e cc dd=>?_;exact aq rfl (AA (s:={s with heap:=h',toks:=tk}) e cc dd h_ (gU (.str ⟨#[c]⟩) H I1 ⟨u,rfl⟩ (cg rfl c hcx rfl) kF λb hb=>(hf b hb).1))
 done:=by
  intro X hP hw hK hc i aa s σ H E I hf st hg;subst hP hw hK;refine iR (hf it (by simp)) λf0 f1 f2 f3 f4 f5=>?_;have hx:x.cps[i]?=none:=Array.getElem?_eq_none hg
  rcases tW with e|e
  ·rw[e]at st;exact wpAny_pyNext_ascii_end (I.ok.hd hc) st hx λh' eb=>⟨rfl,I.turned (t':=s.toks) (λb o hb e=>eb b o hb e) f0 f1 f3 f4 f5⟩
  ·rw[e]at st;exact wpAny_pyNext_wide_end (I.ok.hd hc) st hx λh' eb=>⟨rfl,I.turned (t':=s.toks) (λb o hb e=>eb b o hb e) f0 f1 f3 f4 f5⟩
 self:=λA i s Q E st h=>by
  rcases tW with e|e
  ·rw[e]at st;exact wpAny_pyIter_striter_ascii st h
  ·rw[e]at st;exact wpAny_pyIter_striter_wide st h
def ahW(te:TE):TI:=λσ H R=>te σ H λv H1=>∃x,v= .str x/\R (t_ x) H1
def EI{te:TE}(he:PE X e te):PI X tg e (ahW te):=by
 intro aa s σ H R I h;refine aI (he aa s σ H _ I h) λv s1 ⟨y,H1,I1,r1,x,ex,q⟩=>?_;subst ex;obtain⟨t,rfl⟩:=r1;cases ha:x.cps.all (·<128)
 ·exact wpAny_pyIter_wide ha (EG (tk:=s1.toks) I1 _ (S7 _ x t "str_iterator" (.inr rfl)) (aW _ (h7 _ rfl) rfl rfl) q)
 ·exact wpAny_pyIter_ascii ha (EG (tk:=s1.toks) I1 _ (S7 _ x t "str_ascii_iterator" (.inl rfl)) (aW _ (h7 _ rfl) rfl rfl) q)
def ahX{κ:Type}{kvs:List (κ×V)}{vs:List (κ×Value)}(h:KV kvs vs):∀{i:Nat}{k:κ}{v:V},kvs[i]?=some (k,v)->∃u,vs[i]?=some (k,u)/\bC v u:=by
 unfold KV at h;induction h with
 |nil=>intro i k v e;simp at e
 |@cons a b l₁ l₂ r t ih=>
  intro i k v e;cases i with
  |zero=>
   simp only[avu,OL]at e;subst e;refine aF b.2 ?_ r.2;simp only[avu];exact congrArg some (Prod.ext r.1.symm rfl)
  |succ j=>
   simp only[List.getElem?_cons_succ]at e⊢;exact ih e
def ahY{k:aT}{u:Value}(h:rm k u=true):bC (kV k) u:=by
 rcases ku h with⟨i,t,rfl,rfl⟩|⟨x,t,rfl,rfl⟩
 ·exact⟨t,rfl⟩
 ·exact⟨t,rfl⟩
section
variable{X:Cx}{aa:List (Addr×Obj)}{σ:St}{H:Hp}{s:aw}{d:Addr}{o:Obj}
def ak.LM(I:ak X aa σ H s)(h:H d=some (.eG o (.dK kvs))):
  (d==oh)=false/\s.heap.get? d=some o/\o.ExactDict/\∃(es:Array Pn)(ep:Nat)(vs:List (aT×Value)),o.data= .dict es ep/\es.size=kvs.length/\KV kvs vs/\s.heap.DictAt (fC X.prog X.w) d vs ep:=by
 refine fz (I.aG d _ h) λhd z hs vQ=>?_;refine ar vQ λvs kv vR=>?_;refine bR vR λo' es ep ho hx ahZ=>?_;refine eA ahZ λub r=>?_;rw[hd]at ho;cases ho;refine⟨hs,hd,hx,es,ep,vs,ub,?_,kv,cC o es hd hx ub r⟩;have l1:=r.2.1.length
 have l2:kvs.length=vs.length:=Paired.length kv;rw[Jy]at l1;lia
end
def Bb(d:Addr)(o:Obj)(kvs:List (aT×V)):It:=
 ⟨λi H=>H d=some (.eG o (.dK kvs))/\i<kvs.length,λi H x H'=>∃T k v,kvs[i]?=some (k,v)/\x= .ref T/\H T=none/\H'=upd H T (.tup [kV k,v]),λi H=>H d=some (.eG o (.dK kvs))/\kvs.length<=i⟩
def S8{o:Obj}{es tK:Array Pn}{ep tL:Nat}(h:o.data= .dict es ep)(h':o.data= .dict tK tL):tK=es/\tL=ep:=by rw[h]at h';cases h';exact⟨rfl,rfl⟩
section
variable{P:Program}{w:a9}{K:aV}{tg:bf}{d:Addr}{o:Obj}{es:Array Pn}{ep:Nat}
def ah0(it:Addr)(EJ:o.data= .dict es ep):
  oM P w K (.Tuple elts kk kE) (Bb d o kvs) [it] it (λi h=>∃ok ov,IsItemIter h it d i kvs.length ep ok ov)where
 mem:=by simp
 obj:=λi h st b hb=>by
  have e:b=it:=by simpa using hb
  subst e;refine lh st λok ov e=>?_;exact aq e λv z=>nomatch z
 keep:=λi h h' st k=>lh st λok ov e=>(ki ok ov (k it (by simp) _ e))
 item:=by
  intro X hP hw hK hc i aa s σ H E I hf st hg;subst hP hw hK;obtain⟨hd,hi⟩:=hg;refine fz (I.LM hd) λhs yS hx vQ=>?_;refine bR vQ λtK tL vs ub hsz vR=>?_;refine eA vR λkv hm=>?_;obtain⟨rfl,rfl⟩:=S8 EJ ub;obtain⟨⟨k,v⟩,yT⟩:∃p,kvs[i]?=some p:=⟨kvs[i],mN hi⟩;refine ar (ahX kv yT) λu hu ru=>?_;have hl:kvs.length=vs.length:=Paired.length kv
  refine lh st λok ov he=>?_;rw[hl]at he;have bH:it<s.heap.objs.size:=cR he
  refine wpAny_pyNext_items_item he hm hu λkey h' K5 ho hT hz hk=>?_;refine aq rfl (wpAny_letOwnedTupleGo_items (s:={s with heap:=h'}) ho λjY Bc sb=>?_);have vS:jY.get? s.heap.objs.size=some {cls:= .type "tuple",data:= .seq #[key,u]}:=(sb.2 _ (zP bH)).trans hT
  have new:d9 X.prog X.w (upd H s.heap.objs.size (.tup [kV k,v])) jY s.heap.objs.size (.tup [kV k,v]):=
   (cg (by show 2<=sizeLine;decide) [key,u] (.cons (ahY (show rm k key=true from K5)) (.cons ru .nil)) (aW _ vS rfl ⟨_,rfl⟩))
  have I1:ak X aa σ (upd H s.heap.objs.size (.tup [kV k,v])) {s with heap:=jY}:=
   I.EE (t':=s.toks) (ch:=[it]) (λb ob hb e=>(sb.2 b (by simpa using hb)).trans (hk b ob (by simpa using hb) e)) hf (aX _) new
  refine gU (.ref s.heap.objs.size) _ I1 rfl (kj _ k v yT rfl (I.aG.fresh (aX _)) rfl) (ki key u ?_) λb hb=>?_
  ·rw[hl];exact Bc
  ·have e:b=it:=by simpa using hb
   rw[e,aj (gQ bH)];exact(hf it (by simp)).1
 done:=by
  intro X hP hw hK hc i aa s σ H E I hf st hg;subst hP hw hK;obtain⟨hd,hi⟩:=hg;refine iR (hf it (by simp)) λf0 f1 f2 f3 f4 f5=>?_;refine fz (I.LM hd) λhs yS hx vQ=>?_;refine bR vQ λtK tL vs ub hsz vR=>?_;refine eA vR λkv hm=>?_;obtain⟨rfl,rfl⟩:=S8 EJ ub;have hl:kvs.length=vs.length:=Paired.length kv
  refine lh st λok ov he=>?_;rw[hl]at he;exact wpAny_pyNext_items_end (I.ok.hd hc) he hm (zG (by lia)) λh' eb=>⟨rfl,I.turned (t':=s.toks) (λb ob hb e=>eb b ob hb e) f0 f1 f3 f4 f5⟩
 self:=λA i s Q E st h=>lh st λ_ _ e=>PySem.W.kcp_self e h
end
def ah1(td:TE):TI:=λσ H R=>td σ H λx H1=>∃d o kvs,x= .ref d/\H1 d=some (.eG o (.dK kvs))/\R (Bb d o kvs) H1
section
variable{X:Cx}{tg e:bf}{td:TE}{apos c7:Pos}
def S9(he:PE X e td)(jz:mS e "items" X.env (eval e X.env)=eval e X.env:=by rfl)(jA:(apos.endLine==c7.line)=true:=by rfl):
  PI X (.Tuple elts kk kE) (.Call (.Attribute e "items" apos) [] [] c7) (ah1 td):=by
 intro aa s σ H R I h;refine aap (T:="dict") (id:="dict.items") jz rfl jA F.plainAttrs_dict avv F.type_dict_items (aI (he aa s σ H _ I h) λu s1 ⟨x,H1,I1,rx,d,o,kvs,ex,hd,q⟩=>?_);subst ex;obtain rfl:u=c9 d:=rx;refine fz (I1.LM hd) λhs yS hx vQ=>?_;refine bR vQ λes ep vs ub hsz vR=>?_;refine eA vR λkv hm=>?_;have hl:kvs.length=vs.length:=Paired.length kv
 refine b8 hm.dictOf.typeIs hm.dictOf.mapOf.noDict ?_;have I2:ak X aa σ H1 {s1 with heap:=s1.heap.push {cls:= .type "dict_items",data:= .fields #[.ref d]}}:=I1.kept (t':=s1.toks) λb ob q=>fc _ q
 have fin:aM (aR X.prog X.w) X.A (JA (.ref s1.heap.objs.size)) (Ef X aa σ (.Tuple elts kk kE) R) X.xe {s1 with heap:=s1.heap.push {cls:= .type "dict_items",data:= .fields #[.ref d]}}:=by refine wpAny_pyIter_items (d:=d) (knd:=fC X.prog X.w) (aW _ (h7 _ rfl) rfl rfl) (hm.push _) (EG (tk:=s1.toks) I2 _ (ah0 _ ub) (ki .none .none ?_) q);rw[hl];exact h7 _ rfl
 show aM _ _ (callWith c7 (.builtin "dict.items") [.ref d] [] []) _ X.xe s1;exact method_meetsIn avv F.entry_dict_items rfl (avc ⟨rfl,hm.dictOf.typeIs,F.args_dict_items_1 _,_,meets_dict_items (fC X.prog X.w) d hs,⟨vs,hm.dictOf⟩,fin⟩)
end
def Be(K:aV)(a:Addr):It:=
 ⟨λi H=>∃(xs:List V)(x:V),ah K H a xs/\xs[i]?=some x,λi H v H'=>∃T x,v= .ref T/\H T=none/\H'=upd H T (.tup [.int (i:Nat),x])/\∀xs,ah K H a xs->xs[i]?=some x,λi H=>∃xs:List V,ah K H a xs/\xs.length<=i⟩
def ah2(a e it:Addr):
  oM P w K (.Tuple elts kk kE) (Be K a) [e,it] e (λi h=>(∃old,Df h e it ((i:Nat):Int) old)/\h.IsListIter it a i/\e≠it)where
 mem:=by simp
 obj:=λi h st b hb=>by
  refine cT st λah3 ah4 _=>?_;obtain⟨old,he⟩:=ah3;obtain⟨o,ho,hc,hd⟩:=ah4;have e':b=e\/b=it:=by simpa using hb
  rcases e' with z|z
  ·rw[z];exact aq he λv q=>nomatch q
  ·rw[z];exact aF o ho λv q=>by rw[hd]at q;cases q
 keep:=λi h h' st k=>let⟨⟨old,he⟩,hi,bh⟩:=st;(b8 ⟨old,k e (by simp) _ he⟩ (hi.at λo q=>k it (by simp) o q) bh)
 item:=by
  intro X hP hw hK hc i aa s σ H E I hf st hg;subst hP hw hK;refine cT st λah5 hit bh=>?_;obtain⟨old,he⟩:=ah5;refine bZ hg λxs x hq hx=>?_;refine bc (I.list hq) λay rv p hz=>?_;refine ar (rv.get hx) λu hu ru=>?_;have uc:e<s.heap.objs.size:=cR he
  have iJ:it<s.heap.objs.size:=by refine ar hit λ_ q _=>?_;exact cR q
  refine wpAny_pyNext_enum_item he hit p.isList (x:=u) (by simpa using hu) bh λh' ho LN hT hsz hk=>?_;refine aq rfl (avw (s:={s with heap:=h',toks:=s.toks+1}) ho λjY Bc sb=>?_);have vS:jY.get? s.heap.objs.size=some {cls:= .type "tuple",data:= .seq #[.int i s.toks,u]}:=(sb.2 _ (zP uc)).trans hT
  have new:d9 X.prog X.w (upd H s.heap.objs.size (.tup [.int (i:Nat),x])) jY s.heap.objs.size (.tup [.int (i:Nat),x]):=
   (cg (by show 2<=sizeLine;decide) [.int i s.toks,u] (.cons ⟨_,rfl⟩ (.cons ru .nil)) (aW _ vS rfl ⟨_,rfl⟩))
  have I1:ak X aa σ (upd H s.heap.objs.size (.tup [.int (i:Nat),x])) {s with heap:=jY,toks:=s.toks+1}:=
   I.EE (ch:=[e,it]) (λb ob hb q=>(sb.2 b (λz=>hb (by simp[z]))).trans (hk b ob (λz=>hb (by simp[z])) (λz=>hb (by simp[z])) q)) hf (aX _) new
  refine gU (.ref s.heap.objs.size) _ I1 rfl (cC _ x rfl (I.aG.fresh (aX _)) rfl λys hy=>by rw[I.yy hy hq];exact hx) (b8 ⟨u,?_⟩ (LN.at λo q=>(sb.2 it (mP bh)).trans q) bh) λb hb=>?_
  ·have e1:((i+1:Nat):Int)=(i:Int)+1:=by lia
   rw[e1];exact Bc
  ·have fV:b<s.heap.objs.size:=by
    have e':b=e\/b=it:=by simpa using hb
    rcases e' with z|z
    ·rw[z];exact uc
    ·rw[z];exact iJ
   rw[aj (gQ fV)];exact(hf b hb).1
 done:=by
  intro X hP hw hK hc i aa s σ H E I hf st hg;subst hP hw hK;refine cT st λah6 hit bh=>?_;obtain⟨old,he⟩:=ah6;refine ar hg λxs hq hx=>?_;refine bc (I.list hq) λay rv p hz=>?_;refine iR (hf it (by simp)) λf0 f1 f2 f3 f4 f5=>?_;have hl:=rv.length
  exact wpAny_pyNext_enum_end (I.ok.hd hc) he hit p.isList (by simp;omega) λh' eb=>⟨rfl,I.turned (t':=s.toks) (λb o hb q=>eb b o hb q) f0 f1 f3 f4 f5⟩
 self:=λA i s Q E st h=>let⟨⟨_,he⟩,_⟩:=st;Po he h
def ah7(K:aV)(ta:TA):TI:=λσ H R=>ta σ H λvs H1=>∃a xs,vs=[.ref a]/\ah K H1 a xs/\R (Be K a) H1
def yU(hg:Gl X "enumerate")(hm:X.mg "enumerate"=none)(ha:PA X [e] ta)(hs:cJ [e] X.env=[(false,eval e X.env)]:=by rfl):
  PI X (.Tuple elts kk kE) (.Call (.Name "enumerate" p) [e] [] pos) (ah7 X.K ta):=by
 intro aa s σ H R I h;refine O6 (vA I hg hm avx (JC (aI (ha pos aa s σ H _ I h) λus s1 ah8=>bb ah8 λvs H1 I1 r1 q1=>?_) hs rfl));refine bb q1 λa xs ex hq q=>?_;subst ex;cases r1 with
 |cons r rr=>
  cases rr;cases r;refine bc (I1.list hq) λay rv p' hz=>?_;refine call_enumerate_list p'.isList λh' he hit hsz hk=>Po he ?_;have I2:ak X aa σ H1 {s1 with heap:=h'}:=I1.kept (t':=s1.toks) hk
  refine⟨s1.heap.objs.size+1,[s1.heap.objs.size+1,s1.heap.objs.size],_,_,H1,rfl,I2,ah2 a (s1.heap.objs.size+1) s1.heap.objs.size,b8 ⟨.none,he⟩ hit (avy _),λb hb=>?_,q⟩;have e':b=s1.heap.objs.size+1\/b=s1.heap.objs.size:=by simpa using hb
  have hle:s1.heap.objs.size<=b:=by
   rcases e' with z|z
   ·rw[z];exact xO _ _
   ·rw[z];exact aX _
  exact I1.tP hle (I1.aG.fresh hle)
def ah9:kg "zip"=some (.type "zip"):=by decide+kernel
def Bf(K:aV)(a b:Addr):It:=
 ⟨λi H=>∃(xs ys:List V)(x y:V),ah K H a xs/\ah K H b ys/\xs[i]?=some x/\ys[i]?=some y,λi H v H'=>∃T x y,v= .ref T/\H T=none/\H'=upd H T (.tup [x,y])/\(∀xs,ah K H a xs->xs[i]?=some x)/\∀ys,ah K H b ys->ys[i]?=some y,λi H=>∃xs ys:List V,ah K H a xs/\ah K H b ys/\(xs.length<=i\/ys.length<=i)⟩
def ah_{a b z TI TO i1 i2:Addr}(D:ZipApart z TI TO i1 i2 a b):
  oM P w K (.Tuple elts kk kE) (Bf K a b) [z,TI,TO,i1,i2] z (λi h=>IsZip h z TI TO .none/\IsPair h TI (.ref i1) (.ref i2)/\(∃x y,IsPair h TO x y)/\h.IsListIter i1 a i/\h.IsListIter i2 b i)where
 mem:=by simp
 obj:=λi h st c hc=>by
  refine fi st λhz oV aia aib aic=>?_;obtain⟨x,y,qe⟩:=aia;obtain⟨o1,e1,_,d1⟩:=aib;obtain⟨o2,e2,_,d2⟩:=aic;have e':c=z\/c=TI\/c=TO\/c=i1\/c=i2:=by simpa using hc
  rcases e' with q|q|q|q|q
  ·rw[q];exact aq hz λv q=>nomatch q
  ·rw[q];exact aq oV λv q=>nomatch q
  ·rw[q];exact aq qe λv q=>nomatch q
  ·rw[q];exact aF o1 e1 λv q=>by rw[d1]at q;cases q
  ·rw[q];exact aF o2 e2 λv q=>by rw[d2]at q;cases q
 keep:=λi h h' st k=>by refine fi st λhz oV aid h1 h2=>?_;obtain⟨x,y,qe⟩:=aid;exact k9 (k z (by simp) _ hz) (k TI (by simp) _ oV) (ki x y (k TO (by simp) _ qe)) (h1.at λo q=>k i1 (by simp) o q) (h2.at λo q=>k i2 (by simp) o q)
 item:=by
  intro X hP hw hK hc i aa s σ H E I hf st hg;subst hP hw hK;refine fi st λhz oV aie h1 h2=>?_;obtain⟨x0,y0,qe⟩:=aie;refine fR hg λxs ys x y yV aif=>?_;refine cT aif λyW hx hy=>?_;refine bc (I.list yV) λay rv p _=>?_;refine bc (I.list yW) λoR EK p2 _=>?_;refine ar (rv.get hx) λu hu ru=>?_;refine ar (EK.get hy) λu2 pQ ru2=>?_;have qg:z<s.heap.objs.size:=cR hz
  refine wpAny_pyNext_zip_item D hz oV qe h1 h2 p.isList p2.isList (x:=u) (y:=u2) (by simpa using hu) (by simpa using pQ) λh' z' TO' rJ h2' hT hsz hk=>?_;refine aq rfl (wpAny_letOwnedTupleGo_zip (s:={s with heap:=h'}) z' λjY z'' sb=>?_);have vS:jY.get? s.heap.objs.size=some {cls:= .type "tuple",data:= .seq #[u,u2]}:=(sb.2 _ (zP qg)).trans hT
  have new:d9 X.prog X.w (upd H s.heap.objs.size (.tup [x,y])) jY s.heap.objs.size (.tup [x,y]):=
   (cg (by show 2<=sizeLine;decide) [u,u2] (.cons ru (.cons ru2 .nil)) (aW _ vS rfl ⟨_,rfl⟩))
  have I1:ak X aa σ (upd H s.heap.objs.size (.tup [x,y])) {s with heap:=jY}:=
   I.EE (t':=s.toks) (ch:=[z,TI,TO,i1,i2]) (λc o hb q=>(sb.2 c (λq'=>hb (by simp[q']))).trans (hk c o (λq'=>hb (by simp[q'])) (λq'=>hb (by simp[q'])) (λq'=>hb (by simp[q'])) (λq'=>hb (by simp[q'])) q)) hf (aX _) new
  refine gU (.ref s.heap.objs.size) _ I1 rfl (iC _ x y rfl (I.aG.fresh (aX _)) rfl (λl hl=>by rw[I.yy hl yV];exact hx) λl hl=>by rw[I.yy hl yW];exact hy) (k9 z'' ?_ (ki u u2 ?_) ?_ ?_) λc EL=>?_
  ·exact(sb.2 _ D.TIz).trans (hk _ _ D.TIz D.TITO D.TIi1 D.TIi2 oV)
  ·exact(sb.2 _ D.TOz).trans TO'
  ·exact rJ.at λo q=>(sb.2 _ D.i1z).trans q
  ·exact h2'.at λo q=>(sb.2 _ D.i2z).trans q
  ·have bH:c<s.heap.objs.size:=by
    have e':c=z\/c=TI\/c=TO\/c=i1\/c=i2:=by simpa using EL
    rcases e' with q|q|q|q|q
    ·rw[q];exact qg
    ·rw[q];exact cR oV
    ·rw[q];exact cR qe
    ·rw[q];refine ar h1 λ_ e1 _=>?_;exact cR e1
    ·rw[q];refine ar h2 λ_ e2 _=>?_;exact cR e2
   rw[aj (gQ bH)];exact(hf c EL).1
 done:=by
  intro X hP hw hK hc i aa s σ H E I hf st hg;subst hP hw hK;refine fi st λhz oV ail h1 h2=>?_;obtain⟨x0,y0,qe⟩:=ail;refine bb hg λxs ys yV yW EM=>?_;refine bc (I.list yV) λay rv p _=>?_;refine bc (I.list yW) λoR EK p2 _=>?_;have l1:=rv.length
  have l2:=EK.length;have he:ay.toArray[i]?=none\/oR.toArray[i]?=none:=by
   rcases EM with q|q
   ·exact .inl (by simp;lia)
   ·exact .inr (by simp;lia)
  exact wpAny_pyNext_zip_end (I.ok.hd hc) D hz oV qe h1 h2 p.isList p2.isList he λh' hk=>⟨rfl,I.ahM (t':=s.toks) (ch:=[z,TI,TO,i1,i2]) (λc o hb q=>hk c o (λq'=>hb (by simp[q'])) (λq'=>hb (by simp[q'])) (λq'=>hb (by simp[q'])) (λq'=>hb (by simp[q'])) q) hf⟩
 self:=λA i s Q E st h=>avz st.1 h
def aim(K:aV)(ta:TA):TI:=λσ H R=>ta σ H λvs H1=>∃a b xs ys,vs=[.ref a, .ref b]/\ah K H1 a xs/\ah K H1 b ys/\R (Bf K a b) H1
def ain{e2:bf}(hg:Gl X "zip")(hm:X.mg "zip"=none)(ha:PA X [e,e2] ta)
  (hs:cJ [e,e2] X.env=(false,eval e X.env)::cJ [e2] X.env:=by rfl) (fk:(jI pos (cJ [e2] X.env)).any (·.1)=false:=by rfl):
  PI X (.Tuple elts kk kE) (.Call (.Name "zip" p) [e,e2] [] pos) (aim X.K ta):=by
 intro aa s σ H R I h;refine O6 (vA I hg hm ah9 (JC (aI (ha pos aa s σ H _ I h) λus s1 aio=>bb aio λvs H1 I1 r1 q1=>?_) hs fk));refine fR q1 λa b xs ys ex aip=>?_;refine cT aip λyV yW q=>?_;subst ex;cases r1 with
 |cons r rr=>
  cases rr with
  |cons r' rr=>
   cases rr;cases r;cases r';refine bc (I1.list yV) λay rv p1 _=>?_;refine bc (I1.list yW) λoR EK p2 _=>?_;have la:a<s1.heap.objs.size:=p1.lt
   have lb:b<s1.heap.objs.size:=p2.lt;refine call_zip_2 p1.isList p2.isList λh' hz oV qe h1 h2 hsz hk=>avz hz ?_;have I2:ak X aa σ H1 {s1 with heap:=h'}:=I1.kept (t':=s1.toks) hk;refine⟨s1.heap.objs.size+4,[s1.heap.objs.size+4,s1.heap.objs.size+2,s1.heap.objs.size+3,s1.heap.objs.size,s1.heap.objs.size+1],_,_,H1,rfl,I2,ah_ (PySem.W.ktu_apart s1.heap.objs.size a b la lb),k9 hz oV (ki _ _ qe) h1 h2,λc EL=>?_,q⟩;have e':c=s1.heap.objs.size+4\/c=s1.heap.objs.size+2\/c=s1.heap.objs.size+3\/c=s1.heap.objs.size\/c=s1.heap.objs.size+1:=by simpa using EL
   have hle:s1.heap.objs.size<=c:=by
    rcases e' with z|z|z|z|z
    ·rw[z];exact xO _ _
    ·rw[z];exact xO _ _
    ·rw[z];exact xO _ _
    ·rw[z];exact aX _
    ·rw[z];exact xO _ _
   exact I1.tP hle (I1.aG.fresh hle)
end
end L2
section
namespace LO
open PySem PyProof.Rows
variable{x y:Int}
def aiq(m:Nat):∀n:Nat,(m^^^n)+2*(m&&&n)=m+n:=by
 induction m using avA with
 |_ m ih=>
  intro n;by_cases h0:m=0
  ·subst h0;simp
  ·have ih':=ih (m/2) (by lia) (n/2);rw[<-Nat.xor_div_two,<-Nat.and_div_two]at ih';have o1:=@Nat.xor_mod_two_eq_one m n;have a1:=@Nat.and_mod_two_eq_one m n;lia
def ais(hx:0<=x)(hy:0<=y):Z6 x y=((x.toNat^^^y.toNat:Nat):Int):=by have e:=aiq x.toNat y.toNat;rw[bitXor_and,Jp hx hy];lia
def ait(hx:0<=x)(hy:0<=y):Z5 x y=((x.toNat|||y.toNat:Nat):Int):=by have e:=OV x.toNat y.toNat;rw[bitOr_and,Jp hx hy];omega
end LO
end
section
namespace TL
open PySem PySem.Builtin PySem.Builtin.Str PySem.StrLaws
variable{x y:Str}{S acc r L:List Nat}{c n:Nat}
abbrev tl(x:Str):List Nat:=x.cps.toList
def mj(x:Str):x.length=(tl x).length:=by simp[tl,au4]
def vT(h:tl x=tl y):x=y:=Str.ext' (Array.toList_inj.mp h)
def yX(x y:Str):tl (x++y)=tl x++tl y:=by show(x++y).cps.toList=_;rw[Str.cps_append,Array.toList_append]
def aiu(l:List Nat):tl ⟨l.toArray⟩=l:=rfl
theorem S_:∀{l m:List Str},l.map tl=m.map tl->l=m
 |[],[],_=>rfl
 |[],_::_,h=>by simp at h
 |_::_,[],h=>by simp at h
 |x::l,y::m,h=>by
  rw[cM,cM]at h;injection h with h1 h2
  rw[vT h1,S_ h2]
def EN(s:String):tl (cY s)=s.toList.map JT:=axY s
def pre(S l:List Nat):Bool:=l.take S.length==S
def fK(S:List Nat):Nat->List Nat->List Nat->List (List Nat)
 |_,acc,[]=>[acc]
 |0,acc,c::r=>if pre S (c::r)=true then acc::fK S (S.length-1) [] r else fK S 0 (acc++[c]) r
 |k+1,acc,_::r=>fK S k acc r
def par(S:List Nat):List Nat->List Nat->Option (List Nat×List Nat)
 |_,[]=>none
 |acc,c::r=>if pre S (c::r)=true then some (acc,(c::r).drop S.length)else par S (acc++[c]) r
def LP(S:List Nat)(k:Nat)(acc:List Nat):fK S k acc []=[acc]:=by cases k<;>rfl
def aiv(h:pre S (c::r)=true):fK S 0 acc (c::r)=acc::fK S (S.length-1) [] r:=by show(if pre S (c::r)=true then acc::fK S (S.length-1) [] r else fK S 0 (acc++[c]) r)=_;rw[if_pos h]
def aiw(h:pre S (c::r)=false):fK S 0 acc (c::r)=fK S 0 (acc++[c]) r:=by show(if pre S (c::r)=true then acc::fK S (S.length-1) [] r else fK S 0 (acc++[c]) r)=_;rw[if_neg (by rw[h];exact gq)]
theorem Ta(S:List Nat):∀(k:Nat)(acc l:List Nat),fK S k acc l=fK S 0 acc (l.drop k)
 |0,_,_=>by rw[avB]
 |k+1,acc,[]=>by rw[List.drop_nil,LP,LP]
 |k+1,acc,c::r=>by
  show fK S k acc r=fK S 0 acc (r.drop k);exact Ta S k acc r
def aix(hS:S≠[]):pre S []=false:=by
 cases S with
 |nil=>exact absurd rfl hS
 |cons s S=>rfl
def aiy{a:Nat}(h:a<L.length):∃c,L.drop a=c::L.drop (a+1):=⟨L[a],xY h⟩
theorem LQ(S L:List Nat):∀(m a:Nat)(acc:List Nat),a+m<=L.length->(∀k,a<=k->k<a+m->pre S (L.drop k)=false)->
  fK S 0 acc (L.drop a)=fK S 0 (acc++(L.drop a).take m) (L.drop (a+m))
 |0,a,acc,_,_=>by rw[avC,qR,Jj]
 |m+1,a,acc,h,hn=>by
  have bH:a<L.length:=by lia
  obtain⟨c,e⟩:=aiy bH;have h0:=hn a (aX _) (by lia)
  have ih:=LQ S L m (a+1) (acc++[c]) (by lia) (λk h1 h2=>hn k (by lia) (by lia));have e2:a+1+m=a+(m+1):=by lia
  rw[e2]at ih;rw[e]at h0;rw[e,aiw h0,ih,List.take_succ_cons,kf]<;>rfl
def aiz(L:List Nat)(a b:Nat):(L.drop a).drop b=L.drop (a+b):=by
 first
  |rw[Dg]
  |rw[Dg,ZU]
def aiA(hS:S≠[])(h:pre S (L.drop c)=true):fK S 0 acc (L.drop c)=acc::fK S 0 [] (L.drop (c+S.length)):=by
 rw[<-aiz];cases e:L.drop c with
 |nil=>rw[e,aix hS]at h;cases h
 |cons d r=>
  rw[e]at h;rw[aiv h,Ta];cases S with
  |nil=>exact absurd rfl hS
  |cons s S=>rfl
def Tb(hy:tl y≠[])(i:Nat):At x y x.length i<->pre (tl y) ((tl x).drop i)=true:=by
 have hx:=mj x;have hl:=mj y;constructor
 ·intro h;have h2:=h.2
  rw[subAt_eq,hl]at h2;exact h2
 ·intro h;have e:((tl x).drop i).take (tl y).length=tl y:=eq_of_beq h
  have e1:=congrArg sN e;rw[fw,sO]at e1;have e2:0<(tl y).length:=avD.mpr hy;refine⟨by lia,?_⟩;rw[subAt_eq,hl];exact h
def Tc(hy:tl y≠[]){i:Nat}(h:¬At x y x.length i):pre (tl y) ((tl x).drop i)=false:=by
 cases hp:pre (tl y) ((tl x).drop i)with
 |false=>rfl
 |true=>exact absurd ((Tb hy i).mpr hp) h
def aiB(hy:tl y≠[]):1<=y.length:=by have e2:0<(tl y).length:=avD.mpr hy;rw[mj y];exact e2
def Td(x:Str)(i j:Nat):tl (strSub x i j)=((tl x).drop i).take (j-i):=strSub_toList x i j
def aiC(x:Str)(i:Nat):tl (strSub x i x.length)=(tl x).drop i:=by rw[Td,mj x];exact eX (by rw[sO]<;>lia)
theorem Te{x y:Str}(hy:tl y≠[]):∀(Tf:List Nat)(a f:Nat),a<=(tl x).length->ChainG x y x.length a Tf f->(∀k,f<=k->¬At x y x.length k)->
  (partsFrom x y.length a Tf).map tl=fK (tl y) 0 [] ((tl x).drop a)
 |[],a,f,ha,h,hn=>by
  have e:f=a:=h;subst e;show [tl (strSub x f x.length)]=_;have run:=LQ (tl y) (tl x) ((tl x).length-f) f [] (by lia) (λk h1 _=>Tc hy (hn k h1));have e2:f+((tl x).length-f)=(tl x).length:=by lia
  rw[e2,List.drop_length,LP,sC,eX (by rw[sO]<;>omega)]at run;rw[run,aiC]
 |c::r,a,f,ha,h,hn=>by
  refine fz h λh1 h2 h3 h4=>?_;have hc:c+y.length<=x.length:=h2.1
  have hx:=mj x;have hl:=mj y;have ih:=Te hy r (c+y.length) f (by lia) h4 hn;show tl (strSub x a c)::(partsFrom x y.length (c+y.length) r).map tl=_;have run:=LQ (tl y) (tl x) (c-a) a [] (by lia) (λk k1 k2=>Tc hy (h3 k k1 (by lia)));have e2:a+(c-a)=c:=by lia
  rw[e2,sC,aiA hy ((Tb hy c).mp h2)]at run;rw[run,ih,Td,hl]
def aiD(x y:Str)(hy:tl y≠[])(hk:¬uT x<uT y):(Txt.split x y).map tl=fK (tl y) 0 [] (tl x):=by
 refine ar (occ_tight x y (aiB hy)) λf g hn=>?_;have key:=Te hy _ 0 f (iO _) g hn
 rw[avB]at key;have Tg:occurrences x y 0 x.length (x.length+1)=[]->[x].map tl=fK (tl y) 0 [] (tl x):=λho=>by rw[ho]at key;rw[<-key];show [tl x]=[tl (strSub x 0 x.length)];rw[sub_whole]
 unfold Txt.split;by_cases h1:(decide (x.length<y.length)||decide (uT x<uT y))=true
 ·rw[if_pos h1];have bH:x.length<y.length:=by
   simp only[Pl,decide_eq_true_eq]at h1;rcases h1 with h|h
   ·exact h
   ·exact absurd h hk
  refine Tg ?_;cases ho:occurrences x y 0 x.length (x.length+1)with
  |nil=>rfl
  |cons c r=>
   rw[ho]at g;have hc:c+y.length<=x.length:=g.2.1.1
   lia
 ·rw[if_neg h1];by_cases h2:(occurrences x y 0 x.length (x.length+1)).isEmpty=true
  ·rw[if_pos h2];exact Tg (List.isEmpty_iff.mp h2)
  ·rw[if_neg h2,partsBetween_eq];exact key
def aiE(h:y.cps.all (·<256)=true):¬uT x<uT y:=by
 have e:uT y=1:=by unfold avE;rw[if_pos h]
 rw[e];unfold avE;split
 ·lia
 ·split<;>lia
def oW(S:List Nat):List (List Nat)->List Nat
 |[]=>[]
 |[p]=>p
 |p::q::r=>p++(S++oW S (q::r))
theorem Bg(y:Str):∀parts:List Str,tl (aaq y parts)=oW (tl y) (parts.map tl)
 |[]=>rfl
 |[_]=>rfl
 |x::z::r=>by
  show tl (x++y++aaq y (z::r))=tl x++(tl y++oW (tl y) ((z::r).map tl));rw[yX,yX,Bg y (z::r),kf]
def join_eq(y:Str)(parts:List Str):Txt.join y parts=aaq y parts:=glued_eq_join y parts
def oX(n:Nat):List Nat:=(Dh 10 n).map JT
def Bh(n:Nat):tl (cY (toString ((n:Nat):Int)))=oX n:=axZ n
def Th:∀d:Nat,d<10->(aar d).toNat=48+d:=by decide
def LR(h:n<10):oX n=[48+n]:=by unfold oX;rw[avF h];show [(aar n).toNat]=_;rw[Th n h]
def Tj(h:10<=n):oX n=oX (n/10)++[48+n%10]:=by have hm:n%10<10:=OI n (by decide);have t:Dh 10 (n/10)++Dh 10 (n%10)=Dh 10 (10*(n/10)+n%10):=Nat.toDigits_append_toDigits (by decide) (by lia) hm;rw[OH]at t;show(Dh 10 n).map JT=_;rw[<-t,gA,avF hm];show(Dh 10 (n/10)).map JT++[(aar (n%10)).toNat]=_;rw[Th _ hm]<;>rfl
def aiF(n:Nat):avG (oX n):=by
 induction n using avA with
 |_ n ih=>
  by_cases h:n<10
  ·rw[LR h];intro c hc;rw[sy.mp hc];lia
  ·rw[Tj (by lia)];intro c hc;rcases eO.mp hc with hc|hc
   ·exact ih (n/10) (by lia) c hc
   ·have hm:n%10<10:=OI n (by decide);rw[sy.mp hc];lia
def Bi{k:Nat}(hk:0<k)(h:n<10^k):(oX n).length<=k:=by
 have z:=ax0 (v:=(n:Int)) (by lia) hk (by
  have e:((10:Int)^k)=((10^k:Nat):Int):=by
   first
    |exact(Int.natCast_pow 10 k).symm
    |simp
  rw[e]
  first|exact Int.ofNat_lt.mpr h|omega)
 rw[mj,Bh]at z;exact z
end TL
end
namespace L2
open PySem PySem.Spec PyProof.Rows
section
variable{id:String}{apos pos:Pos}
theorem Tn:∀l:List (Str×Tok),bB ((l.map (·.1)).map V.str) (aas l)
 |[]=> .nil
 |p::r=> .cons ⟨p.2,rfl⟩ (Tn r)
theorem LS:∀{ys:List Str}{us:List Value},bB (ys.map V.str) us->StrsAre us ys
 |[],_, .nil=> .nil
 |y::ys,_, .cons r t=>by
  obtain⟨k,rfl⟩:=r;exact .cons y k (LS t)
def LU(ys:List Str):Hp->VK->Prop:=λH Q=>∀p,H p=none->Q (.ref p) (upd H p (.lst (ys.map V.str)))
section
variable{X:Cx}{aa:List (Addr×Obj)}{σ:St}{H:Hp}{s:aw}{Q:VK}
def LV{l:List (Str×Tok)}{ys:List Str}{k:Nat}(I:ak X aa σ H s)(e:l.map (·.1)=ys)(hz:ys.length<=sizeLine)(h:LU ys H Q):
  EP X aa σ Q (.ref s.heap.objs.size) {s with toks:=k,heap:=s.heap.push {cls:= .type "list",data:= .seq (aas l).toArray}}:=by
 have hp:=I.aG.fresh (aX _);refine aB (.ref s.heap.objs.size) (upd H s.heap.objs.size (.lst (ys.map V.str))) (I.laid (λb u q=>fc _ q) (aX _) (k_ (by rw[aA];exact hz) (aas l) _ ?_ (h7 _ rfl))) rfl (h _ hp);rw[<-e];exact Tn l
end
section
variable{X:Cx}
def aiG:tU X "str.split" (λx xs H Q=>∃a b,x= .str a/\xs=[.str b]/\(b.length==0)=false/\a.length+2<=sizeLine/\LU (Txt.split a b) H Q):=by
 intro aa s σ H x xs v us Q I rx rs h;obtain⟨a,b,rfl,rfl,hb,hz,h⟩:=h;obtain⟨t,rfl⟩:=rx;cases rs with
 |cons r1 rs=>
  cases rs;obtain⟨u,rfl⟩:=r1;have hl:(Txt.split a b).length<=sizeLine:=i8 (ax1 a b) hz
  have hn:(avH a (aat a b 0 a.length (a.length+1)) b.length).length<=sizeLine:=by have e1:=StrLaws.occ_length_le a b 0 a.length (a.length+1);rw[length_partsBetween];omega
  cases h1:(decide (a.length<b.length)||decide (uT a<uT b))
  ·cases hf:(aat a b 0 a.length (a.length+1)).isEmpty
   ·refine xW Pp (zS _ _ _) aau (aav _ _) (meets_str_split_sep a b t u h1 hb hf (by omega) hn) ?_;show EP X aa σ Q (.ref s.heap.objs.size) {s with toks:=_,heap:=s.heap.push {cls:= .type "list",data:= .seq (strsFrom s.toks (avH a (aat a b 0 a.length (a.length+1)) b.length)).toArray}};rw[strsFrom_eq];exact LV (ys:=Txt.split a b) I ((numbered_texts _ _).trans ((if_neg (ne_true_of_eq_false h1)).trans (if_neg (ne_true_of_eq_false hf))).symm) hl h
   ·refine xW Pp (zS _ _ _) aau (aav _ _) (meets_str_split_not_found a b t u h1 hb hf) ?_;exact LV (l:=[(a,t)]) (ys:=Txt.split a b) (k:=s.toks) I ((if_neg (ne_true_of_eq_false h1)).trans (if_pos hf)).symm hl h
  ·refine xW Pp (zS _ _ _) aau (aav _ _) (meets_str_split_cannot_occur a b t u h1) ?_;exact LV (l:=[(a,t)]) (ys:=Txt.split a b) (k:=s.toks) I (if_pos h1).symm hl h
def aiH:tU X "str.join" (λx xs H Q=>∃a p,∃ys:List Str,x= .str a/\xs=[.ref p]/\(ah X.K H p (ys.map V.str)\/dm X.K H p (ys.map V.str))/\
  (ys.map (·.length)).sum+ys.length*a.length<=16777216/\Q (.str (Txt.join a ys)) H):=by
 intro aa s σ H x xs v us Q I rx rs h;obtain⟨a,p,ys,rfl,rfl,hp,hz,h⟩:=h;obtain⟨t,rfl⟩:=rx;cases rs with
 |cons r1 rs=>
  cases rs;cases r1;rcases hp with hp|hp
  ·obtain⟨ay,r,⟨o,n,ho,hc,_,hd⟩,_⟩:=I.list hp;exact ax2 (items:=ay.toArray) ⟨o,ho,hc,n,hd⟩ (by rw[avI];exact LS r) hz λt' k=>⟨.str _,H,I.tok k,⟨t',rfl⟩,h⟩
  ·obtain⟨ay,r,ht,_⟩:=I.tuple hp;exact ax3 (items:=ay.toArray) ht (by rw[avI];exact LS r) hz λt' k=>⟨.str _,H,I.tok k,⟨t',rfl⟩,h⟩
def mt1{g:Str->Str->V}(rule:∀(a b:Str)(t u:Tok)(s:aw)(Q:Value->aw->Prop),(∀(v:Value)(k:Nat),bC (g a b) v->Q v {s with toks:=k})->
  aM (aR X.prog X.w) X.A (mQ (.builtin id) [.str a t, .str b u]) Q X.xe s):tU X id (λx xs H Q=>∃a b,x= .str a/\xs=[.str b]/\Q (g a b) H):=by
 intro aa s σ H x xs v us Q I rx rs h;obtain⟨a,b,rfl,rfl,h⟩:=h;obtain⟨t,rfl⟩:=rx;cases rs with
 |cons r1 rs=>
  cases rs;obtain⟨u,rfl⟩:=r1;exact rule a b t u s _ λv k r=>⟨g a b,H,I.tok k,r,h⟩
def aiJ:tU X "str.startswith" (λx xs H Q=>∃a b,x= .str a/\xs=[.str b]/\Q (.bl (Txt.startswith a b)) H):=
 mt1 (g:=λa b=> .bl (Txt.startswith a b)) λ_ _ _ _ s _ h=>ax4 (h _ s.toks rfl)
def To:jv X (.type "int") (λxs H Q=>∃a n,xs=[.str a]/\avJ a=some n/\a.length<=640/\Q (.int n) H):=by
 intro aa s σ H xs us Q I rs h;obtain⟨a,n,rfl,hn,hl,h⟩:=h;cases rs with
 |cons r1 rs=>
  cases rs;obtain⟨t,rfl⟩:=r1;exact ax5 hn hl ⟨.int n,H,I.tok _,⟨_,rfl⟩,h⟩
end
section
variable{X:Cx}{o e:bf}{to te:TE}
def LW(r:V->List V->Hp->VK->Prop)(to te:TE):TE:=λσ H Q=>to σ H λx H1=>(∃a,x= .str a)/\te σ H1 λy H2=>r x [y] H2 Q
def LX{name:Str}{r:V->List V->Hp->VK->Prop}(slot:Slot "str" name id)(ty:typeOf (.builtin id)=pure (.type "method_descriptor"))(rule:tU X id r)(ho:PE X o to)(he:PE X e te)
  (hs:cJ [e] X.env=[(false,eval e X.env)]:=by rfl) (jz:mS o name X.env (eval o X.env)=eval o X.env:=by rfl) (jA:(apos.endLine==pos.line)=true:=by rfl):
  PE X (.Call (.Attribute o name apos) [e] [] pos) (LW r to te):=by
 intro aa s σ H Q I h;refine PySem.Call_method1 jz hs jA (aI (ho aa s σ H _ I h) λv s1 aiK=>bb aiK λx H1 I1 r1 q1=>?_);obtain⟨⟨a,rfl⟩,q1⟩:=q1;obtain⟨t,rfl⟩:=_root_.id r1;refine⟨"str",_,F.plainAttrs_str,slot,ty,zS _ _ _,(λ_ e=>nomatch e),JP rfl (Pe (C9 ?_))⟩;exact aI (he aa s1 σ H1 _ I1 q1) λu s2 aiL=>bb aiL λy H2 I2 r2 q2=>O9 (rule aa s2 σ H2 _ [y] _ [u] Q I2 r1 (.cons r2 .nil) q2)
def Tp(ho:PE X o to)(he:PE X e te)(hs:cJ [e] X.env=[(false,eval e X.env)]:=by rfl)(jz:mS o "split" X.env (eval o X.env)=eval o X.env:=by rfl)(jA:(apos.endLine==pos.line)=true:=by rfl):
  PE X (.Call (.Attribute o "split" apos) [e] [] pos) (LW (λx xs H Q=>∃a b,x= .str a/\xs=[.str b]/\(b.length==0)=false/\a.length+2<=sizeLine/\LU (Txt.split a b) H Q) to te):=
 LX Pp F.type_str_split aiG ho he hs jz jA
def Bj(ho:PE X o to)(he:PE X e te)(hs:cJ [e] X.env=[(false,eval e X.env)]:=by rfl)(jz:mS o "join" X.env (eval o X.env)=eval o X.env:=by rfl)(jA:(apos.endLine==pos.line)=true:=by rfl):
  PE X (.Call (.Attribute o "join" apos) [e] [] pos) (LW (λx xs H Q=>∃a p,∃ys:List Str,x= .str a/\xs=[.ref p]/\(ah X.K H p (ys.map V.str)\/dm X.K H p (ys.map V.str))/\
   (ys.map (·.length)).sum+ys.length*a.length<=16777216/\Q (.str (Txt.join a ys)) H) to te):=
 LX F.slot_str_join F.type_str_join aiH ho he hs jz jA
end
end
section
section
variable{X:Cx}
def LY:dB X (jJ .In) (λx y H Q=>∃(c:Nat)(z:Str),x= .str ⟨#[c]⟩/\y= .str z/\Q (.bl (decide (c∈z.cps.toList))) H):=by intro aa s σ H x y v u Q I rx ry h;refine bb h λc z aiM aiN q=>?_;obtain rfl:=aiM;obtain rfl:=aiN;obtain⟨t,rfl⟩:=rx;obtain⟨t',rfl⟩:=ry;exact ax6 (eI I q (avK z c).symm)
def aiO:dB X (jJ .NotIn) (λx y H Q=>∃(c:Nat)(z:Str),x= .str ⟨#[c]⟩/\y= .str z/\Q (.bl (!decide (c∈z.cps.toList))) H):=by intro aa s σ H x y v u Q I rx ry h;refine bb h λc z aiP aiQ q=>?_;obtain rfl:=aiP;obtain rfl:=aiQ;obtain⟨t,rfl⟩:=rx;obtain⟨t',rfl⟩:=ry;exact ax7 (eI I q (congrArg Bool.not (avK z c).symm))
end
def IsPart.raw{v:Value}{o:Option Int}(p:IsPart v o):∃l:Option (Int×Tok),v=partValue l/\l.map (·.1)=o:=by
 cases p with
 |none=>exact aF none rfl rfl
 |int i t=>exact aF (some (i,t)) rfl rfl
def Bk(n d:Nat):Option Int->Int
 |none=>(d:Int)
 |some i=>max 0 (min (if i<0 then i+(n:Int)else i) (n:Int))
def Tq(n d:Nat)(o:Option Int):Bk n d o=((HT.cE n d o:Nat):Int):=by
 cases o with
 |none=>rfl
 |some v=>
  show max (0:Int) (min (if v<0 then v+(n:Int)else v) (n:Int))=(((if v<0 then(v+(n:Int)).toNat else min v.toNat n):Nat):Int);by_cases hv:v<0
  ·simp only[if_pos hv];omega
  ·simp only[if_neg hv];omega
def aiR(a b:Option Int)(n:Nat):uU a b 1 n=sliceRange (Bk n 0 a) (Bk n n b) 1:=by
 have h1:((1:Int)>0)=True:=by simp
 cases a<;>cases b<;>first
  |rfl
  |(simp only[uU,Bk,h1,if_true];rfl)
  |simp[uU,Bk]
def aiS(a b:Option Int)(n:Nat):uU a b 1 n=(bD (HT.cE n n b-HT.cE n 0 a)).map (λk=>HT.cE n 0 a+k):=by
 rw[aiR,Tq,Tq];generalize HT.cE n 0 a=p;generalize HT.cE n n b=q;simp only[sliceRange,show((1:Int)>0)=True from by simp,if_true];by_cases bH:(p:Int)<q
 ·have e3:(((q:Int)-p+1-1)/1).toNat=q-p:=by first|lia|(simp;done)|(simp;omega)
  simp only[bH,if_true,e3];refine ke λk _=>?_;lia
 ·have:q-p=0:=by lia
  simp[bH,this]
def EO(z:Str)(lo hi:Option Int):Str:=
 ⟨((z.cps.toList.drop (HT.cE z.length 0 lo)).take (HT.cE z.length z.length hi-HT.cE z.length 0 lo)).toArray⟩
def Tr(z:Str)(lo hi:Option Int):Di z lo hi=EO z lo hi:=by
 have h1:HT.cE z.length 0 lo<=z.length:=HT.Sf _ _ (iO _) _;have h2:HT.cE z.length z.length hi<=z.length:=HT.Sf _ _ (aX _) _;have hp:HT.cE z.length 0 lo<=max (HT.cE z.length 0 lo) (HT.cE z.length z.length hi):=Nat.le_max_left _ _;have hq:max (HT.cE z.length 0 lo) (HT.cE z.length z.length hi)<=z.length:=Nat.max_le.mpr ⟨h1,h2⟩;have hd:max (HT.cE z.length 0 lo) (HT.cE z.length z.length hi)-HT.cE z.length 0 lo=HT.cE z.length z.length hi-HT.cE z.length 0 lo:=by lia
 have e:uU lo hi 1 z.length=
   uU (some ((HT.cE z.length 0 lo:Nat):Int)) (some ((max (HT.cE z.length 0 lo) (HT.cE z.length z.length hi):Nat):Int)) 1 z.length:=by
  rw[ax8 hp hq,hd,aiS]
 have e2:Di z lo hi=
   Di z (some ((HT.cE z.length 0 lo:Nat):Int)) (some ((max (HT.cE z.length 0 lo) (HT.cE z.length z.length hi):Nat):Int)):=by
  unfold Di;rw[e]
 rw[e2,ax9 z hp hq,hd];rfl
def aiT(z:Str)(lo hi:Option Int):(EO z lo hi).length<=z.length:=by show(((z.cps.toList.drop (HT.cE z.length 0 lo)).take (HT.cE z.length z.length hi-HT.cE z.length 0 lo)).toArray).size<=z.cps.size;rw[eY,fw,sO,Jy];lia
def aiU:V->Option Int->Option Int->Hp->VK->Prop:=λx lo hi H Q=>∃z,x= .str z/\z.length<=sizeLine/\Q (.str (EO z lo hi)) H
def aiV{X:Cx}:Lc X aiU:=by
 intro aa s σ H x v vl vu lo hi sl Q I rx hs pl pu h;refine bc h λz aiW hz q=>?_;obtain rfl:=aiW;obtain⟨t,rfl⟩:=rx;refine bc hs λos hos yY hds=>?_;refine ar (IsPart.raw pl) λl aiZ ai0=>?_;obtain rfl:=aiZ;obtain rfl:=ai0;refine ar (IsPart.raw pu) λu ai1 ai2=>?_;obtain rfl:=ai1;obtain rfl:=ai2;refine aB ("str") _ F.slot_str_getitem.lookup (zS _ _ _) ?_;refine wpAny_getItem_str_slice (l:=l) (u:=u) (st:=none) (aW os hos yY hds) rfl ?_;have hl:(Di z (l.map (·.1)) (u.map (·.1))).length<=sizeLine:=by rw[Tr];exact i8 (aiT z _ _) hz
 rw[<-Tr]at q;unfold Di at q hl;show Made.post (if((1:Int)==1&&(uU (l.map (·.1)) (u.map (·.1)) 1 z.length).length==z.length)=true then Made.val (.str z t)
  else Made.str ⟨((uU (l.map (·.1)) (u.map (·.1)) 1 z.length).filterMap (z.cps[·]?)).toArray⟩) (EP X aa σ Q) s
 by_cases c:((1:Int)==1&&(uU (l.map (·.1)) (u.map (·.1)) 1 z.length).length==z.length)=true
 ·rw[if_pos c]at q⊢;exact aB (.str z) H I ⟨t,rfl⟩ q
 ·rw[if_neg c]at q hl⊢;exact⟨hl, .str _,H,I.tok _,⟨_,rfl⟩,q⟩
end
end L2
namespace Ts
open PySem PySem.W PySem.Calls PyProof.Rows
def ai3{P:Params}{h:Heap}:∀(ns:List Int)(vs:List Value),WellAll P h vs (ns.map WData.int)->aaw vs ns:=by
 intro ns;induction ns with
 |nil=>
  intro vs w;rw[jH]at w;cases w;exact .nil
 |cons n ns ih=>
  intro vs w;rw[cM]at w;cases w with
  |cons a b=>
   cases a;exact .cons _ _ (ih _ b)
end Ts
namespace L2
open PySem PySem.Spec PyProof.Rows
section
theorem Tt:∀{vs:List Value}{ns:List Int},aaw vs ns->bB (ns.map V.int) vs
 |_,_, .nil=> .nil
 |_,_, .cons n t h=> .cons ⟨t,rfl⟩ (Tt h)
def ai4(H:Hp):Prop:=∀b,H b=none\/∃o xs,H b=some (.eG o (.lst xs))
end
section
variable{x qual:Str}{st:Stmt}{f:Addr}{fd:bg}{ps:List Str}{A B:Prop}{H H':Hp}{xs:List V}{j:Nat}
def rK(s:Stmt)(j:Nat):Stmt:=match s with
 | .ClassDef _ _ _ body _ _ _ _ _ _ _=>body.getD j (.Pass ⟨0,0,0,0⟩)
 |_=> .Pass ⟨0,0,0,0⟩
def j0(s:Stmt):Arguments:=match s with
 | .FunctionDef _ a _ _ _ _ _ _ _ _=>a
 |_=>{posonlyargs:=[],args:=[],vararg:=none,kwonlyargs:=[],kw_defaults:=[],kwarg:=none,defaults:=[]}
def iX(s:Stmt):List Stmt:=match s with
 | .FunctionDef _ _ b _ _ _ _ _ _ _=>b
 |_=>[]
def aU(s:Stmt):Scope:=match s with
 | .FunctionDef _ _ _ _ _ _ sc _ _ _=>sc
 |_=>{kind:= .function,names:=[],isGenerator:=false,isCoroutine:=false}
abbrev bu:ly:=λ_ _ _ _ _ _=>False
abbrev E0:XK:=λ_ _ _=>False
def ER{X:Cx}:yF bu X E0:=λ_ _ _ _ _ _ _ h=>h.elim
structure mn (K:aV) (x qual:Str) (st:Stmt) (f:Addr) (fd:bg):Prop where
 ex:∃(oc:Value)(od:Option Addr)(kV doc pm:Value)(an:Option Addr)(aK ct:Value)(l_:Array (Option Value)),
  fd=jK x qual (j0 st) (iX st) (aU st) .none kV doc pm an aK ct/\K.lookup f=some ⟨oc,od, .func fd,l_⟩/\JN K aK qual=true
 kp:qU K (.ref f)=true
section
variable{P:Program}{w:a9}{K:aV}{mg:Str->Option Value}{base:Heap}
def mn.ok{N:List Str}{k:Nat}{sp:Sp}(F:mn K x qual st f fd)(S:bE N ps (aU st))(len:∀vs H Q E,sp vs H Q E->vs.length=ps.length)
  (vK:∀(aK:Value)(A:cX)(outer:List Env)(s:aw)(H:Hp)(vs:List V)(Q:VK)(E:XK),eJ k (A.deeper (qV qual (aU st) s.heap.objs.size f aK))->sp vs H Q E->
   ∃t,jW (jX bu P w K mg base N qual (aU st) f aK A outer s H E).Ax (iX st) t/\t {nx:=λ_ H'=>Q .aL H',rt:=Q} (start N vs) H):aZ P w K mg base bu (k+1) f fd ps sp:=by
 refine dS F.ex λoc od kV doc pm an ai5=>?_;refine bR ai5 λaK ct l_ ai6 lk oG=>?_;obtain rfl:=ai6;refine Se lk oG S len λA outer s H vs Q E hr md=>?_;refine ar (vK aK A outer s H vs Q E hr md) λt h q=>?_;exact aF t h.Ax q
def mn.binds(F:mn K x qual st f fd)
  (h:∀(kV doc pm:Value)(an:Option Addr)(aK ct:Value)(us:List Value),us.length=ps.length->sH (jK x qual (j0 st) (iX st) (aU st) .none kV doc pm an aK ct) ⟨us,[]⟩=pure (ps.zip us)):lz K fd ps []:=by
 refine dS F.ex λoc od kV doc pm an ai7=>?_;refine bR ai7 λaK ct l_ ai8 lk oG=>?_;obtain rfl:=ai8;exact .all (h kV doc pm an aK ct)
def Bl{oc:Value}{od an:Option Addr}{l_:Array (Option Value)}{kV doc pm aK ct:Value}(l:K.lookup f=some ⟨oc,od, .func (jK x qual (j0 st) (iX st) (aU st) .none kV doc pm an aK ct),l_⟩)
 (c:JN K aK qual=true) (k:qU K (.ref f)=true):mn K x qual st f (jK x qual (j0 st) (iX st) (aU st) .none kV doc pm an aK ct):=⟨⟨oc,od,kV,doc,pm,an,aK,ct,l_,rfl,l,c⟩,k⟩
end
def nA{A:cX}{k:Nat}(hr:eJ k A):A.units+1<cLine:=uH (Nat.add_le_add_left (by decide:1<=64) _) hr.units
section
variable{X:Cx}
def pv(i:Nat){pos:Pos}(hN:X.N[i]?=some x:=by rfl)(hv:yq X.env.scope x:=by first|exact JU rfl|exact Dj (JU rfl)|exact Dj (Dj rfl))(hd:(x==("__debug__":Str))=false:=by decide)
 (oG:(x==("__classdict__":Str))=false:=by decide):PE X (.Name x pos) (pY i):=acX hN hv hd oG
def Bm:jv X (.builtin "len") (λxs H Q=>∃a kvs,xs=[V.ref a]/\H a=some (.dK kvs)/\Q (.int kvs.length) H):=by intro aa s σ H xs us Q I r h;refine bb h λa kvs ai9 ha q=>?_;obtain rfl:=ai9;refine ar (l7 r) λu ai_ ru=>?_;obtain rfl:=ai_;cases ru;exact ahq I (.inl ha) λt s' I'=>aB (.int kvs.length) H I' ⟨t,rfl⟩ q
end
def bS(h:B):if false=true then A else B:=by rw[if_neg gq];exact h
def bV(h:A):if true=true then A else B:=by rw[if_pos rfl];exact h
def bW{c:Prop} [Decidable c] (h1:c->A)(h2:¬c->B):if c then A else B:=by
 by_cases h:c
 ·rw[if_pos h];exact h1 h
 ·rw[if_neg h];exact h2 h
def af(H H':Hp):Prop:=∀b o,H b=some o->H' b=some o
def af.refl(H:Hp):af H H:=λ_ _ h=>h
def af.trans{H1 H2:Hp}(a:af H H1)(b:af H1 H2):af H H2:=λc o h=>b c o (a c o h)
def af.free(e:af H H'){l:Addr}(h:H' l=Pq):H l=Pq:=by
 cases q:H l with
 |none=>rfl
 |some o=>
  rw[e l o q]at h;cases h
def af.seq{K:aV}{a:Addr}(e:af H H')(h:ah K H a xs):ah K H' a xs:=by
 rcases h with(h|⟨o,h⟩)|h
 ·exact .inl (.inl (e _ _ h))
 ·exact .inl (.inr ⟨o,e _ _ h⟩)
 ·exact .inr h
def bw{z:Int}{v:V}(e:z=(j:Int))(h:xs[j]?=some v):oQ xs z=some v:=by rw[e];exact Eu h
def Tv{α:Type}{l:List α}(hN:l.Nodup){i:Nat}{x:α}(a:l[i]?=some x)(b:l[j]?=some x):i=j:=by obtain⟨h1,e1⟩:=d0.mp a;obtain⟨h2,e2⟩:=d0.mp b;exact(xM hN).mp (e1.trans e2.symm)
theorem LZ:∀{l:List Int}{i:Nat}{z:Int},l[i]?=some z->(l.take (i+1)).sum=(l.take i).sum+z
 |[],i,z,h=>by simp at h
 |a::r,0,z,h=>by
  have e:a=z:=eB h;subst e;show([a]:List Int).sum=([]:List Int).sum+a;rw[qL];exact auc _ _
 |a::r,i+1,z,h=>by
  have ih:=LZ (l:=r) (i:=i) (z:=z) h;show(a::r.take (i+1)).sum=(a::r.take i).sum+z;rw[qL,qL,ih];lia
end
section
variable{x qual:Str}{pos apos c7 p pos':Pos}{a f C:Addr}{o e v:bf}{to tv te:TE}{H:Hp}{r:List V->Hp->VK->Prop}{j:Nat}{st:Stmt}{ps:List Str}{fd:bg}{sp:Sp}{es:List bf}{t:TA}{id:String}
section
variable{X:Cx}
def cU{i:Int}(hg:Gl X x)(h:∃t,X.mg x=some (.int i t))(hd:(x==("__debug__":Str))=false:=by decide):PE X (.Name x pos) (tC (.int i)):=
 eE h λt e=>KN hg e ⟨t,rfl⟩ hd
def ud{i:Str}(hg:Gl X x)(h:∃t,X.mg x=some (.str i t))(hd:(x==("__debug__":Str))=false:=by decide):PE X (.Name x pos) (tC (.str i)):=
 eE h λt e=>KN hg e ⟨t,rfl⟩ hd
def Bo(hg:Gl X x)(h:X.mg x=some (.ref a))(hd:(x==("__debug__":Str))=false:=by decide):PE X (.Name x pos) (tC (.ref a)):=KN hg h rfl hd
def ES(K:aV)(a:Addr)(xs:List V):Prop:=∀H:Hp,dm K H a xs
def aja:dB X (oj .FloorDiv) (rI (λ_ j=>j≠0/\j.natAbs<2^65) λi j=> .int (i.fdiv j)):=AE λ_ j _ _ _ _ _ hc q=>
 floordiv_int hc.1 q (.inl (PyProof.noPylong_of_log2 (by
  by_cases h0:j.natAbs=0
  ·rw[h0];decide+kernel
  ·have:j.natAbs.log2<65:=(avL h0).mpr hc.2
   lia)))
def ET:RC X (Le X.K):=by
 intro aa s σ H o i ov iv Q I ro ri h;refine fR h λp xs k z bp c0=>?_;refine fz c0 λbA hq he q=>?_;obtain rfl:=bp;obtain rfl:=bA;cases ro;obtain⟨t,rfl⟩:=ri;refine bc (I.list hq) λay r pl hz=>?_;refine u9 (Et he) λj h1 h2 h3 h4 h5=>?_;refine ar (r.get h2) λw ew me=>?_;have hl:=r.length
 have hn:=vH;have fin:EP X aa σ Q w s:=(aB z H I me q);by_cases h0:0<=k
 ·have hj:k.toNat=j:=by rw[O_ h0 h5]at h1;exact eB h1
  exact wpAny_getItem_list pl.isList h0 (by lia) (by rw[hj];simpa using ew) fin
 ·have hj:(k+(ay.toArray.size:Int)).toNat=j:=by rw[Pa (by lia) h4]at h1;rw[eY,<-hl];exact eB h1
  exact au3 pl.isList (by omega) (by rw[eY]<;>lia) (by lia) (by rw[hj];simpa using ew) fin
def ajb:tU X "int.bit_length" (λx xs H Q=>∃i,x= .int i/\xs=[]/\Q (.int (avM i)) H):=by intro aa s σ H x xs v us Q I rx r h;refine bc h λi bX cA q=>?_;obtain rfl:=bX;obtain rfl:=cA;obtain⟨t,rfl⟩:=rx;cases r;exact call_int_bit_length (aB (.int _) H (I.tok _) ⟨_,rfl⟩ q)
def Tw(ho:PE X o to)(jz:mS o "bit_length" X.env (eval o X.env)=eval o X.env:=by rfl)(jA:(apos.endLine==c7.line)=true:=by rfl):
  PE X (.Call (.Attribute o "bit_length" apos) [] [] c7) (Sm X.K "int" (λx xs H Q=>∃i,x= .int i/\xs=[]/\Q (.int (avM i)) H) to):=
 Sn PySem.F.plainAttrs_int PySem.F.slot_int_bit_length PySem.F.type_int_bit_length ajb ho jz jA
def ajc{aa:List (Addr×Obj)}{σ:St}{s:aw}{kvs:List (aT×V)}{k:aT}{d:V}{u r:Value}{A:cX}{E:Value->aw->Prop}{Q:Value->aw->Prop}(I:ak X aa σ H s)(e:H a=some (.dK kvs))(hl:kvs.length<sizeLine)(ry:bC (kV k) u)(rd:bC d r)
  (h1:∀v,cx kvs k=some v->∀w' s',ak X aa σ H s'->bC v w'->Q w' s') (h2:cx kvs k=none->∀s',ak X aa σ (upd H a (.dK (dO kvs k d))) s'->Q r s'):
  aM (aR X.prog X.w) A (mQ (.builtin "dict.setdefault") [.ref a,u,r]) Q E s:=by
 refine ja (EB I.aG e) λz hd vs rel dd=>?_;have hz:vs.length<=sizeLine:=by rw[<-rel.length];exact z
 have dM:(dO kvs k d).length<=sizeLine:=by have:=vM kvs k d;lia
 have rv:=rel.val k;refine aan avN dd.typeIs PySem.F.entry_dict_setdefault (PySem.F.args_dict_setdefault_3 _ _ _) (kt_meets_setdefault (fC X.prog X.w) a (qc ry) hd r) (d7 vs dd hz (λv hv=>?_) λhv h' qd hs=>?_)
 ·rw[hv]at rv;cases ev:cx kvs k with
  |none=>rw[ev]at rv;exact rv.elim
  |some x=>rw[ev]at rv;exact h1 x ev v _ (I.tok _) rv
 ·rw[hv]at rv;have ev:cx kvs k=none:=by
   cases ev:cx kvs k with
   |none=>rfl
   |some x=>rw[ev]at rv;exact rv.elim
  have he:∃q,h'.get? a=some q:=gb qd λq _ _ hq _=>⟨q,hq⟩;exact h2 ev _ (EC I (by rw[e];exact uP) hs he (LF dM hd (rel.put k rd) qd))
def ajd(td ty tx:TE):TE:=λσ H Q=>td σ H λx H1=>∃a,x= .ref a/\LJ H1 a/\ty σ H1 λy H2=>tx σ H2 λz H3=>∃kvs k,H3 a=some (.dK kvs)/\y=kV k/\kvs.length<sizeLine/\
 (∀v,cx kvs k=some v->Q v H3)/\(cx kvs k=none->Q z (upd H3 a (.dK (dO kvs k z))))
def Tx{f:bf}{td ty tx:TE}(ho:PE X o td)(he:PE X e ty)(hf:PE X f tx)(m:M2 X o "setdefault" apos e f c7):PE X (.Call (.Attribute o "setdefault" apos) [e,f] [] c7) (ajd td ty tx):=by intro aa s σ H Q I h;refine aap m.base m.S4 m.line avs avN PySem.F.type_dict_setdefault (aI (ho aa s σ H _ I h) λu s1 vU=>sX vU λx H1 I1 rx a ex d q1=>?_);subst ex;obtain rfl:u=c9 a:=rx;refine cT (S5 I1 d) λt1 t2 _=>?_;refine b8 t1 t2 ?_;rw[m.trees];refine JP rfl (Pe (C9 (aI (he aa s1 σ H1 _ I1 q1) λiv s2 ⟨y,H2,I2,ry,q2⟩=>C9 (aI (hf aa s2 σ H2 _ I2 q2) λfv s3 ⟨z,H3,I3,rz,kvs,k,ea,ey,hl,q3,q4⟩=>O9 ?_))));subst ey;exact ajc I3 ea hl ry rz (λv ev w' s4 I4 r4=>aB v _ I4 r4 (q3 v ev)) λev s4 I4=>aB z _ I4 rz (q4 ev)
def L0(hv:PE X v tv):PE X (.FormattedValue v (-1) none pos) (λσ H Q=>tv σ H λx H1=>∃a,x= .str a/\a.length<=sizeLine/\Q (.str a) H1):=by intro aa s σ H Q I h;refine avO (aI (hv aa s σ H _ I h) λu s1 Bp=>sX Bp λx H1 I1 rx a ex hz q=>?_);subst ex;obtain⟨t,rfl⟩:=rx;exact formatField_str (λt' tk=>aB (.str a) H1 (I1.tok _) ⟨_,rfl⟩ q) hz
def aje(hv:PE X v tv):PE X (.FormattedValue v (-1) none pos) (λσ H Q=>tv σ H λx H1=>∃i,x= .int i/\i.natAbs.log2<1920/\Q (.str (toString i)) H1):=by intro aa s σ H Q I h;refine avO (aI (hv aa s σ H _ I h) λu s1 Aq=>sX Aq λx H1 I1 rx a ex hz q=>?_);subst ex;obtain⟨t,rfl⟩:=rx;exact formatField_int_small hz (aB (.str _) H1 (I1.tok _) ⟨_,rfl⟩ q)
def L1{a b:bf}{ta tb:TE}(ha:PE X a ta)(hb:PE X b tb):
  PE X (.JoinedStr [a,b] pos) (λσ H Q=>ta σ H λx H1=>∃i,x= .str i/\i.length<=sizeLine/\tb σ H1 λy H2=>∃j,y= .str j/\i.length+j.length<=sizeLine/\Q (.str (i++j)) H2):=by
 intro aa s σ H Q I h;refine JoinedStr_many (avP (aI (ha aa s σ H _ I h) λu s1 vV=>sX vV λx H1 I1 rx i ex hz q=>?_));subst ex;obtain⟨t,rfl⟩:=rx;have e0:(aaa++i)=i:=TL.vT (by rw[TL.yX];rfl)
 refine⟨by rw[e0];exact hz,?_⟩;rw[e0];refine avP (aI (hb aa s1 σ H1 _ I1 q) λu2 s2 L3=>sX L3 λy H2 I2 ry j ey Bq q2=>?_);subst ey;obtain⟨t2,rfl⟩:=ry;have hl:(i++j).length<=sizeLine:=by rw[avQ];exact Bq
 exact⟨hl,joinParts_nil (aB (.str _) H2 (I2.tok _) ⟨_,rfl⟩ q2) hl⟩
def af.new{p:Addr}{o:HO}(h:H p=Pq):af H (upd H p o):=λb u e=>by rw[aj (bL e h)];exact e
theorem af.upd{H H':Hp}{p:Addr}{o:HO}(s:af H H')(h:H p=Pq):af H (L2.upd H' p o):=λb u e=>by rw[aj (bL e h)];exact s b u e
structure bP (K:aV) (mg:Str->Option Value) (x:Str) (st:Stmt) (ps:List Str) (f:Addr) (fd:bg):Prop where
 F:mn K x x st f fd
 b:lz K fd ps []
 m:mg x=some (.ref f)
structure oY (K:aV) (mg:Str->Option Value) (x qual:Str) (st:Stmt) (ps:List Str) (C f:Addr) (fd:bg):Prop where
 F:mn K "__init__" qual st f fd
 b:lz K fd ps []
 M:Mk K C f
 m:mg x=some (.ref C)
 c:l8 K C
def bF{k:Nat}(G:aZ X.prog X.w X.K X.mg X.base bu k f fd ps sp)(T:bP X.K X.mg x st ps f fd)(hr:eJ j X.A)(ha:PA X (e::es) t)
 (hj:k<=j:=by decide) (hg:Gl X x:=by rfl) (gG:(x==("__debug__":Str))=false:=by decide) (he:cJ (e::es) X.env=(false,eval e X.env)::cJ es X.env:=by rfl) (fk:(jI pos (cJ es X.env)).any (·.1)=false:=by rfl):
 PE X (.Call (.Name x p) (e::es) [] pos) (R5 sp [] E0 t):=aff G (hr.mono hj) hg T.m T.F.kp T.b .nil ER ha gG he fk
def gk{k:Nat}(G:aZ X.prog X.w X.K X.mg X.base bu k f fd ps sp)(T:oY X.K X.mg x qual st ps C f fd)(hr:eJ j X.A)(ha:PA X (e::es) t)
 (hj:k+1<=j:=by decide) (hg:Gl X x:=by rfl) (gG:(x==("__debug__":Str))=false:=by decide) (he:cJ (e::es) X.env=(false,eval e X.env)::cJ es X.env:=by rfl) (fk:(jI pos (cJ es X.env)).any (·.1)=false:=by rfl):
 PE X (.Call (.Name x p) (e::es) [] pos) (AI C sp [] E0 t):=afh T.M G (hr.mono hj) hg T.m T.b .nil ER ha gG he fk
def Tz{k:Nat}(G:aZ X.prog X.w X.K X.mg X.base bu k f fd ps sp)(T:oY X.K X.mg x qual st ps C f fd)(hr:eJ j X.A)
 (hj:k+1<=j:=by decide) (hg:Gl X x:=by rfl) (gG:(x==("__debug__":Str))=false:=by decide):
 PE X (.Call (.Name x p) [] [] pos) (AI C sp [] E0 m_):=afj T.M G (hr.mono hj) hg T.m T.b .nil ER gG
def pS(nd:X.N.Nodup)(i:Nat)(he:PE X e te)(hi:X.N[i]?=some x:=by rfl)(hx:tH X.env.scope x:=by first|exact JU rfl|exact Dj rfl)
 (hs:sE e (some (.Name x pos')) pos.line X.env=pure false:=by rfl) (hf:X.fn x=true\/X.env.scope.names.lookup x=some .local:=by first|exact .inl rfl|exact .inr rfl|assumption):PS X (.Assign [.Name x pos'] e pos) (Ea te (m7 i)):=adB nd hi hx he hs hf
def pN(nd:X.N.Nodup)(i:Nat)(hi:X.N[i]?=some x:=by rfl)(hx:tH X.env.scope x:=by first|exact JU rfl|exact Dj rfl)(hf:X.fn x=true\/X.env.scope.names.lookup x=some .local:=by first|exact .inl rfl|exact .inr rfl|assumption):PG X (.Name x pos) (m7 i):=adu nd hi hx hf
def pA(nd:X.N.Nodup)(i:Nat){op:C5}{ti:yz}(he:PE X e te)(ho:KW X op ti)(hi:X.N[i]?=some x:=by rfl)(hx:tH X.env.scope x:=by first|exact JU rfl|exact Dj rfl)
 (hf:X.fn x=true\/X.env.scope.names.lookup x=some .local:=by first|exact .inl rfl|exact .inr rfl|assumption):PS X (.AugAssign (.Name x pos') op e pos) (KZ i te ti):=adD nd hi hx he ho hf
def g6(ho:PE X o to)(he:PE X e te)(jz:mS o "append" X.env (eval o X.env)=eval o X.env:=by rfl)
 (AQ:((jI c7 (cJ [e] X.env)).all (λx=>!x.1)&&(zQ c7 (zR [] X.env)).all (λx=>x.1.isSome)&&decide (([e]:List bf).length+([]:List sM).length+(if([]:List sM).isEmpty then 0 else 1)<30))=true:=by rfl)
 (jA:(apos.endLine==c7.line)=true:=by rfl) (hs:cJ [e] X.env=[(false,eval e X.env)]:=by rfl):
 PE X (.Call (.Attribute o "append" apos) [e] [] c7) (Ex X.K "list" AR to (l9 te m_)):=So aax PySem.F.slot_list_append PySem.F.type_list_append agm ho (ae he az hs) jz AQ jA hs rfl
def EU(ho:PE X o to)(he:PE X e te)(jz:mS o "extend" X.env (eval o X.env)=eval o X.env:=by rfl)
 (AQ:((jI c7 (cJ [e] X.env)).all (λx=>!x.1)&&(zQ c7 (zR [] X.env)).all (λx=>x.1.isSome)&&decide (([e]:List bf).length+([]:List sM).length+(if([]:List sM).isEmpty then 0 else 1)<30))=true:=by rfl)
 (jA:(apos.endLine==c7.line)=true:=by rfl) (hs:cJ [e] X.env=[(false,eval e X.env)]:=by rfl):
 PE X (.Call (.Attribute o "extend" apos) [e] [] c7) (Ex X.K "list" Su to (l9 te m_)):=So aax PySem.F.slot_list_extend PySem.F.type_list_extend agr ho (ae he az hs) jz AQ jA hs rfl
def EV:kg "abs"=some (.builtin "abs"):=by decide+kernel
def TC:kg "ord"=some (.builtin "ord"):=by decide+kernel
def TF:kg "all"=some (.builtin "all"):=by decide+kernel
def TH:kg "int"=some (.type "int"):=by decide+kernel
def ajf:kg "str"=some (.type "str"):=by decide+kernel
def L4:kg "list"=some (.type "list"):=by decide+kernel
def TJ:kg "tuple"=some (.type "tuple"):=by decide+kernel
def cV(hc:jv X (.builtin id) r)(hm:X.mg x=none)(hv:kg x=some (.builtin id))(he:PE X e te)(hg:Gl X x:=by rfl)(hs:cJ [e] X.env=[(false,eval e X.env)]:=by rfl)(hn:x≠"__name__":=by decide)(gG:(x==("__debug__":Str))=false:=by decide):
 PE X (.Call (.Name x p) [e] [] pos) (Es r (l9 te m_)):=afu hc hg hm hv (ae he az hs) hn gG hs rfl
def qh(hc:jv X (.type id) r)(hm:X.mg x=none)(hv:kg x=some (.type id))(he:PE X e te)(hg:Gl X x:=by rfl)(hs:cJ [e] X.env=[(false,eval e X.env)]:=by rfl)(hn:x≠"__name__":=by decide)(gG:(x==("__debug__":Str))=false:=by decide):
 PE X (.Call (.Name x p) [e] [] pos) (Es r (l9 te m_)):=afw hc hg hm hv (ae he az hs) hn gG hs rfl
end
structure ue (K:aV) (C fI:Addr) (f:Str):Prop where
 ex:∃(N:Addr)(nm q:Str)(bs:List Value)(sn:List Str)(sub:List Value)(ab:Bool)(col:Option Bool)(dd:Option Addr)(k0 k1 k2 k3 k5:Option Value),
  K.lookup C=some (aay nm q C N bs [.type "Exception", .type "BaseException", .type "object"] true sn sub ab col dd k0 k1 k2 k3 k5 "Exception.__new__")/\
  avR K N=true/\k7 K N "__init__"=some (some (.ref fI))/\k7 K N "__setattr__"=some none/\k7 K N "__getattribute__"=some none/\k7 K N "__getattr__"=some none/\k7 K N f=some none
 fn:JL K (.ref fI)=true
 kp:qU K (.ref C)=true
end
section
variable{K:aV}{H:Hp}{a b:Prop}{C dx p:Addr}{v:V}{f:Str}{Q:V->Prop}{σ:St}{i:Nat}{xs:List V}{t u:TS}{D:pX}
def gH{a:Addr}{fs:List (Str×V)}(h:H a=some (.ins C dx fs))(c:l8 K C)(n:dj K C f)(l:fs.lookup f=some v)(q:Q v):∃a' C dx fs v,V.ref a= .ref a'/\H a'=some (.ins C dx fs)/\l8 K C/\dj K C f/\fs.lookup f=some v/\Q v:=⟨_,_,_,_,_,rfl,h,c,n,l,q⟩
def vI(n:σ[i]?=some (some v))(q:Q v):∃x,σ[i]?=some (some x)/\Q x:=(aF v n q)
def ai{a:Addr}{fs:List (Str×V)}(m:σ[i]?=some (some (.ref a)))(h:H a=some (.ins C dx fs))(c:l8 K C)(n:dj K C f)(l:fs.lookup f=some v)(q:Q v):∃x,σ[i]?=some (some x)/\∃a' C dx fs v,x=V.ref a'/\H a'=some (.ins C dx fs)/\l8 K C/\dj K C f/\fs.lookup f=some v/\Q v:=(aq m (gH h c n l q))
def iI{i j:Int}{Q:Int->Int->Prop}(q:Q i j):∃a b,V.int i= .int a/\V.int j= .int b/\Q a b:=(aB _ _ rfl rfl q)
def jg(q:a):∃k,V.bl true= .bl k/\if k=true then a else b:=(aq rfl (bV q))
def jC(q:b):∃k,V.bl false= .bl k/\if k=true then a else b:=(aq rfl (bS q))
def dP{p:Prop}(h:p)(q:a):p/\∃k,V.bl true= .bl k/\if k=true then a else b:=(cg h _ rfl (bV q))
def aE{p:Prop}(h:p)(q:b):p/\∃k,V.bl false= .bl k/\if k=true then a else b:=(cg h _ rfl (bS q))
def br{i:Int}(v:V)(s:ah K H p xs)(e:oQ xs i=some v)(q:Q v):∃p' xs i' v,V.ref p= .ref p'/\V.int i= .int i'/\ah K H p' xs/\oQ xs i'=some v/\Q v:=(gC _ _ _ _ rfl rfl s e q)
def iY{k:Int}{j:Nat}{Q:Addr->List V->Nat->Prop}(h:H p=some (.lst xs))(e:nj xs.length k=some j)(q:Q p xs j):∃p' xs k' j,V.ref p= .ref p'/\V.int k= .int k'/\H p'=some (.lst xs)/\nj xs.length k'=some j/\Q p' xs j:=(gC _ _ _ _ rfl rfl h e q)
def gI{y:V}{Q:Addr->List V->V->Prop}(h:H p=some (.lst xs))(e:xs.length<sizeLine)(q:Q p xs y):∃l xs z,V.ref p= .ref l/\[y]=[z]/\H l=some (.lst xs)/\xs.length<sizeLine/\Q l xs z:=(iC _ _ _ rfl rfl h e q)
section
variable{P:Program}{w:a9}{K:aV}{mg:Str->Option Value}{base:Heap}
def mn.bM{x qual:Str}{st:Stmt}{f:Addr}{fd:bg}{N ps:List Str}{k:Nat}{sp:Sp}(F:mn K x qual st f fd)(S:bE N ps (aU st))(len:∀vs H Q E,sp vs H Q E->vs.length=ps.length)
 (vK:∀(aK:Value)(A:cX)(outer:List Env)(s:aw)(H:Hp)(vs:List V)(Q:VK)(E:XK),eJ k (A.deeper (qV qual (aU st) s.heap.objs.size f aK))->sp vs H Q E->
  let X:=(jX bu P w K mg base N qual (aU st) f aK A outer s H E).Ax;let D:pX:={nx:=λ_ H'=>Q .aL H',rt:=Q};∃t,jW X (iX st) t/\t D (start N vs) H):aZ P w K mg base bu (k+1) f fd ps sp:=F.ok S len vK
end
def sL(h:let k:=u D;t {D with nx:=k} σ H):p7 t u D σ H:=h
def iL{c:TT}(h:let a:=t D;let b:=u D;c σ H λx H1=>if x=true then a σ H1 else b σ H1):Rz c t u D σ H:=h
end
section
variable{J:It}{g:TG}{tb:TS}{D:pX}{σ:St}{H H1:Hp}{K:aV}{p q:Nat}{x:Str}{a:Addr}{xs:List V}{tt:TT}{te:TE}{vs:List Nat}{Qd:Hp->Prop}
def yZ(n:Nat)(Pv:Nat->St->Hp->Prop)(h0:Pv 0 σ H)(L5:∀i σ H,i<n->Pv i σ H->J.go i H)(L6:∀σ H,Pv n σ H->J.stop n H)
  (hs:∀i σ H x H',i<n->Pv i σ H->J.iH i H x H'->g x σ H' λσ2 H2=>tb {D with nx:=Pv (i+1),ct:=Pv (i+1),bk:=D.nx} σ2 H2) (hd:∀σ H,Pv n σ H->D.nx σ H):
  ∃W:Nat->Nat->St->Hp->Prop,(∃m,W 0 m σ H)/\∀i m σ H,W i m σ H->
   (J.stop i H/\D.nx σ H)\/(J.go i H/\∃N:St->Hp->Prop,(∀σ' H',N σ' H'->∃m',m'<m/\W (i+1) m' σ' H')/\∀x H',J.iH i H x H'->g x σ H' λσ2 H2=>tb {D with nx:=N,ct:=N,bk:=D.nx} σ2 H2):=by
 refine⟨λi m σ H=>Pv i σ H/\i+m=n,⟨n,h0,by omega⟩,λi m σ H l4=>eA l4 λhp hm=>?_⟩;rcases lL i n with h|h
 ·exact .inr ⟨L5 i σ H h hp,Pv (i+1),λσ' H' kJ=>⟨m-1,by omega,kJ,by omega⟩,λx H' hy=>hs i σ H x H' h hp hy⟩
 ·have e:i=n:=by lia
  subst e;exact .inl ⟨L6 σ H hp,hd σ H hp⟩
def g2(K:aV)(p q:Nat):TG:=RB K 2 (KY (m7 p) (KY (m7 q) RA))
def Br{T:Addr}{x y:V}{Q:St->Hp->Prop}(h:H T=some (.tup [x,y]))(k:Q ((σ.set p (some x)).set q (some y)) H):g2 K p q (.ref T) σ H Q:=
 (cC T [x,y] rfl (.inl (.inl h)) rfl (cD x [y] rfl (aB y [] rfl rfl k)))
def y1(Pv:Nat->St->Hp->Prop)(h0:Pv 0 σ H)(hl:∀i σ H,i<=xs.length->Pv i σ H->ah K H a xs)
  (hs:∀i x T σ H,xs[i]?=some x->Pv i σ H->H T=none->tb {D with nx:=Pv (i+1),ct:=Pv (i+1),bk:=D.nx} ((σ.set p (some (.int (i:Nat)))).set q (some x)) (upd H T (.tup [.int (i:Nat),x]))) (hd:∀σ H,Pv xs.length σ H->D.nx σ H):
  ∃W:Nat->Nat->St->Hp->Prop,(∃m,W 0 m σ H)/\∀i m σ H,W i m σ H->
   ((Be K a).stop i H/\D.nx σ H)\/((Be K a).go i H/\∃N:St->Hp->Prop,(∀σ' H',N σ' H'->∃m',m'<m/\W (i+1) m' σ' H')/\∀x H',(Be K a).iH i H x H'->g2 K p q x σ H' λσ2 H2=>tb {D with nx:=N,ct:=N,bk:=D.nx} σ2 H2):=by
 refine yZ xs.length Pv h0 (λi σ H hi hp=>cD xs (xs[i]) (hl i σ H (by lia) hp) (mN hi)) (λσ H hp=>aF xs (hl _ σ H (aX _) hp) (aX _)) (λi σ H v H' hi hp hy=>?_) hd;refine lj hy λT x bA hT bX hx=>?_;obtain rfl:=bA;obtain rfl:=bX;exact Br ag (hs i x T σ H (hx xs (hl i σ H (by omega) hp)) hp hT)
def ajg{b:Addr}{ys:List V}(hlen:xs.length=ys.length)(Pv:Nat->St->Hp->Prop)(h0:Pv 0 σ H)(hl:∀i σ H,i<=xs.length->Pv i σ H->ah K H a xs/\ah K H b ys)
  (hs:∀i x y T σ H,xs[i]?=some x->ys[i]?=some y->Pv i σ H->H T=none->tb {D with nx:=Pv (i+1),ct:=Pv (i+1),bk:=D.nx} ((σ.set p (some x)).set q (some y)) (upd H T (.tup [x,y]))) (hd:∀σ H,Pv xs.length σ H->D.nx σ H):
  ∃W:Nat->Nat->St->Hp->Prop,(∃m,W 0 m σ H)/\∀i m σ H,W i m σ H->
   ((Bf K a b).stop i H/\D.nx σ H)\/((Bf K a b).go i H/\∃N:St->Hp->Prop,(∀σ' H',N σ' H'->∃m',m'<m/\W (i+1) m' σ' H')/\∀x H',(Bf K a b).iH i H x H'->g2 K p q x σ H' λσ2 H2=>tb {D with nx:=N,ct:=N,bk:=D.nx} σ2 H2):=by
 refine yZ xs.length Pv h0 (λi σ H hi hp=>⟨xs,ys,xs[i],ys[i],(hl i σ H (by lia) hp).1,(hl i σ H (by omega) hp).2,mN hi,mN (by omega)⟩) (λσ H hp=>aB xs ys ((hl _ σ H (aX _) hp).1) ((hl _ σ H (aX _) hp).2) (.inl (aX _))) (λi σ H v H' hi hp hy=>?_) hd;obtain⟨T,x,y,rfl,hT,rfl,hx,hy⟩:=hy;exact Br ag (hs i x y T σ H (hx xs (hl i σ H (by omega) hp).1) (hy ys (hl i σ H (by omega) hp).2) hp hT)
def ajh(Pv:Nat->St->Hp->Prop)(h0:Pv 0 σ H)(hl:∀i σ H,i<=xs.length->Pv i σ H->ah K H a xs)
  (hs:∀i x σ H,xs.reverse[i]?=some x->Pv i σ H->g x σ H λσ2 H2=>tb {D with nx:=Pv (i+1),ct:=Pv (i+1),bk:=D.nx} σ2 H2) (hd:∀σ H,Pv xs.length σ H->D.nx σ H):
  ∃W:Nat->Nat->St->Hp->Prop,(∃m,W 0 m σ H)/\∀i m σ H,W i m σ H->
   ((Ba K a xs.length).stop i H/\D.nx σ H)\/((Ba K a xs.length).go i H/\∃N:St->Hp->Prop,(∀σ' H',N σ' H'->∃m',m'<m/\W (i+1) m' σ' H')/\∀x H',(Ba K a xs.length).iH i H x H'->g x σ H' λσ2 H2=>tb {D with nx:=N,ct:=N,bk:=D.nx} σ2 H2):=by
 have er:∀i,i<xs.length->xs.reverse[i]?=xs[xs.length-1-i]?:=λi hi=>by rw[List.getElem?_reverse hi]
 refine yZ xs.length Pv h0 (λi σ H hi hp=>k_ hi xs (xs[xs.length-1-i]) (hl i σ H (by omega) hp) (mN (by omega))) (λσ H hp=>aX _) (λi σ H v H' hi hp hy=>?_) hd;obtain⟨rfl,hx⟩:=hy;exact hs i v σ H' (by rw[er i hi];exact hx xs (hl i σ H' (by omega) hp)) hp
def aji(Pv:Nat->St->Hp->Prop)(h0:Pv 0 σ H)
  (hs:∀i c σ H,(TL.tl x)[i]?=some c->Pv i σ H->g (.str ⟨#[c]⟩) σ H λσ2 H2=>tb {D with nx:=Pv (i+1),ct:=Pv (i+1),bk:=D.nx} σ2 H2) (hd:∀σ H,Pv (TL.tl x).length σ H->D.nx σ H):
  ∃W:Nat->Nat->St->Hp->Prop,(∃m,W 0 m σ H)/\∀i m σ H,W i m σ H->
   ((t_ x).stop i H/\D.nx σ H)\/((t_ x).go i H/\∃N:St->Hp->Prop,(∀σ' H',N σ' H'->∃m',m'<m/\W (i+1) m' σ' H')/\∀v H',(t_ x).iH i H v H'->g v σ H' λσ2 H2=>tb {D with nx:=N,ct:=N,bk:=D.nx} σ2 H2):=by
 have el:(TL.tl x).length=x.cps.size:=by simp[TL.tl]
 refine yZ (TL.tl x).length Pv h0 (λi σ H hi hp=>by show i<x.cps.size;lia) (λσ H hp=>by show x.cps.size<=_;lia) (λi σ H v H' hi hp hy=>?_) hd;refine iD hy λcA c hc di=>?_;obtain rfl:=cA;obtain rfl:=di;exact hs i c σ H' (by simpa[TL.tl]using hc) hp
def TK{d:Addr}{o:Obj}{kvs:List (aT×V)}(Pv:Nat->St->Hp->Prop)(h0:Pv 0 σ H)(hl:∀i σ H,i<=kvs.length->Pv i σ H->H d=some (.eG o (.dK kvs)))
  (hs:∀i k v T σ H,kvs[i]?=some (k,v)->Pv i σ H->H T=none->tb {D with nx:=Pv (i+1),ct:=Pv (i+1),bk:=D.nx} ((σ.set p (some (kV k))).set q (some v)) (upd H T (.tup [kV k,v]))) (hd:∀σ H,Pv kvs.length σ H->D.nx σ H):
  ∃W:Nat->Nat->St->Hp->Prop,(∃m,W 0 m σ H)/\∀i m σ H,W i m σ H->
   ((Bb d o kvs).stop i H/\D.nx σ H)\/((Bb d o kvs).go i H/\∃N:St->Hp->Prop,(∀σ' H',N σ' H'->∃m',m'<m/\W (i+1) m' σ' H')/\∀x H',(Bb d o kvs).iH i H x H'->g2 K p q x σ H' λσ2 H2=>tb {D with nx:=N,ct:=N,bk:=D.nx} σ2 H2):=by
 refine yZ kvs.length Pv h0 (λi σ H hi hp=>⟨hl i σ H (by lia) hp,hi⟩) (λσ H hp=>⟨hl _ σ H (aX _) hp,aX _⟩) (λi σ H v H' hi hp hy=>?_) hd;obtain⟨T,k,v',hk,rfl,hT,rfl⟩:=hy;exact Br ag (hs i k v' T σ H hk hp hT)
def ajj(n:Nat){D:Addr}(Pv:Nat->Hp->Prop)(h0:Pv 0 (upd H1 D (.lst [])))(L5:∀i H,i<n->Pv i H->J.go i H)(L6:∀H,Pv n H->J.stop n H)
  (hs:∀i H x H',i<n->Pv i H->J.iH i H x H'->g x (c6 σ vs) H' λσ2 H2=>c6 σ2 vs=c6 σ vs/\tt σ2 H2 λb H3=>if b=true then te σ2 H3 λy H4=>∃acc,H4 D=some (.lst acc)/\acc.length<sizeLine/\Pv (i+1) (upd H4 D (.lst (acc++[y])))else Pv (i+1) H3) (hd:∀H,Pv n H->Qd H):
  ∃W:Nat->Nat->Hp->Prop,(∃m,W 0 m (upd H1 D (.lst [])))/\∀i m H,W i m H->
   (J.stop i H/\Qd H)\/(J.go i H/\∃Nx:Hp->Prop,(∀H',Nx H'->∃m',m'<m/\W (i+1) m' H')/\∀x H',J.iH i H x H'->g x (c6 σ vs) H' λσ2 H2=>c6 σ2 vs=c6 σ vs/\tt σ2 H2 λb H3=>if b=true then te σ2 H3 λy H4=>∃acc,H4 D=some (.lst acc)/\acc.length<sizeLine/\Nx (upd H4 D (.lst (acc++[y])))else Nx H3):=by
 refine⟨λi m H=>Pv i H/\i+m=n,⟨n,h0,by omega⟩,λi m H rL=>eA rL λhp hm=>?_⟩;rcases lL i n with h|h
 ·refine .inr ⟨L5 i H h hp,λH'=>Pv (i+1) H',λH' kJ=>⟨m-1,by omega,kJ,by omega⟩,λx H' hy=>hs i H x H' h hp hy⟩
 ·have e:i=n:=by lia
  subst e;exact .inl ⟨L6 H hp,hd H hp⟩
def EW{D:Addr}(Pv:Nat->Hp->Prop)(h0:Pv 0 (upd H1 D (.lst [])))
  (hs:∀i c H,(TL.tl x)[i]?=some c->Pv i H->g (.str ⟨#[c]⟩) (c6 σ vs) H λσ2 H2=>c6 σ2 vs=c6 σ vs/\tt σ2 H2 λb H3=>if b=true then te σ2 H3 λy H4=>∃acc,H4 D=some (.lst acc)/\acc.length<sizeLine/\Pv (i+1) (upd H4 D (.lst (acc++[y])))else Pv (i+1) H3) (hd:∀H,Pv (TL.tl x).length H->Qd H):
  ∃W:Nat->Nat->Hp->Prop,(∃m,W 0 m (upd H1 D (.lst [])))/\∀i m H,W i m H->
   ((t_ x).stop i H/\Qd H)\/((t_ x).go i H/\∃Nx:Hp->Prop,(∀H',Nx H'->∃m',m'<m/\W (i+1) m' H')/\∀v H',(t_ x).iH i H v H'->g v (c6 σ vs) H' λσ2 H2=>c6 σ2 vs=c6 σ vs/\tt σ2 H2 λb H3=>if b=true then te σ2 H3 λy H4=>∃acc,H4 D=some (.lst acc)/\acc.length<sizeLine/\Nx (upd H4 D (.lst (acc++[y])))else Nx H3):=by
 have el:(TL.tl x).length=x.cps.size:=by simp[TL.tl]
 refine ajj (TL.tl x).length Pv h0 (λi H hi hp=>by show i<x.cps.size;lia) (λH hp=>by show x.cps.size<=_;omega) (λi H v H' hi hp hy=>?_) hd;refine iD hy λeT c hc ij=>?_;obtain rfl:=eT;obtain rfl:=ij;exact hs i c H' (by simpa[TL.tl]using hc) hp
section
variable{X:Cx}
theorem TM:∀{xs:List V}{us:List Value},xs.length=us.length->(∀(j:Nat)(x:V)(u:Value),xs[j]?=some x->us[j]?=some u->bC x u)->bB xs us
 |[],[],_,_=> .nil
 |[],_::_,h,_=>by simp at h
 |_::_,[],h,_=>by simp at h
 |x::xs,u::us,h,hr=> .cons (hr 0 x u rfl rfl) (TM (by simpa using h) λj a b ha hb=>hr (j+1) a b (by simpa using ha) (by simpa using hb))
def TN:kg "range"=some (.type "range"):=by decide+kernel
def TQ:jv X (.type "range") (λxs H Q=>∃j,xs=[.int j]/\∀p,H p=none->Q (.ref p) (upd H p (.rn 0 j))):=by intro aa s σ H xs us Q I r h;refine ar h λj l5 q=>?_;obtain rfl:=l5;refine ar (l7 r) λu kA rx=>?_;obtain rfl:=kA;obtain⟨t,rfl⟩:=rx;exact auM (aB (.ref _) _ (I.laid (o:= .rn 0 j) (λb u e=>fc _ e) (aX _) ⟨_,_,_,h7 _ rfl⟩) rfl (q _ (I.aG.fresh (aX _))))
def TR(hc:X.calm=true):jv X (.type "list") (λxs H Q=>∃p,∃n:Nat,xs=[.ref p]/\H p=some (.rn 0 n)/\n<=1000000/\∀l,H l=none->Q (.ref l) (upd H l (.lst ((bD n).map λi=> .int (i:Nat))))):=by
 intro aa s σ H xs us Q I r h;refine lj h λp n kB hp hn q=>?_;obtain rfl:=kB;refine ar (l7 r) λu vW rx=>?_;obtain rfl:=vW;cases rx;refine lh (I.aG p _ hp) λt u ajk=>?_;refine eE ajk λv hr=>?_;refine call_list_range (I.ok.hd hc) hr (n:=n) (small_one (by lia) (by lia) (by lia) (by lia)) ?_ (by lia) λh' tk ajl c' hk hS TU=>?_
 ·rw[auL];split<;>lia
 ·refine⟨.ref _,_,I.laid (t':=tk) (o:= .lst ((bD n).map λi=> .int (i:Nat))) hk (aX _) ⟨?_,ajl.toList,c',TM ?_ λj x u hx hu=>?_,by rw[hS]⟩,rfl,q _ (I.aG.fresh (aX _))⟩
  ·rw[aA,OK];show n<=2^24;omega
  ·rw[aA,OK,Jy,TU.1]
  ·obtain⟨t',e⟩:=TU.2 j u (by simpa using hu);rw[qJ]at hx;rcases lL j n with hj|hj
   ·rw[uI hj]at hx;cases hx;rw[e];exact⟨t',by simp⟩
   ·rw[zG (by simpa using hj)]at hx;cases hx
end
end
section
variable{X:Cx}{K:aV}
def L7(e:X.K=K):AN X (Le K):=by subst e;exact bU
def ajm(e:X.K=K):jv X (.builtin "len") (λxs H Q=>∃p ys,xs=[.ref p]/\(ah K H p ys\/dm K H p ys)/\Q (.int ys.length) H):=by subst e;exact fD
def ajn(ek:X.K=K){e:bf}{f:Str}{pos:Pos}{ta:TE}(he:PE X e ta)(hb:mS e f X.env (eval e X.env)=eval e X.env):PE X (.Attribute e f pos) (vJ K ta f):=by subst ek;exact aD he hb
def EX:Option aT->Value->Bool
 |some k,v=>rm k v
 |none,v=>v==i9
def rM{v:Value}(h:EX none v=true):v=i9:=eq_of_beq h
def ajo(w:a9):Option aT->Int
 |some k=>Rm w k
 |none=>reduceHash 0xFCA86420
def TV(prog:Program)(w:a9):aur prog w (Option aT)where
 is:=EX
 hash:=ajo w
 inj:=λv a b ha hb=>by
  cases a with
  |none=>
   have:=rM ha;subst this;cases b with
   |none=>rfl
   |some k=>rcases ku (k:=k) hb with⟨i,t,rfl,e⟩|⟨x,t,rfl,e⟩<;>exact nomatch e
  |some k=>
   cases b with
   |none=>have:=rM hb;subst this;rcases ku (k:=k) ha with⟨i,t,rfl,e⟩|⟨x,t,rfl,e⟩<;>exact nomatch e
   |some l=>rw[(fC prog w).inj v k l ha hb]
 byValue:=λk v h=>by
  cases k with
  |none=>have:=rM h;subst this;rfl
  |some k=>exact(fC prog w).byValue k v h
 pyHash:=λ{A E s k v Q} hv h=>by
  cases k with
  |none=>
   have:=rM hv;subst this;exact PySem.W.pyHash_slot (T:="NoneType") rfl F.slot_NoneType_hash F.entry_NoneType_hash (F.args_NoneType_hash_1 _) (beq_builtin_none _) (.inl rfl) (cv (eQ (cv (wpAny_mkInt (eQ (cD _ _ rfl h))))))
  |some k=>exact(fC prog w).pyHash (k:=k) hv h
 eqBool:=λ{A E s a b u v Q} hu hv h=>by
  cases a with
  |none=>
   have:=rM hu;subst this;cases b with
   |none=>
    have:=rM hv;subst this;have h':Q true s:=by simpa using h
    unfold PySem.eqBool;refine O3 ?_;show aM _ _ (if(i9==i9)=true then _ else _) Q E s;rw[if_pos (by decide)];exact cv (wpAny_rule (eQ h'))
   |some l=>
    rw[decide_eq_false (by simp)]at h;rcases ku (k:=l) hv with⟨i,t,rfl,rfl⟩|⟨x,t,rfl,rfl⟩
    ·exact au8 i t _ _ _ _ h
    ·exact au9 x t _ _ _ _ h
  |some k=>
   cases b with
   |none=>
    have:=rM hv;subst this;rw[decide_eq_false (by simp)]at h;rcases ku (k:=k) hu with⟨i,t,rfl,rfl⟩|⟨x,t,rfl,rfl⟩
    ·exact au_ i t _ _ _ _ h
    ·exact ava x t _ _ _ _ h
   |some l=>exact(fC prog w).eqBool (a:=k) (b:=l) hu hv (by simpa using h)
 «strs»:=λk x t v h=>by
  cases k with
  |none=>exact nomatch rM h
  |some k=>exact(fC prog w).strs k x t v h
def ajp{prog:Program}{w:a9}{h:Heap}{a:Addr}{vs:List (aT×Value)}(d:h.DictOf (fC prog w) a vs):h.MapOf (TV prog w) a (λk=>match k with|some k=>lQ vs k|none=>none):=by
 refine bR d.mapOf λo es ep h1 h2 gJ=>?_;refine cT gJ λh3 h4 h5=>?_;refine iC o es ep h1 h2 h3 (λe he=>?_) λk=>?_
 ·refine ar (h4 e he) λk q1 q2=>?_;exact aF (some k) q1 q2
 ·cases k with
  |some k=>exact h5 k
  |none=>
   have:es.find? (λe=>EX none e.key)=none:=by
    rw[Array.find?_eq_none];intro e he q;refine ar (h4 e (by simpa using he)) λk q1 _=>?_;have hn:=rM q
    rw[hn]at q1;rcases ku (k:=k) q1 with⟨i,t,rfl,e⟩|⟨x,t,rfl,e⟩<;>exact nomatch e
   show(es.find? λe=>EX none e.key).map (·.val)=none;rw[this];rfl
def ajq(ty td:TE):TE:=λσ H Q=>ty σ H λy H1=>td σ H1 λx H2=>∃a,x= .ref a/\((y= .aL/\(∃kvs,H2 a=some (.dK kvs))/\Q (.bl true) H2)\/∃o,dC H2 a y o/\Q (.bl (!o.isSome)) H2)
def ajr{i o:bf}{ty td:TE}(hu:X.A.units+1<cLine)(hi:PE X i ty)(ho:PE X o td):PC X .NotIn i o (ajq ty td):=by
 intro aa s σ H Q I h;refine aI (hi aa s σ H _ I h) λiv s1 l4=>bb l4 λy H1 I1 ry q1=>aI (ho aa s1 σ H1 _ I1 q1) λu s2 ⟨x,H2,I2,rx,a,ex,q2⟩=>?_;subst ex;obtain rfl:u=c9 a:=rx;rcases q2 with⟨ey,⟨kvs,e⟩,q2⟩|⟨ov,g,q2⟩
 ·subst ey;cases(show iv=i9 from ry);refine ja (EB I2.aG e) λz hd vs rel dd=>?_;refine avo (knd:=TV X.prog X.w) (k:=none) rfl hd (ajp dd) ?_;exact aB (.bl true) H2 (I2.tok _) rfl q2
 ·exact SV hu I2 g ry λs3 I3=>aB (.bl (!ov.isSome)) H2 I3 rfl q2
end
section
variable{a:Addr}{kvs:List (aT×Value)}
structure lA (P:Program) (w:a9) (K:aV) (a:Addr) (kvs:List (aT×Value)):Prop where
 ns:(a==oh)=false
 at_:∀h:Heap,K.In h->h.DictOf (fC P w) a kvs
section
variable{X:Cx}{o i:bf}{td ty:TE}{pos:Pos}
def ajs(a:Addr)(kvs:List (aT×Value))(td ty:TE):TE:=λσ H Q=>td σ H λx H1=>ty σ H1 λy H2=>∃k f,x= .ref a/\y=kV k/\lQ kvs k=some (.ref f)/\Q (.ref f) H2
def ajt(D:lA X.prog X.w X.K a kvs)(ho:PE X o td)(hi:PE X i ty)(hs:LG i):PE X (.Subscript o i pos) (ajs a kvs td ty):=by
 intro aa s σ H Q I h;refine SW avp.lookup hs (aI (ho aa s σ H _ I h) λu s1 l4=>bb l4 λx H1 I1 rx q1=>aI (hi aa s1 σ H1 _ I1 q1) λiv s2 ⟨y,H2,I2,ry,k,f,ex,ey,hv,q2⟩=>?_);subst ex;subst ey;obtain rfl:u=c9 a:=rx;have dd:=D.at_ s2.heap I2.fW
 exact⟨dd.typeIs,avm (qc ry) dd.mapOf hv (aB (.ref f) H2 (I2.tok _) rfl q2)⟩
def aju(a:Addr)(kvs:List (aT×Value))(ty td:TE):TE:=λσ H Q=>ty σ H λy H1=>td σ H1 λx H2=>∃k,x= .ref a/\y=kV k/\Q (.bl (lQ kvs k).isSome) H2
def ajv(D:lA X.prog X.w X.K a kvs)(hi:PE X i ty)(ho:PE X o td):PC X .In i o (aju a kvs ty td):=by
 intro aa s σ H Q I h;refine aI (hi aa s σ H _ I h) λiv s1 Bs=>bb Bs λy H1 I1 ry q1=>aI (ho aa s1 σ H1 _ I1 q1) λu s2 Bt=>sX Bt λx H2 I2 rx k ex ey q2=>?_;subst ex;subst ey;obtain rfl:u=c9 a:=rx;have dd:=D.at_ s2.heap I2.fW
 exact avn (qc ry) D.ns dd.mapOf (aB (.bl (lQ kvs k).isSome) H2 (I2.tok _) rfl q2)
end
def Fv(P:Program)(w:a9)(K:aV)(mg:Str->Option Value)(base:Heap)(k:Nat)(f:Addr)(sp:Sp):Prop:=∃fd ps,aZ P w K mg base bu k f fd ps sp/\lz K fd ps []/\qU K (.ref f)=true
def ajw(K:aV)(Fn:Addr->Sp->Prop)(m:Str)(ta:TE)(t:TA):TE:=λσ H Q=>ta σ H λx H1=>∃a C dx fs f sp,x= .ref a/\H1 a=some (.ins C dx fs)/\l8 K C/\dj K C m/\fs.lookup m=some (.ref f)/\Fn f sp/\t σ H1 λvs H2=>sp (vs++[]) H2 Q E0
def ajx{X:Cx}{k:Nat}{m:Str}{pos apos:Pos}{e o:bf}{es:List bf}{ta:TE}{t:TA}{pl:Sem Bool}(hr:eJ k X.A)(he:PE X o ta)(ha:PA X (e::es) t)
  (kD:cJ (e::es) X.env=(false,eval e X.env)::cJ es X.env:=by rfl) (fk:(jI pos (cJ es X.env)).any (·.1)=false:=by rfl)
  (ht:eval (.Call (.Attribute o m apos) (e::es) [] pos) X.env=(do
   let ov<-eval o X.env
   Jx apos.atName
   let(f,first)<-CZ [ov] (getMethod ov m pl)
   callWith pos f first (jI pos (cJ (e::es) X.env)) (zQ pos (zR [] X.env))):=by rfl):
  PE X (.Call (.Attribute o m apos) (e::es) [] pos) (ajw X.K (Fv X.prog X.w X.K X.mg X.base k) m ta t):=by
 intro aa s σ H Q I h;refine PySem.W.methodCall_KW (pl:=pl) (aI (he aa s σ H _ I h) λu s1 ⟨x,H1,I1,rx,a,C,dx,fs,f,sp,ex,ea,c,n,l,⟨fd,ps,F,hb,hk⟩,q⟩=>?_) ht;subst ex;obtain rfl:u=c9 a:=rx;refine u9 (K9 I1.aG ea) λmA O r _ _ _=>?_;refine ar O.look λod J _=>?_;have pg:=c.pg
 unfold JE at pg;rw[eW]at pg;refine PySem.W.method_usual I1.fW J (eq_of_beq pg.1) (eq_of_beq pg.2) n rfl (K_ I1 ea c n l λv s2 I2 rv=>?_);obtain rfl:v=c9 f:=rv;refine JK (first:=[]) (h₀:=X.base) I.ok.mod.vx hk (aI (ha pos aa s2 σ H1 _ I2 q) λus s3 vX=>bb vX λvs H2 I3 r3 q3=>⟨I3.fW,?_⟩) kD fk;exact R6 F hr hb .nil ER I3 r3 q3
end
section
variable{X:Cx}{pos:Pos}
def ajy(tv:TE):TE:=λσ H Q=>tv σ H λx H1=>∃a,x= .str a/\a.length<=sizeLine/\Q (.str a) H1
def tF2(ta tb:TE):TE:=λσ H Q=>ta σ H λx H1=>∃i,x= .str i/\i.length<=sizeLine/\tb σ H1 λy H2=>∃j,y= .str j/\i.length+j.length<=sizeLine/\Q (.str (i++j)) H2
def ajA{v:bf}{tv:TE}(hv:PE X v tv):PE X (.FormattedValue v (-1) none pos) (ajy tv):=L0 hv
def ajB{a b:bf}{ta tb:TE}(ha:PE X a ta)(hb:PE X b tb):PE X (.JoinedStr [a,b] pos) (tF2 ta tb):=L1 ha hb
end
end L2
namespace L2
open PySem
section
variable{vs:Array Value}{B:Heap}{env:Env}{outer:List Env}{L e:Addr}{oe:Obj}{Q:Unit->aw->Prop}
def ajC{o:Obj}(f:Array Value->Array Value)(hd:o.data= .fields vs):o.mapFields f={o with data:= .fields (f vs)}:=by obtain⟨c,d,dt,sl⟩:=o;obtain rfl:dt= .fields vs:=hd;rfl
structure Fl (B:Heap) (l:List Env) (e:Addr) (oe:Obj) (h h':Heap):Prop where
 st:B.StaysIn h'
 ff:h'.FunFrames B l
 ob:∃vs T oT ts,h'.get? e=some {oe with data:= .fields vs}/\vs[1]?=some (.ref T)/\B.get? T=none/\T≠e/\h'.get? T=some oT/\oT.data= .fields ts/\ts[3]?=some .none/\h.objs.size<=T
 sl:∀b o,b∈l.filterMap (·.frame)->h.get? b=some o->∃z,h'.get? b=some {o with slots:=z}
section
variable{M:zK}{A:cX}{E:Value->aw->Prop}{s:aw}
def TX{head:Value}{ajD:Bool}
  (fr:A.frames=some (env::outer)) (ff:s.heap.FunFrames B (env::outer)) (fe:env.frame=some L) (he:s.heap.get? e=some oe) (de:oe.data= .fields vs) (sz:1<vs.size) (st:B.StaysIn s.heap) (ne:B.get? e=none)
  (k:∀h',Fl B (env::outer) e oe s.heap h'->Q () {s with heap:=h'}):
  aM M A (do let a<-frameOf env;let pl<-entryPlaceOf L ajD;let b<-avS head a .none (sF L) .none pl;setField (.ref e) 1 b) (λ_ s'=>aM M A (JV (.ref e) none) Q E s') E s:=by
 have TY:e∉(env::outer).filterMap (·.frame):=λhm=>by refine iD (ff.mem hm) λ_ o ho z=>?_;rw[he]at ho;cases ho;exact z vs de
 refine cv (wpAny_frameOf_fun fr ff fe λg so=>?_);refine cv (wpAny_entryPlaceOf λpl fk=>?_);unfold avS newFields;refine cv (avk ?_ (fk.sizeOk5 _ _ _ _ _));have e1:g.get? e=some oe:=(so.2.1 e TY).trans he
 generalize htb:([head, .ref L, .none,sF L, .none]++(if pl.isEmpty then cW 6 i9 else pl)).toArray=ts;have t5:3<ts.size:=by rw[<-htb];simp only[eY,cj,cG,sP];lia
 have e2:=fc (h:=g) {cls:= .type "traceback",dict:=none,data:= .fields ts} e1;refine aaz e2 de sz ?_;have Bu:g.objs.size≠e:=zP (cR e1);have d3:=aaA de (·.setIfInBounds 1 (c9 g.objs.size));have e3:=Pc (zW (·.setIfInBounds 1 (c9 g.objs.size))) e2 (avT d3);have t3:=(zT (g.push {cls:= .type "traceback",dict:=none,data:= .fields ts}) (zW (·.setIfInBounds 1 (c9 g.objs.size))) (mP Bu)).trans (h7 g rfl);unfold JV;refine cv (Pr e3 d3 (x:= .ref g.objs.size) (by simp[sz]) ?_);rw[if_pos (show(c9 g.objs.size !=i9)=true from by simp)];refine aaz t3 rfl t5 (k _ ?_);have gY:∀b o,b≠e->g.get? b=some o->(((g.push {cls:= .type "traceback",dict:=none,data:= .fields ts}).update e (zW (·.setIfInBounds 1 (c9 g.objs.size)))).update g.objs.size (zW (·.setIfInBounds 3 ((none:Option Addr).elim i9 λf=>sF f)))).get? b=some o:=λb o nb hb=>by rw[zT _ _ (zP (cR hb)),zT _ _ (mP nb)];exact fc _ hb
 have gB:B.StaysIn g:=λb o oZ=>(so.2.1 b λhm=>by rw[(ff.mem hm).1]at oZ;cases oZ).trans (st b o oZ);have EY:∀b o,b∈(env::outer).filterMap (·.frame)->s.heap.get? b=some o->∃z,(((g.push {cls:= .type "traceback",dict:=none,data:= .fields ts}).update e (zW (·.setIfInBounds 1 (c9 g.objs.size)))).update g.objs.size (zW (·.setIfInBounds 3 ((none:Option Addr).elim i9 λf=>sF f)))).get? b=some {o with slots:=z}:=λb o hm hb=>by obtain⟨z,hz⟩:=so.2.2 b o hb;exact⟨z,gY b _ (λq=>TY (q▸hm)) hz⟩
 refine⟨λb o oZ=>gY b o (λq=>by rw[q,ne]at oZ;cases oZ) (gB b o oZ),ff.of_keeps λb o hb nfl=>?_,⟨vs.setIfInBounds 1 (.ref g.objs.size),g.objs.size,_,ts.setIfInBounds 3 .none,?_,by simp[sz],gB.fresh,Bu,Pc _ t3 (avT (aaA rfl _)),aaA rfl _,by simp[t5],JI so.1.symm⟩,EY⟩
 ·obtain⟨z,hz⟩:=so.2.2 b o hb;exact aq (gY b _ (λq=>by rw[q,he]at hb;cases hb;exact nfl vs de) hz) rfl
 ·rw[zT _ _ Bu,e3,ajC _ de]
def Hd(B h:Heap)(e:Addr)(vs:Array Value):Prop:=vs[1]?=some .none\/∃T oT ts,vs[1]?=some (.ref T)/\B.get? T=none/\T≠e/\h.get? T=some oT/\oT.data= .fields ts/\ts[3]?=some .none
def ajG
  (fr:A.frames=some (env::outer)) (ff:s.heap.FunFrames B (env::outer)) (fe:env.frame=some L) (he:s.heap.get? e=some oe) (de:oe.data= .fields vs) (st:B.StaysIn s.heap) (ne:B.get? e=none) (hd:Hd B s.heap e vs)
  (k:∀h',Fl B (env::outer) e oe s.heap h'->Q () {s with heap:=h'}):
  aM M A (JR (.ref e) env) (λ_ s'=>aM M A (JV (.ref e) none) Q E s') E s:=by
 unfold JR;simp only[fe];rcases hd with h1|⟨T,oT,ts,h1,nT,Bu,hT,dT,h3⟩
 ·refine cv (Pr he de h1 ?_);rw[if_neg (by decide)];exact TX fr ff fe he de (JW.mp h1).1 st ne k
 ·refine cv (Pr he de h1 ?_);rw[if_pos (show(c9 T !=i9)=true from by simp)];refine cv (Pr hT dT h3 ?_);rw[if_neg (show¬((i9==sF L)=true) from by simp[sF])];refine cv (aaz hT dT (JW.mp h3).1 ?_);have EZ:∀b,b≠T->(s.heap.update T (zW (·.setIfInBounds 3 i9))).get? b=s.heap.get? b:=λb hb=>zT _ _ (mP hb)
  have TZ:∀b o,s.heap.get? b=some o->(∀z,o.data≠ .fields z)->b≠T:=λb o hb nf q=>by rw[q,hT]at hb;cases hb;exact nf ts dT
  refine TX (oe:=oe) (vs:=vs) fr (ff.of_keeps λb o hb nf=>aF o ((EZ b (TZ b o hb nf)).trans hb) rfl) fe ((EZ e (mP Bu)).trans he) de (JW.mp h1).1
   (λb o oZ=>(EZ b λq=>by rw[q,nT]at oZ;cases oZ).trans (st b o oZ)) ne λh' F=>k h' ⟨F.st,F.ff,?_,λb o hm hb=>?_⟩
  ·refine ox F.ob λfT T' L8 Bv a1 a2 a3 a4 a5 gJ=>?_;refine cT gJ λa6 a7 a8=>?_;exact⟨fT,T',L8,Bv,a1,a2,a3,a4,a5,a6,a7,by rw[Heap.size_after_update]at a8;exact a8⟩
  ·refine iD (ff.mem hm) λ_ o2 qi nf=>?_;rw[hb]at qi;cases qi;exact F.sl b o hm ((EZ b (TZ b o hb nf)).trans hb)
end
end
section
open Builtin Builtin.ObjectAttr
variable{tk:Tok}{Q:Unit->aw->Prop}{R:JH->aw->Prop}{expr:Bool}{sa owner:String}
abbrev Bw:List Value:=[.type "Exception", .type "BaseException", .type "object"]
abbrev iq(C:Addr)(d:Option Addr)(vs:Array Value):Obj:={cls:= .ref C,dict:=d,data:= .fields vs}
def nB(h:Heap)(C fI:Addr)(f:Str):Prop:=∃(N:Addr)(nm q:Str)(bs:List Value)(sn:List Str)(sub:List Value)(ab:Bool)(col:Option Bool)(dd:Option Addr)(k0 k1 k2 k3 k5:Option Value)(m:Str->Option Value),
 h.get? C=some (aay nm q C N bs Bw true sn sub ab col dd k0 k1 k2 k3 k5 "Exception.__new__")/\h.Ns N m/\
 m "__init__"=some (.ref fI)/\m "__setattr__"=none/\m "__getattribute__"=none/\m "__getattr__"=none/\m f=none
section
variable{prog:Program}{w:a9}{A:cX}{E:Value->aw->Prop}{h:Heap}{g:Array GenState}{d:Drawn}{t:Nat}{os:OsState}{x C fI dx:Addr}{f:Str}{v:Value}{vs:Array Value}{mA:Str->Option Value}
def ajH{Q:Fin->aw->Prop}(XI:nB h C fI f)(hB:om (.type "Exception") f=pure none)(hx:h.get? x=some (iq C (some dx) vs))(jb:h.Ns1 dx mA)(hv:mA f=some v)(hq:Q (.done (.ret v)) ⟨h,g,d,t,os⟩):
  aM (aR prog w) A (Builtin.«object.__getattribute__» ⟨[.ref x, .str f tk],[]⟩) Q E ⟨h,g,d,t,os⟩:=by
 refine dS XI λN nm q bs sn sub gJ=>?_;refine dS gJ λab col dd k0 k1 k2 mq=>?_;refine bR mq λk3 k5 m hC hN rN=>?_;refine fi rN λ_ _ _ _ hm=>?_;generalize ho:iq C (some dx) vs=o at hx;have oc:o.cls= .ref C:=by rw[<-ho]
 have od:o.dict=some dx:=by rw[<-ho]
 have nc:∀z,o.data≠ .cls z:=by rw[<-ho];intro z e;cases e
 unfold Builtin.«object.__getattribute__»
 repeat(first|(with_reducible refine uV hx ?_;rw[oc])|(with_reducible refine JX hC hN Pt.mroIs hB ?_;rw[hm])|wp_step)
 split
 ·rename_i z ez;exact absurd ez (nc z)
 unfold instanceDict
 repeat(first|(with_reducible refine uV hx ?_;rw[oc])|with_reducible refine uV hC ?_|wp_step)
 rw[od]
 repeat(first|(with_reducible refine wpAny_nsGet jb.ns ?_;rw[hv])|wp_step)
 exact hq
def ajI{M:zK}{u:Value}{o:Obj}(XI:nB h C fI f)(hx:h.get? x=some o)(hc:o.cls= .ref C)(hq:Q () ⟨h,g,d,t,os⟩):aM M A (Pu "BaseException.__getattribute__" ⟨[.ref x,u],[]⟩) Q E ⟨h,g,d,t,os⟩:=by
 refine dS XI λN nm q bs sn sub gJ=>?_;refine dS gJ λab col dd k0 k1 k2 mq=>?_;refine gb mq λk3 k5 m hC _=>?_;have kd:builtinKind "BaseException.__getattribute__"=some .slot:=by decide+kernel
 have sp:splitId "BaseException.__getattribute__"=some ("BaseException","__getattribute__"):=by decide+kernel
 have cB:(c9 C::Bw).contains (.type "BaseException")=true:=by rfl
 have ha:=PySem.F.args_bexc_ga (.ref x) u;simp only[Pu,kd,sp];refine cv ?_;unfold isInstance
 repeat(first|(with_reducible refine uV hx ?_;rw[hc])|(with_reducible refine avU hC ?_;rw[cB])|wp_step)
 exact hq
def ajJ(XI:nB h C fI f)(hB:om (.type "Exception") f=pure none)(hx:h.get? x=some (iq C (some dx) vs))(jb:h.Ns1 dx mA)(hv:mA f=some v)(hq:R (.ok (.ret v)) ⟨h,g,d,t,os⟩):
  sG (aR prog w) A (.call (.builtin "BaseException.__getattribute__") ⟨[.ref x, .str f tk],[]⟩) R ⟨h,g,d,t,os⟩:=
 Pw Px.ga.plain PySem.F.entry_bexc_ga (ajI XI hx rfl (ajH XI hB hx jb hv hq))
def ajK{fill:Bool}{Q:Value->aw->Prop}(XI:nB h C fI f)(hB:om (.type "Exception") f=pure none)(hx:h.get? x=some (iq C (some dx) vs))(jb:h.Ns1 dx mA)(hv:mA f=some v)(hh:aaB v=pure v)(hq:Q v ⟨h,g,d,t,os⟩):
  aM (aR prog w) A (getAttrBy (.ref x) (.str f tk) fill expr) Q E ⟨h,g,d,t,os⟩:=by
 have Bx:=XI;refine dS XI λN nm q bs sn sub gJ=>?_;refine dS gJ λab col dd k0 k1 k2 mq=>?_;refine bR mq λk3 k5 m hC hN rN=>?_;refine fi rN λ_ _ m1 m2 hm=>?_;have b3:=Px.ga.bind (.ref x);have x0:(expr&&onTheHeap (JY "BaseException.__getattribute__"))=false:=by cases expr<;>rfl
 have x2:(JY "BaseException.__getattribute__"==JY "object.__getattribute__")=false:=by decide+kernel
 have x1:(onTheHeap (c9 C)&&JY "BaseException.__getattribute__"==JY "object.__getattribute__")=false:=by rw[x2];rfl
 repeat(any_goals (first|assumption|with_reducible refine uV hx ?_|(with_reducible refine JX hC hN Pt.mroIs Px.ga.lookup ?_;rw[m1])|(with_reducible refine JX hC hN Pt.mroIs Px.noGetattr ?_;rw[m2])|wp_step))
 refine ajJ Bx hB hx jb hv ?_
 repeat(any_goals (first|assumption|(rw[hh];exact eQ hq)|wp_step))
def ajL{Q:Value->aw->Prop}(XI:nB h C fI f)(hB:om (.type "Exception") f=pure none)(hx:h.get? x=some (iq C (some dx) vs))(jb:h.Ns1 dx mA)(hv:mA f=some v)(hh:aaB v=pure v)(hq:Q v ⟨h,g,d,t+1,os⟩):
  aM (aR prog w) A (JF (.ref x) f expr) Q E ⟨h,g,d,t,os⟩:=by
 unfold JF
 repeat(any_goals (first|assumption|with_reducible apply ajK XI hB hx jb hv hh|wp_step))
def ajM{Q:Fin->aw->Prop}(XI:nB h C fI f)(hB:om (.type "Exception") f=pure none)(hx:h.get? x=some (iq C none vs))
  (hq:∀h' nD,h'.get? x=some (iq C (some h.objs.size) vs)->h'.Ns1 h.objs.size (λy=>if y=f then some v else none)->(∀b o,b≠x->h.get? b=some o->h'.get? b=some o)->Q (.done (.ret .none)) ⟨h',g,d,nD,os⟩):
  aM (aR prog w) A (Builtin.«object.__setattr__» ⟨[.ref x, .str f tk,v],[]⟩) Q E ⟨h,g,d,t,os⟩:=by
 refine dS XI λN nm q bs sn sub gJ=>?_;refine dS gJ λab col dd k0 k1 k2 mq=>?_;refine bR mq λk3 k5 m hC hN rN=>?_;refine fi rN λ_ _ _ _ hm=>?_;have SF:=avV
 have pass:=SF.passes (.ref x);generalize ho:iq C none vs=o at hx;have oc:o.cls= .ref C:=by rw[<-ho]
 have od:o.dict=none:=by rw[<-ho]
 have nc:∀z,o.data≠ .cls z:=by rw[<-ho];intro z e;cases e
 unfold Builtin.«object.__setattr__»
 repeat(first|rw[refuse_eq]|(rw[refuseLoop_ref,pass])|(with_reducible refine uV hx ?_;rw[oc])|with_reducible refine wpAny_mroOf_exc hC ?_|(with_reducible refine JX hC hN SF.mro hB ?_;rw[hm])|wp_step)
 rw[od,if_neg (by simp[typeHasDict])];split
 ·rename_i ez;cases ez
 split
 ·rename_i z ez;exact absurd ez (nc z)
 have x1:(h.push {cls:= .type "dict",data:= .dict #[]}).get? x=some o:=fc _ hx;have nx:x≠h.objs.size:=gQ (cR hx);refine cv (wpAny_alloc' ?_);refine cv (wpAny_update' x1 ?_);refine eQ ?_;have gd:((h.push {cls:= .type "dict",data:= .dict #[]}).update x λo=>{cls:=o.cls,dict:=some h.objs.size,data:=o.data,slots:=o.slots}).get? h.objs.size=some {cls:= .type "dict",data:= .dict #[]}:=
  (avW _ _ _ _ nx.symm).trans (Heap.get?_push_at rfl rfl)
 have nd:((h.push {cls:= .type "dict",data:= .dict #[]}).update x λo=>{cls:=o.cls,dict:=some h.objs.size,data:=o.data,slots:=o.slots}).Ns h.objs.size (λ_=>none):=
  (kj _ (#[]) _ gd rfl (λe he=>absurd he (by simp)) λ_=>rfl)
 show aM _ _ (storeInDict h.objs.size (.str f tk) f v) _ _ _;unfold storeInDict newKeyGuard;refine cv (eQ (cv (auT (auW nd) λh' n' sb=>?_)));refine bR (n'.count (Within.cons f v Within.nil)) λoD esD epD K6 AH K7=>?_;refine cv (auU K6 (by rw[AH];exact auV (i8 K7 (by rw[cG,sP,JD];lia))) ?_)
 wp_walk
 refine hq h' _ ?_ n' λb o nb hb=>?_
 ·rw[<-ho]at x1;exact(sb.2 x nx).trans (Pc _ x1 rfl)
 ·exact(sb.2 b (gQ (cR hb))).trans ((avW _ _ _ _ nb).trans (fc _ hb))
def ajN(SF:StoreFacts "Exception" Bw sa owner)(XI:nB h C fI f)(hB:om (.type "Exception") f=pure none)(hx:h.get? x=some (iq C none vs))
  (hq:∀h' nD,h'.get? x=some (iq C (some h.objs.size) vs)->h'.Ns1 h.objs.size (λy=>if y=f then some v else none)->(∀b o,b≠x->h.get? b=some o->h'.get? b=some o)->R (.ok (.ret .none)) ⟨h',g,d,nD,os⟩):
  sG (aR prog w) A (.call (.builtin sa) ⟨[.ref x, .str f tk,v],[]⟩) R ⟨h,g,d,t,os⟩:=by
 have Bx:=XI;refine dS XI λN nm q bs sn sub gJ=>?_;refine dS gJ λab col dd k0 k1 k2 mq=>?_;refine gb mq λk3 k5 m hC _=>?_;exact Pw SF.slot.plain SF.entry (wpAny_check_sa SF hC hx rfl (ajM Bx hB hx hq))
def ajO(SF:StoreFacts "Exception" Bw sa owner)(XI:nB h C fI f)(hB:om (.type "Exception") f=pure none)(hx:h.get? x=some (iq C none vs))
  (hq:∀h' nD,h'.get? x=some (iq C (some h.objs.size) vs)->h'.Ns1 h.objs.size (λy=>if y=f then some v else none)->(∀b o,b≠x->h.get? b=some o->h'.get? b=some o)->Q () ⟨h',g,d,nD,os⟩):
  aM (aR prog w) A (JG (.ref x) f v) Q E ⟨h,g,d,t,os⟩:=by
 have Bx:=XI;refine dS XI λN nm q bs sn sub gJ=>?_;refine dS gJ λab col dd k0 k1 k2 mq=>?_;refine bR mq λk3 k5 m hC hN rN=>?_;refine cT rN λ_ hs _=>?_;have b3:=SF.slot.bind (.ref x);have jO:=hx;generalize ho:iq C none vs=o at hx;have oc:o.cls= .ref C:=by rw[<-ho]
 unfold JG callSpecial? specialOf
 repeat(any_goals (first|assumption|(with_reducible refine uV hx ?_;rw[oc])|(with_reducible refine JX hC hN SF.mro SF.slot.lookup ?_;rw[hs])|wp_step))
 refine ajN SF Bx hB jO λh' nD a b c=>?_
 repeat(any_goals (first|assumption|wp_step))
 exact hq h' nD a b c
def ajP(XI:nB h C fI f)(hB:om (.type "Exception") f=pure none)(hx:h.get? x=some (iq C none vs))
 (hq:∀h' nD,h'.get? x=some (iq C (some h.objs.size) vs)->h'.Ns1 h.objs.size (λy=>if y=f then some v else none)->(∀b o,b≠x->h.get? b=some o->h'.get? b=some o)->Q () ⟨h',g,d,nD,os⟩):
 aM (aR prog w) A (JG (.ref x) f v) Q E ⟨h,g,d,t,os⟩:=ajO avV XI hB hx hq
end
section
variable{M:zK}{A:cX}{E:Value->aw->Prop}{env:Env}{s:aw}{C fI:Addr}{f:Str}
def ajQ{u:Sem Value}{Q:Flow->aw->Prop}(hh:A.handled=none)
  (k:aM M A u (λv s1=>∃e d vs,v= .ref e/\nB s1.heap C fI f/\s1.heap.get? e=some (iq C d vs)/\vs[1]?=some .none/\E (.ref e) s1) E s):aM M A (aaC env (some u) none) Q E s:=by
 unfold aaC;refine cv (k4 k (λv s1 k1=>?_) λ_ _ z=>z);refine bR k1 λe dx vs bp XI ib=>?_;refine cT ib λhe h1 hE=>?_;obtain rfl:=bp;refine dS XI λN nm q bs sn sub ib=>?_;refine dS ib λab col dd k0 k1 k2 ajR=>?_;refine bR ajR λk3 k5 m hC hN _=>?_;obtain⟨hp,g,d,tk,os⟩:=s1;have cB:(c9 C::Bw).contains (.type "BaseException")=true:=by rfl
 repeat(first|with_reducible refine uV he ?_|with_reducible refine uV hC ?_|(with_reducible refine avU hC ?_;rw[cB])|wp_step)
 rw[h1];refine eQ ?_;rw[if_neg (by decide)];exact eQ (wpAny_raiseNew_none hh hE)
def ajS{e:bf}{pos:Pos}{Q:Flow->aw->Prop}(hh:A.handled=none)
  (k:aM M A (eval e env) (λv s1=>∃x d vs,v= .ref x/\nB s1.heap C fI f/\s1.heap.get? x=some (iq C d vs)/\vs[1]?=some .none/\E (.ref x) s1) E s):aM M A (exec (.Raise (some e) none pos) env) Q E s:=by
 rw[arm_exec_Raise];refine cv (C8 ?_);show aM M A (aaC env (some (do let v<-eval e env;Jx pos;pure v)) none) Q E s;exact ajQ hh (cv (k4 k (λv s1 k1=>cv (C8 (eQ k1))) λ_ _ z=>z))
end
end
section
open AutoSeq1 (wpAny_loadPart')
variable{Q:Value->aw->Prop}{items:Array Value}{e it:Addr}{i:Nat}
def ajT(a b:Value):avX "enumerate" ⟨[a],[("start",b)]⟩=pure ():=by kernel_rfl
def ajU(a b:Value):Pu "enumerate.__new__" ⟨[.type "enumerate",a],[("start",b)]⟩=pure ():=by kernel_rfl
def ajV(o a b:Value):argsOk "object.__init__" ⟨[o,a],[("start",b)]⟩:=by
 unfold argsOk;rw[signature?_of (id:="object.__init__") (n:=['_', '_', 't', 'i', 'n', 'i', '_', '_']) (o:=['t', 'c', 'e', 'j', 'b', 'o']) (by kernel_rfl) F.owner_object]
 kernel_rfl
def ajW(l:Addr)(items:Array Value)(n:Nat)(L9:Option Addr)(sl:Array (Option Value))(tk1:Tok):
  Meets (Builtin.«enumerate.__new__» ⟨[.type "enumerate", .ref l],[("start", .int 1 tk1)]⟩) (λ_ R s=>s.heap.get? l=some {cls:= .type "list",dict:=L9,data:= .seq items n,slots:=sl}/\
   R (.ok (.ret (.ref (s.heap.push {cls:= .type "list_iterator",data:= .fields #[.ref l, .int 0 0]}).objs.size)))
    {s with heap:=(s.heap.push {cls:= .type "list_iterator",data:= .fields #[.ref l, .int 0 0]}).push {cls:= .type "enumerate",data:= .fields #[.none, .bool false, .ref s.heap.objs.size,sF 1, .none, .none]}}):=
 .of_wp λprog w A R s h=>by
  obtain⟨hp,g,d,tk,os⟩:=s;obtain⟨hl,h⟩:=h;have aww:=sub_enumerate
  have iL:Heap.IsList (aw.heap ⟨hp,g,d,tk,os⟩) l items:=(aW _ hl rfl ⟨n,rfl⟩)
  wp_walk using Py hl
  refine wpAny_stack_any λst=>eQ ?_;split
  ·rename_i c _ _ _ _ _;cases(c==ZV "enumerate")
   ·wp_walk using Py hl,JB iL
    exact aq rfl h
   ·wp_walk using Py hl,JB iL
    exact aq rfl h
  ·wp_walk using Py hl,JB iL
   exact aq rfl h
section
variable{prog:Program}{w:a9}{A:cX}{E:Value->aw->Prop}{s:aw}
def ajY{T newId:String}{Bn:Builtin}{args:List Value}{kw:List (Str×Value)}{S:Spec}(ft:TypeCalled T newId "object.__init__")(nn:(some newId !=some "object.__new__")=true)
  (ct:avX T ⟨args,kw⟩=pure ()) (cn:Pu newId ⟨.type T::args,kw⟩=pure ()) (ao:∀obj,argsOk "object.__init__" ⟨obj::args,kw⟩) (en:entryFor table newId=some Bn) (g:Meets (Bn ⟨.type T::args,kw⟩) S)
  (k:S A.in1 (wants (λobj s1=>s1.TypeIs obj T/\Q obj s1) E) s):aM (aR prog w) A (mQ (.type T) args kw) Q E s:=by
 refine lh ft.mro λc tl awx=>?_;have awy:=ft.made
 have awz:=ft.sub;refine JJ (codeAny_of_tree ?_);show aM _ _ (callAny (.type T) _) _ _ _;refine eQ ⟨Code.quiet_builtin _ (by decide+kernel),codeAny_builtin F.entry_type_call ?_⟩;rw[cX.under_plain (weight_type_call_type T args kw) (units_type_call_type T args kw)];have f1:=ft.notType;have f2:=ft.canCreate
 repeat(any_goals (first|assumption|wp_step))
 refine sI (Pw ft.plain en (wpAny_of_eq cn (g prog w A.in1 _ s k))) λr s1 hr=>?_;cases r with
 |error e=>exact hr
 |ok fl=>
  cases fl with
  |ret obj=>
   obtain⟨oT,hq⟩:=hr;have fli:=ft.init.lookup
   have fbi:=ft.init.bind obj;have im:Meets (Builtin.«object.__init__» ⟨obj::args,kw⟩) (λ_ R s=>s.TypeIs obj T/\R (.ok (.ret .none)) s):=by
    refine Meets.of_wp λprog w A R s hs=>?_;obtain⟨hT,hq⟩:=hs;unfold Builtin.«object.__init__»;dsimp only;by_cases z:(!args.isEmpty||!kw.isEmpty)=true
    ·rw[if_pos z]
     repeat(any_goals (first|assumption|wp_step))
     exact aq rfl hq
    ·rw[if_neg z];exact eQ (aq rfl hq)
   repeat(any_goals (first|assumption|wp_step))
   refine sI (Pw ft.init.plain F.entry_object_init (ft.init.check _ _ _ _ _ _ _ _ oT (ao obj) (im prog w A.in1 _ s1 (⟨oT,(⟨rfl,hq⟩:(i9=i9)/\Q obj s1)⟩:_/\wants (λr s2=>r=i9/\Q obj s2) E (.ok (.ret .none)) s1)))) λr2 s2 rO=>?_;cases r2 with
   |error e=>exact rO
   |ok fl2=>
    cases fl2 with
    |ret r=>
     obtain⟨rfl,hq⟩:=rO
     repeat(any_goals (first|assumption|wp_step))
    |_=>exact rO.elim
  |_=>exact hr.elim
def aj0{l:Addr}{tk:Tok}(hL:s.heap.IsList l items)
  (k:∀h',Df h' (s.heap.objs.size+1) s.heap.objs.size 1 .none->h'.IsListIter s.heap.objs.size l 0->h'.objs.size=s.heap.objs.size+2->(∀b o,s.heap.get? b=some o->h'.get? b=some o)->Q (.ref (s.heap.objs.size+1)) {s with heap:=h'}):
  aM (aR prog w) A (mQ (.type "enumerate") [.ref l] [("start", .int 1 tk)]) Q E s:=by
 refine bc hL λbp hl hc ib=>?_;refine eE ib λn hd=>?_;obtain⟨c,L9,dt,sl⟩:=bp;obtain rfl:c= .type "list":=hc;obtain rfl:dt= .seq items n:=hd;refine ajY F.called_enumerate (by decide) (ajT _ _) (ajU _ _) (λo=>ajV o _ _) F.entry_enumerate_new (ajW l items n L9 sl tk) ⟨hl,?_⟩;have sz:(s.heap.push {cls:= .type "list_iterator",data:= .fields #[.ref l, .int 0 0]}).objs.size=s.heap.objs.size+1:=mR ..
 show _/\_;rw[sz];have he:Df ((s.heap.push {cls:= .type "list_iterator",data:= .fields #[.ref l, .int 0 0]}).push {cls:= .type "enumerate",data:= .fields #[.none, .bool false, .ref s.heap.objs.size,sF 1, .none, .none]}) (s.heap.objs.size+1) s.heap.objs.size 1 .none:=by have z:=h7 (s.heap.push {cls:= .type "list_iterator",data:= .fields #[.ref l, .int 0 0]}) (o:={cls:= .type "enumerate",data:= .fields #[.none, .bool false, .ref s.heap.objs.size,sF 1, .none, .none]}) rfl;rw[sz]at z;exact z
 exact⟨aq he rfl,k _ he (aW _ (fc _ (h7 _ rfl)) rfl rfl) (by rw[mR,sz]) λb o q=>fc _ (fc _ q)⟩
end
def aj1{prog:Program}{w:a9}{A:cX}(hh:A.handled=none)(it l:Addr)(ne:l≠it)(items:Array Value):
  Draws prog w A it [it,l] (items.size+1) (λj v=>∃i,j=i+1/\items[i]?=some v) (λj h=>∃i,j=i+1/\h.IsListIter it l i/\h.IsList l items)where
 live:=λ_ _ ⟨_,_,⟨o,ho,_⟩,_⟩=>⟨o,ho⟩
 frame:=λ_ _ _ Bs k=>bc Bs λi e a b=>aW i e (a.at λo q=>k it (by simp) o q) (b.at λo q=>k l (by simp) o q)
 item:=λj s Q E hj Bt k=>bc Bt λi e a b=>by
  have hi:i<items.size:=by lia
  exact wpAny_nextOf_list_item a b (x:=items[i]) (by simp[hi]) λh' a' sb=>k _ h' s.toks ⟨i,e,by simp[hi]⟩ ⟨i+1,by omega,a',b.extBut sb.extBut ne⟩ sb
 done:=λs Q E vX k=>bc vX λi e a b=>by
  obtain rfl:i=items.size:=by omega
  exact avY hh a b (by simp) k
section
variable{prog:Program}{w:a9}{A:cX}{E:Value->aw->Prop}{s:aw}
def aj2{l:Addr}{x old:Value}{Q:Option Value->aw->Prop}(hh:A.handled=none)(he:Df s.heap e it ((i+1:Nat):Int) old)(hit:s.heap.IsListIter it l i)(hl:s.heap.IsList l items)(hx:items[i]?=some x)(ne:e≠it)
  (k:∀h' tk,IsEnumOut h' e it (((i+1:Nat):Int)+1) x s.heap.objs.size->h'.IsListIter it l (i+1)->h'.get? s.heap.objs.size=some {cls:= .type "tuple",data:= .seq #[.int ((i+1:Nat):Int) tk,x]}->h'.objs.size=s.heap.objs.size+1->
   (∀b o,b≠e->b≠it->s.heap.get? b=some o->h'.get? b=some o)->Q (some (.ref s.heap.objs.size)) {s with heap:=h',toks:=tk+1}):aM (aR prog w) A (Jz (.ref e)) Q E s:=by
 have nl:l≠it:=by rintro rfl;refine bc hit λo ho _ hd=>?_;refine bc hl λo' g4 _ gF=>?_;refine eE gF λn jd=>?_;rw[ho]at g4;cases g4;rw[hd]at jd;cases jd
 have nel:e≠l:=by rintro rfl;refine bc hl λo' g4 _ gF=>?_;refine eE gF λn jd=>?_;rw[he]at g4;cases g4;cases jd
 have hi:i<items.size:=(JW.mp hx).1;refine wpAny_pyNext_enum_itemD (i:=i+1) (aj1 (A:=A.in1) hh it l nl items) he (aW i rfl hit hl) (by lia) ne (by simp[ne,nel]) λy h' tk vU a rL c d f=>ar vU λi' e' hy=>bc rL λi2 e2 b _=>?_;obtain rfl:i'=i:=by omega
 obtain rfl:i2=i'+1:=by omega
 rw[hx]at hy;cases hy;exact k h' tk a b c d f
def aj4(hh:A.handled=none)(it l:Addr)(i:Nat)(hx:items[i]?=none):
  Draws prog w A it [it,l] (i+1) (λ_ _=>True) (λj h=>j=i+1/\h.IsListIter it l i/\h.IsList l items)where
 live:=λ_ _ ⟨_,⟨o,ho,_⟩,_⟩=>⟨o,ho⟩
 frame:=λ_ _ _ Bp k=>cT Bp λe a b=>b8 e (a.at λo q=>k it (by simp) o q) (b.at λo q=>k l (by simp) o q)
 item:=λj s Q E hj Aq k=>eA Aq λe _=>by lia
 done:=λs Q E vV k=>cT vV λ_ a b=>avY hh a b hx k
def aj5{l:Addr}{c:Int}{old:Value}{Q:Option Value->aw->Prop}(hh:A.handled=none)(he:Df s.heap e it c old)(hit:s.heap.IsListIter it l i)(hl:s.heap.IsList l items)(hx:items[i]?=none)
 (k:∀h',Heap.ExtBut it s.heap h'->Q none {s with heap:=h'}):aM (aR prog w) A (Jz (.ref e)) Q E s:=wpAny_pyNext_enum_endD (aj4 (A:=A.in1) hh it l i hx) he (b8 rfl hit hl) k
end
end
end L2
namespace L2
open PySem PySem.Spec PyProof.Rows
section
variable{P:Program}{w:a9}{H:Hp}{h:Heap}{x C a:Addr}{d:Option Addr}{vs:Array Value}{K:aV}{o:HO}{ta:TE}{pos:Pos}{e:bf}
def XO(x C:Addr)(d:Option Addr)(vs:Array Value):Heap->Prop:=λh=>h.get? x=some (iq C d vs)
def L_(e:h.get? x=some (iq C d vs)):d9 P w H h x (.ext (XO x C d vs)):=
 (b8 e ⟨_,e⟩ λ_ _ a k=>k _ a)
def By(ok:dy P w H h)(e:H x=some (.ext (XO x C d vs))):h.get? x=some (iq C d vs):=(ok x _ e).1
def aj6{N:Addr}{m:Str->Option Value}{n:Str}{v:Value}(X:K.In h)(G:h.Ns N m)(e:k7 K N n=some (some v)):m n=some v:=by
 refine bR G λob es ep mr gG gJ=>?_;refine eA gJ λ_ hfb=>?_;unfold k7 at e;split at e
 ·rename_i c d es2 n2 sl q;have z:=X _ _ q
  rw[mr]at z;cases z;cases gG;split at e
  ·rename_i en E6;cases e;rw[<-hfb];unfold nsFind findBy;rw[<-auR,E6];rfl
  ·split at e<;>cases e
 ·cases e
def ue.here{fI:Addr}{f:Str}(c:ue K C fI f)(X:K.In h):nB h C fI f:=by
 refine dS c.ex λN nm q bs sn sub gJ=>?_;refine dS gJ λab col dd k0 k1 k2 mq=>?_;refine iE mq λk3 k5 e ok e1 e2 rN=>?_;refine cT rN λe3 e4 e5=>?_;have G:h.Ns N (h.nsMap N):= .of_isNs (PySem.W.isNs_of_in X ok)
 exact⟨N,nm,q,bs,sn,sub,ab,col,dd,k0,k1,k2,k3,k5,_,X _ _ e,G,aj6 X G e1,Pz X G e2,Pz X G e3,Pz X G e4,Pz X G e5⟩
def d9.there(x:d9 P w H h a o):∃u,h.get? a=some u:=by
 cases o with
 |lst xs=>refine pK x λ_ _ _ _ e=>?_;exact⟨_,e⟩
 |tup xs=>refine iD x λ_ _ _ gJ=>?_;refine ar gJ λo e _=>?_;exact⟨_,e⟩
 |dK kvs=>refine mU x λ_ _ _ _ o _ _ e _=>?_;exact⟨_,e⟩
 |dT kvs=>refine mU x λ_ _ _ _ o _ _ e _=>?_;exact⟨_,e⟩
 |set S n=>refine fR x λo _ _ _ e _=>?_;exact⟨_,e⟩
 |ins C dx fs=>refine fi x λ_ _ _ e _=>?_;exact⟨_,e⟩
 |own y=>exact x
 |xd fs=>refine ar x λ_ bp _=>?_;obtain⟨_,_,_,e,_⟩:=bp;exact⟨_,e⟩
 |rn lo hi=>refine lh x λ_ _ ib=>?_;refine eE ib λ_ e=>?_;exact⟨_,e⟩
 |eG ob u=>exact⟨_,x.1⟩
 |tF ps=>exact⟨_,x⟩
 |met f y=>exact⟨_,x⟩
 |ext φ=>exact x.2.1
def dy.no(x:dy P w H h)(e:h.get? a=none):H a=none:=by
 cases q:H a with
 |none=>rfl
 |some u=>
  obtain⟨o,z⟩:=(x a u q).there;rw[e]at z;cases z
section
variable{X:Cx}{aa:List (Addr×Obj)}{σ:St}{H:Hp}{s:aw}{h':Heap}
def ak.aj8{t':Nat}(I:ak X aa σ H s)(k:∀b u,s.heap.get? b=some u->h'.get? b=some u)(hp:s.heap.get? a=none)(new:d9 X.prog X.w (upd H a o) h' a o):
  ak X aa σ (upd H a o) {s with heap:=h',toks:=t'}:=by
 have hn:=I.aG.no hp;have nb:∀b u,s.heap.get? b=some u->b≠a:=λb u q z=>by rw[z,hp]at q;cases q
 refine I.un ⟨λb u q _ _ _=>k b u q,λb u q _ _ _=>⟨u.slots,k b u q⟩,λb u q n _=>by rw[aj (nb b u q)];exact n,λb u q _=>⟨u,k b u q⟩,λb xs q=>by rw[aj (bL q hn)];exact q,λb u xs q=>by rw[aj (bL q hn)];exact q,λb ps q=>⟨#[],by rw[aj (bL q hn),q];simp⟩⟩ λb u q=>?_;by_cases hb:b=a
 ·subst hb;rw[ag]at q;cases q;exact new
 ·rw[aj hb]at q;exact(I.aG b u q).gY (λc v _ z=>k c v z) (λc z=>by rw[aj (bL z hn)];exact z) λc xs z=>by rw[aj (bL z hn)];exact z
def ak.T1{M:zK}{E:Value->aw->Prop}{Q:Unit->aw->Prop}(I:ak X aa σ H s)(kD:X.stack=X.env::X.outer)(Ma:X.env.frame=some X.env.locals)(hx:H x=some (.ext (XO x C d vs)))
  (hd:vs[1]?=some .none\/∃T oT ts,vs[1]?=some (.ref T)/\s.heap.get? T=some oT/\oT.data= .fields ts/\ts[3]?=some .none/\H T=none/\X.gZ.heap.objs.size<=T/\∀p∈X.pn++aa,p.1≠T)
  (k:∀s' fT T oT ts,ak X aa σ (upd H x (.ext (XO x C d fT))) s'->fT[1]?=some (.ref T)->s'.heap.get? T=some oT->oT.data= .fields ts->ts[3]?=some .none->upd H x (.ext (XO x C d fT)) T=none->X.gZ.heap.objs.size<=T->T≠x->Q () s'):
  aM M X.A (JR (.ref x) X.env) (λ_ s'=>aM M X.A (JV (.ref x) none) Q E s') E s:=by
 have mr:=By I.aG hx;obtain⟨ch,lx,hT⟩:∃ch:List Addr,(∀b∈ch,H b=none/\(∃ob zs,s.heap.get? b=some ob/\ob.data= .fields zs)/\X.gZ.heap.objs.size<=b/\∀p∈X.pn++aa,p.1≠b)/\
   (vs[1]?=some .none\/∃T oT ts,T∈ch/\vs[1]?=some (.ref T)/\s.heap.get? T=some oT/\oT.data= .fields ts/\ts[3]?=some .none):=by
  rcases hd with e|⟨T,oT,ts,e1,e2,e3,e4,e5,e6,e7⟩
  ·exact aF [] (λb z=>absurd z (by simp)) (.inl e)
  ·refine aF [T] (λb z=>?_) (.inr (iC T oT ts (by simp) e1 e2 e3 e4));obtain rfl:b=T:=by simpa using z
   exact pH e5 (cD oT ts e2 e3) e6 e7
 have tX:X.A.frames=some (X.env::X.outer):=by rw[<-kD];exact I.ok.frames
 have EY:ic X.stack=(X.env::X.outer).filterMap (·.frame):=by rw[kD];rfl
 have T2:=I.stack;rw[kD]at T2;have free:=I.KH;generalize hB:auw s.heap (x::(ch++ic X.stack))=B;have ff:s.heap.FunFrames B (X.env::X.outer):=by rw[<-hB];exact PySem.W.funFrames_hide T2 λenv he a ha=>dn _ (iz _ (by rw[EY];exact CT.mpr (aF env he ha)))
 have inB:∀b o,b≠x->b∉ch->b∉ic X.stack->s.heap.get? b=some o->B.get? b=some o:=λb o n1 n2 n3 q=>by
  rw[<-hB];refine auy _ q λz=>?_;rcases cu.mp z with z|z
  ·exact n1 z
  ·rcases eO.mp z with z|z
   ·exact n2 z
   ·exact n3 z
 have nx:∀b,H b=none->b≠x:=λb n z=>by rw[z,hx]at n;cases n
 refine ajG (B:=B) (oe:=iq C d vs) tX ff Ma mr rfl (λb o q=>by rw[<-hB]at q;exact auz _ q) (by rw[<-hB];exact ZY _ pE) ?_ λh' F=>?_
 ·rcases hT with e|⟨T,oT,ts,m,e1,e2,e3,e4⟩
  ·exact .inl e
  ·exact .inr ⟨T,oT,ts,e1,by rw[<-hB];exact ZY _ (dn _ (hZ _ m)),nx T (lx T m).1,e2,e3,e4⟩
 ·refine ox F.ob λfT T' L8 Bv a1 a2 a3 a4 a5 ib=>?_;refine cT ib λa6 a7 a8=>?_;have keep:∀b o,b≠x->b∉ic X.stack->b∉ch->s.heap.get? b=some o->h'.get? b=some o:=λb o n1 n2 n3 q=>F.st b o (inB b o n1 n3 n2 q)
  have slot:∀b o,b∈ic X.stack->s.heap.get? b=some o->∃sl,h'.get? b=some {o with slots:=sl}:=λb o m q=>F.sl b o (by rw[<-EY];exact m) q;have un:Un (ic X.stack) ch H (upd H x (.ext (XO x C d fT))) s.heap h':=by
   refine⟨λb o q n hb hc=>keep b o (nx b n) hb hc q,λb o q _ hb _=>slot b o hb q,λb o q n _=>by rw[aj (nx b n)];exact n,λb o q hc=>?_,λb xs q=>?_,λb o u q=>?_,λb ps q=>?_⟩
   ·by_cases e:b=x
    ·exact⟨_,by rw[e];exact a1⟩
    ·by_cases hb:b∈ic X.stack
     ·obtain⟨sl,z⟩:=slot b o hb q;exact⟨_,z⟩
     ·exact⟨_,keep b o e hb hc q⟩
   ·rw[aj (gE q hx (by intro z;cases z))];exact q
   ·rw[aj (gE q hx (by intro z;cases z))];exact q
   ·exact⟨#[],by rw[aj (gE q hx (by intro z;cases z)),q];simp⟩
  have aG:dy X.prog X.w (upd H x (.ext (XO x C d fT))) h':=λb u q=>by
   by_cases hb:b=x
   ·subst hb;rw[ag]at q;cases q;exact L_ a1
   ·rw[aj hb]at q;have tr:∀c o,H c=some o->c≠x->∀v,s.heap.get? c=some v->h'.get? c=some v:=λc o hc nc v z=>keep c v nc (λm=>by rw[free c m]at hc;cases hc) (λm=>by rw[(lx c m).1]at hc;cases hc) z
    refine(I.aG b u q).gY (λc v hc z=>?_) (λc z=>by rw[aj (gE z hx (by intro y;cases y))];exact z) λc xs z=>by rw[aj (gE z hx (by intro y;cases y))];exact z
    rcases hc with rfl|hc
    ·exact tr c u q hb v z
    ·exact tr c _ hc (gE hc hx (by intro y;cases y)) v z
  have J:=I.KL (s':={s with heap:=h'}) rfl un aG I.bare λb m=>by
   refine fz (lx b m) λc1 bA c4 c5=>?_;obtain⟨ob,zs,c2,c3⟩:=bA;refine pH (.inr c4) (λz=>?_) (λy c hc z=>?_) c5
   ·refine ar I.loc λmm bX _=>?_;obtain⟨oL,es,ep,hL,dL,_⟩:=bX;rw[z,hL]at c2;cases c2;rw[dL]at c3;cases c3
   ·refine bZ (I.cell y c hc) λv oc Au dc=>?_;rw[z,c2]at Au;cases Au;rw[c3]at dc;cases dc
  refine k _ fT T' L8 Bv J a2 a5 a6 a7 ?_ (i8 I.sz a8) a4;rw[aj a4];exact I.aG.fresh a8
end
def o8(P:Program)(w:a9)(C:Addr):ly:=λouter H s E e s'=>∃x dx vs T oT ts H',e= .ref x/\s'.os=s.os/\uL s'.gens/\Un (ic outer) [] H H' s.heap s'.heap/\dy P w H' s'.heap/\H' x=some (.ext (XO x C (some dx) vs))/\
 vs[1]?=some (.ref T)/\s'.heap.get? T=some oT/\oT.data= .fields ts/\ts[3]?=some .none/\H' T=none/\s.heap.objs.size<=T/\T≠x/\E (.ref x) (some dx) H'
section
variable{P:Program}{w:a9}{K:aV}{mg:Str->Option Value}{base:Heap}
def mn.okX{x qual:Str}{st:Stmt}{f:Addr}{fd:bg}{N ps:List Str}{k:Nat}{sp:Sp}{CX:ly}(F:mn K x qual st f fd)(S:bE N ps (aU st))(len:∀vs H Q E,sp vs H Q E->vs.length=ps.length)
  (vK:∀(aK:Value)(A:cX)(outer:List Env)(s:aw)(H:Hp)(vs:List V)(Q:VK)(E:XK),eJ k (A.deeper (qV qual (aU st) s.heap.objs.size f aK))->sp vs H Q E->
   ∃t,jW (jX CX P w K mg base N qual (aU st) f aK A outer s H E) (iX st) t/\t {nx:=λ_ H'=>Q .aL H',rt:=Q} (start N vs) H):aZ P w K mg base CX (k+1) f fd ps sp:=by
 refine dS F.ex λoc od kV doc pm an gF=>?_;refine bR gF λaK ct l_ cA lk oG=>?_;obtain rfl:=cA;exact Se lk oG S len λA outer s H vs Q E hr md=>vK aK A outer s H vs Q E hr md
def T4(C:Addr)(f:Str):Sp:=λvs H Q _=>∃x v zs,vs=[.ref x,v]/\H x=some (.ext (XO x C none zs))/\∀dx,H dx=none->dx≠x->Q .aL (upd (upd H dx (.xd [(f,v)])) x (.ext (XO x C (some dx) zs)))
end
section
variable{X:Cx}{C fI:Addr}{f:Str}
def sXF(C:Addr)(f:Str)(ta tv:TE):TS:=λD σ H=>tv σ H λy H1=>ta σ H1 λo H2=>∃x zs,o= .ref x/\H2 x=some (.ext (XO x C none zs))/\∀dx,H2 dx=none->dx≠x->D.nx σ (upd (upd H2 dx (.xd [(f,y)])) x (.ext (XO x C (some dx) zs)))
def akb{o value:bf}{tv:TE}{pos':Pos}(c:ue X.K C fI f)(hB:om (.type "Exception") f=pure none)(ha:PE X o ta)(hv:PE X value tv)(hs:sE value (some (.Attribute o f pos')) pos.line X.env=pure false):
  PS X (.Assign [.Attribute o f pos'] value pos) (sXF C f ta tv):=by
 intro aa s σ H D I h;refine auX (aI (hv aa s σ H _ I h) λu s1 vU=>bb vU λy H1 I1 ry q=>aI (ha aa s1 σ H1 _ I1 q) λov s2 ⟨o',H2,I2,rx,x,zs,ex,ea,q2⟩=>?_) hs;subst ex;obtain rfl:ov=c9 x:=rx;have mr:=By I2.aG ea
 have XI:=c.here I2.fW;obtain⟨hp,g,d,t,os⟩:=s2;refine ajP XI hB mr λh' tk e1 e2 e3=>?_;have nd:H2 hp.objs.size=none:=I2.aG.fresh (aX _);have bO:hp.objs.size≠x:=λz=>by rw[z,ea]at nd;cases nd
 refine cD σ _ ?_ (q2 hp.objs.size nd bO);have nb:∀b u,H2 b=some u->b≠hp.objs.size:=λb u q z=>by rw[z,nd]at q;cases q
 refine I2.un (h':=h') (t':=tk) ⟨λb o q n _ _=>e3 b o (λz=>by rw[z,ea]at n;cases n) q,λb o q n _ _=>⟨o.slots,e3 b o (λz=>by rw[z,ea]at n;cases n) q⟩,λb o q n _=>?_,λb o q _=>?_,λb xs q=>?_,λb o u q=>?_,λb ps q=>?_⟩ λb w q=>?_
 ·rw[aj (λz=>by rw[z,ea]at n;cases n),aj (gQ (cR q))];exact n
 ·by_cases hb:b=x
  ·exact⟨_,by rw[hb];exact e1⟩
  ·exact⟨o,e3 b o hb q⟩
 ·rw[aj (gE q ea (by intro z;cases z)),aj (nb b _ q)];exact q
 ·rw[aj (gE q ea (by intro z;cases z)),aj (nb b _ q)];exact q
 ·exact⟨#[],by rw[aj (gE q ea (by intro z;cases z)),aj (nb b _ q),q];simp⟩
 ·by_cases hb:b=x
  ·subst hb;rw[ag]at q;cases q;exact L_ e1
  ·rw[aj hb]at q;by_cases jh:b=hp.objs.size
   ·subst jh;rw[ag]at q;cases q;refine aq e2 λg=>?_;by_cases hg:g=f
    ·subst hg;simp only[qT,beq_self_eq_true,if_true];exact ry
    ·have hg':(g==f)=false:=by simpa using hg
     simp only[qT,hg',hg,if_false];trivial
   ·rw[aj jh]at q;refine(I2.aG b w q).gY (λc' v hc z=>e3 c' v ?_ z) (λc' z=>?_) λc' xs z=>?_
    ·rcases hc with rfl|hc
     ·exact hb
     ·exact gE hc ea (by intro z;cases z)
    ·rw[aj (gE z ea (by intro y;cases y)),aj (nb _ _ z)];exact z
    ·rw[aj (gE z ea (by intro y;cases y)),aj (nb _ _ z)];exact z
def akd{v:V}{u:Value}(r:bC v u):aaB u=pure u:=by
 cases v with
 |aL=>cases r;rfl
 |bl _=>cases r;rfl
 |int _=>obtain⟨t,rfl⟩:=r;rfl
 |str _=>obtain⟨t,rfl⟩:=r;rfl
 |lr _=>obtain⟨t,rfl⟩:=r;rfl
 |yl _=>obtain⟨t,rfl⟩:=r;rfl
 |ref _=>cases r;rfl
 |ty _=>cases r;rfl
def tXF(C:Addr)(f:Str)(ta:TE):TE:=λσ H Q=>ta σ H λo H1=>∃x dx zs u,o= .ref x/\H1 x=some (.ext (XO x C (some dx) zs))/\H1 dx=some (.xd [(f,u)])/\Q u H1
def akf(c:ue X.K C fI f)(hB:om (.type "Exception") f=pure none)(he:PE X e ta)(hb:mS e f X.env (eval e X.env)=eval e X.env):PE X (.Attribute e f pos) (tXF C f ta):=by
 intro aa s σ H Q I h;refine R3 hb (aI (he aa s σ H _ I h) λu s1 ⟨o,H1,I1,rx,x,dx,zs,v,ex,ea,ed,q⟩=>?_);subst ex;obtain rfl:u=c9 x:=rx;refine ar (show d9 X.prog X.w H1 s1.heap dx (.xd [(f,v)]) from I1.aG dx _ ed) λmA jb rel=>?_;refine ar (jU.some_of (v:=v) (o:=mA f) (by have:=rel f;simpa[qT]using this)) λu hu ru=>?_;have mr:=By I1.aG ea
 have XI:=c.here I1.fW;have J:=I1.tok (s1.toks+1);obtain⟨hp,g,d,t,os⟩:=s1;exact ajL XI hB mr jb hu (akd ru) (aB v H1 J ru q)
end
section
variable{P:Program}{w:a9}{K:aV}{mg:Str->Option Value}{base:Heap}{N:List Str}{qual:Str}{scope:Scope}{fa:Addr}{cd:Value}{A:cX}{outer:List Env}{s0:aw}{H0:Hp}{E:XK}{C fI:Addr}{f:Str}{k j:Nat}{fd:bg}
def akg(C:Addr)(f:Str)(E:XK)(te:TE):TS:=λ_ σ H=>l9 te m_ σ H λus H1=>∃v,us=[v]/\∀x dx vs,H1 x=none->H1 dx=none->dx≠x->E (.ref x) (some dx) (upd (upd H1 dx (.xd [(f,v)])) x (.ext (XO x C (some dx) vs)))
def akh{K:aV}(X:K.In h)(e:JL K (.ref a)=true):∃o,h.get? a=some o/\o.cls= .type "function":=by
 have q:Option.map (λo:Obj=>o.cls) (K.lookup a)=some (.type "function"):=beq_iff_eq.mp e;cases l:K.lookup a with
 |none=>rw[l]at q;simp at q
 |some o=>rw[l]at q;exact⟨o,X _ _ l,by simpa using q⟩
def T5{x self:Str}{te:TE}{np c7:Pos}(c:ue K C fI f)(F:aZ P w K mg base bu k fI fd [self,f] (T4 C f))(hb:lz K fd [self,f] [])
  (hr:eJ j (jX (o8 P w C) P w K mg base N qual scope fa cd A outer s0 H0 E).A) (hm:mg x=some (.ref C)) (he:PE (jX (o8 P w C) P w K mg base N qual scope fa cd A outer s0 H0 E) e te)
  (hg:Gl (jX (o8 P w C) P w K mg base N qual scope fa cd A outer s0 H0 E) x:=by rfl) (hkj:k+1<=j:=by decide) (gG:(x==("__debug__":Str))=false:=by decide)
  (hs:cJ [e] (jX (o8 P w C) P w K mg base N qual scope fa cd A outer s0 H0 E).env=[(false,eval e (jX (o8 P w C) P w K mg base N qual scope fa cd A outer s0 H0 E).env)]:=by rfl):
  PS (jX (o8 P w C) P w K mg base N qual scope fa cd A outer s0 H0 E) (.Raise (some (.Call (.Name x np) [e] [] c7)) none pos) (akg C f E te):=by
 intro aa s σ H D I h;refine ajS (C:=C) (fI:=fI) (f:=f) hr.hd (xT (vz I hg hm ?_ gG));refine JK (h₀:=base) I.ok.mod.vx c.kp (aI (ae he az hs c7 aa s σ H _ I h) λus s1 rL=>bb rL λvs H1 I1 r q=>⟨I1.fW,?_⟩) hs rfl;obtain⟨v,rfl,q⟩:=q;obtain⟨u,rfl,ru⟩:=l7 r;obtain⟨oI,hoI,coI⟩:=akh I1.fW c.fn;obtain⟨CN,cnm,cq,cbs,csn,ako,tI,akp,cdd,k0,k1,k2,k3,k5,cm,hC,hN,hi,_⟩:=c.here I1.fW;have km:=hr.mono hkj
 obtain⟨hp,gg,dd,tk,os⟩:=s1;refine wpAny_call_exc_init (rest:=[u]) Pt hC hN hi hoI coI (λh' z E7=>?_) (by show 1<=sizeLine;decide);obtain⟨t0,hz,_,_⟩:=E7.there;have nz:H1 z=none:=I1.aG.no E7.new
 have I2:=I1.aj8 (t':=tk) E7.keeps E7.new (L_ (P:=P) (w:=w) (H:=upd H1 z (.ext (XO z C none #[.ref t0, .none, .none, .none, .bool false, .none]))) hz);have y2:=hb ⟨h',gg,dd,tk,os⟩ [.ref z,u] I2.fW rfl;refine JJ (sI (F.run _ (jX (o8 P w C) P w K mg base N qual scope fa cd A outer s0 H0 E).stack ⟨h',gg,dd,tk,os⟩ _ ⟨[.ref z,u],[]⟩ [.ref z,u] [.ref z,v] (λr3 H3=>r3= .aL/\∃dx,H3=upd (upd (upd H1 z (.ext (XO z C none #[.ref t0, .none, .none, .none, .bool false, .none]))) dx (.xd [(f,v)])) z (.ext (XO z C (some dx) #[.ref t0, .none, .none, .none, .bool false, .none]))/\H1 dx=none/\dx≠z) E0 (km.make C [u] []) (I2.Er.make C [u] []) y2 (.cons rfl (.cons ru .nil)) ⟨z,v,_,rfl,ag,λdx bO nE=>⟨rfl,dx,rfl,by rw[aj nE]at bO;exact bO,nE⟩⟩) λres s' hq=>?_)
 cases res with
 |error e=>exact iA hq
 |ok fl=>
  cases fl with
  |next=>exact iA hq
  |brk=>exact iA hq
  |cont=>exact iA hq
  |ret u3=>
   obtain⟨v3,H3,I3,rv3,rfl,dx,rfl,bO,nE⟩:=I2.after hq;obtain rfl:u3=i9:=rv3;refine⟨rfl,z,some dx,_,rfl,c.here I3.fW,By I3.aG ag,rfl,?_⟩;show aM (aR P w) _ (aaf (jX (o8 P w C) P w K mg base N qual scope fa cd A outer s0 H0 E).env (.ref z)) (λ_ AK=>o8 P w C outer H0 s0 E (.ref z) AK) _ s';unfold aaf;refine cv (I3.T1 rfl rfl ag (.inl rfl) λs4 fT T oT ts I4 b1 b2 b3 b4 b5 b6 b7=>?_);refine⟨z,dx,fT,T,oT,ts,_,rfl,I4.os,I4.bare,I4.base,I4.aG,ag,b1,b2,b3,b4,b5,b6,b7,?_⟩;have eH:upd (upd (upd (upd H1 z (.ext (XO z C none #[.ref t0, .none, .none, .none, .bool false, .none]))) dx (.xd [(f,v)])) z (.ext (XO z C (some dx) #[.ref t0, .none, .none, .none, .bool false, .none]))) z (.ext (XO z C (some dx) fT))=upd (upd H1 dx (.xd [(f,v)])) z (.ext (XO z C (some dx) fT)):=by
    funext y;by_cases hy:y=z
    ·subst hy;rw[ag,ag]
    ·rw[aj hy,aj hy,aj hy];by_cases Mb:y=dx
     ·subst Mb;rw[ag,ag]
     ·rw[aj Mb,aj Mb,aj hy]
   rw[eH];exact q z dx fT nz bO nE
end
end
section
variable{pos kE:Pos}{elts:List bf}{kk:Nat}
section
variable{X:Cx}{aa:List (Addr×Obj)}{σ:St}{H:Hp}{s:aw}
def ak.aks{h':Heap}{m:Str->Option Value}{t':Nat}(I:ak X aa σ H s)(hn:h'.Ns X.env.locals m)(sb:Jv X.env.locals s.heap h'):ak X aa (cW X.N.length none) H {s with heap:=h',toks:=t'}:=by
 have yu:∀b o,X.gZ.heap.get? b=some o->b≠X.env.locals:=λb o e=>gQ (eP (cR e) I.ok.above);have vw:∀b o,H b=some o->b≠X.env.locals:=λb o e z=>by rw[z,I.free]at e;cases e
 refine⟨I.ok,I.os,I.bare,⟨λb o e n hb hx=>(sb.2 b (yu b o e)).trans (I.base.keep b o e n hb hx),λb o e n hb hx=>?_,I.base.free,λb o e hx=>?_,I.base.mX,I.base.lu,I.base.mY⟩,aF m hn λi x v e1 e2=>?_,λx c e=>?_,I.free,I.jV,λp hp=>?_,λb o e=>?_,by simp⟩
 ·obtain⟨sl,q⟩:=I.base.slot b o e n hb hx;exact⟨sl,(sb.2 b (yu b o e)).trans q⟩
 ·obtain⟨o',q⟩:=I.base.there b o e hx;exact⟨o',(sb.2 b (yu b o e)).trans q⟩
 ·rw[qO]at e2;split at e2<;>cases e2
 ·obtain⟨v,z⟩:=I.cell x c e;exact⟨v,z.sameBut sb (I.tJ x c e)⟩
 ·refine fi (I.pin p hp) λe n ne nf d=>?_;exact k9 ((sb.2 p.1 ne).trans e) n ne nf d
 ·refine(I.aG b o e).gY (λc u hc q=>(sb.2 c ?_).trans q) (λ_ q=>q) λ_ _ q=>q;rcases hc with rfl|hc
  ·exact vw c o e
  ·exact vw c _ hc
abbrev Cx.vY(X:Cx)(e:Value):Cx:={X with A:=X.A.mark (some e),calm:=false,xe:=λ_ _=>False}
theorem ak.vY(I:ak X aa σ H s)(e:Value):ak (X.vY e) aa σ H s:=
 ⟨⟨I.ok.mod,I.ok.kind,I.ok.glob,I.ok.blt,I.ok.above,I.ok.inj,I.ok.has,I.ok.tI,λz=>(nomatch z),I.ok.frames,I.ok.Ao,I.ok.Ap,I.ok.bs,I.ok.mZ,I.ok.yr,I.ok.yt,I.ok.kz,I.ok.m3⟩,I.os,I.bare,I.base,I.loc,I.cell,I.free,I.jV,I.pin,I.aG,I.len⟩
def ak.uncaught{e:Value}(ok:X.Ok)(I:ak (X.vY e) aa σ H s):ak X aa σ H s:=⟨ok,I.os,I.bare,I.base,I.loc,I.cell,I.free,I.jV,I.pin,I.aG,I.len⟩
def akt(C:Addr)(sp:Sp)(i j:Nat)(t:TA)(ts:TS):TS:=λD σ H=>t σ H λvs H1=>sp vs H1 (λv H2=>D.nx (σ.set i (some v)) H2) λe d H2=>∃x dx,e= .ref x/\d=some dx/\∀vs,H2 x=some (.ext (XO x C (some dx) vs))->∀fT,
 ts {nx:=λ_ _=>False,bk:=λ_ _=>False,ct:=λ_ _=>False,rt:=D.rt} (σ.set j (some (.ref x))) (upd H2 x (.ext (XO x C (some dx) fT)))
def aku{C fI g:Addr}{f:Str}{k k':Nat}{fd:bg}{ps:List Str}{sp:Sp}{y n x gx:Str}{a:bf}{ta:TE}{ts:TS}{b0:Stmt}{Mc:List Stmt}{yp gp c7 apos np vZ:Pos}(i j:Nat)
  (kD:X.stack=X.env::X.outer) (Ma:X.env.frame=some X.env.locals) (c:ue X.K C fI f) (F:aZ X.prog X.w X.K X.mg X.base (o8 X.prog X.w C) k g fd ps sp) (hr:eJ k' X.A) (Bz:X.mg gx=some (.ref g)) (hkg:qU X.K (.ref g)=true) (hb:lz X.K fd ps [])
  (hmx:X.mg x=some (.ref C)) (hN:X.N.Nodup) (ha:∀W,PE (X.m4 W) a ta) (hs:∀e,jW (X.vY e) (b0::Mc) ts)
  (hgg:Gl X gx:=by rfl) (jP:Gl X x:=by rfl) (hi:X.N[i]?=some y:=by rfl) (hy:X.env.scope.names.lookup y=some .local:=by rfl) (hj:X.N[j]?=some n:=by rfl) (hn:X.env.scope.names.lookup n=some .local:=by rfl) (Md:k<=k':=by decide)
  (T6:cJ [a] X.env=[(false,eval a X.env)]:=by rfl) (LC:sE (.Call (.Name gx gp) [a] [] c7) (some (.Name y yp)) apos.line X.env=pure false:=by rfl)
  (E8:(gx==("__debug__":Str))=false:=by decide) (Me:(x==("__debug__":Str))=false:=by decide):
  PS X (.Try [.Assign [.Name y yp] (.Call (.Name gx gp) [a] [] c7) apos] [.ExceptHandler (some (.Name x np)) (some n) (b0::Mc) vZ] [] [] pos) (akt C sp i j (l9 ta m_) ts):=by
 intro aa s σ H D I h;refine wpAny_Try_except (Z3 (auJ (xT (vz I hgg Bz ?_ E8)) LC));generalize hW:(λ(e:Value)(s1:aw)=>aM (aR X.prog X.w) X.A (JR e X.env) (λ_ s2=>aM (aR X.prog X.w) X.A (JV e none) (λ_ s3=>aM (aR X.prog X.w) X.A (handleBy e X.env [.ExceptHandler (some (.Name x np)) (some n) (b0::Mc) vZ]) (SP X aa D) X.xe s3) X.xe s2) X.xe s1)=W;refine JK (h₀:=X.base) I.ok.mod.vx hkg (aI (ae (ha W) az T6 c7 aa s σ H _ (I.m4 W) h) λus s1 l4=>bb l4 λvs H1 I1 r q=>⟨I1.fW,?_⟩) T6 rfl;have hl:us.length=ps.length:=by rw[<-r.length];exact F.len _ _ _ _ q
 have y2:=hb s1 us I1.fW (by rw[qR];exact hl);rw[qR]at y2;refine JJ (sI (F.run X.A X.stack s1 H1 ⟨us,[]⟩ us vs _ _ (hr.mono Md) I1.oH.Er y2 r q) λres s2 hq=>?_);cases res with
 |ok fl=>
  cases fl with
  |next=>exact iA hq
  |brk=>exact iA hq
  |cont=>exact iA hq
  |ret u=>
   refine bb (I1.oH.after hq) λv H2 I2 rv q2=>?_;exact Av I2 hN hi (.inl hy) rv (λs3 I3=>C6 (C6 (cD _ H2 I3 q2))) (.inr hy)
 |error e=>
  refine oy hq λz dx zs T oT Bv H2 bA c0=>?_;refine pJ c0 λos2 akz un2 akB hz a1 rP=>?_;refine pJ rP λa2 a3 a4 a5 a6 a7 akC=>?_;refine bb akC λz' kH ez ed q2=>?_;obtain rfl:=bA;cases ez;cases ed;have q2:=q2 zs hz
  have I2:ak X aa σ H2 s2:=I1.oH.KL os2 un2 akB akz λb hb=>absurd hb (by simp);show W (.ref z) s2;rw[<-hW];refine I2.T1 kD Ma hz (.inr (u6 T oT Bv a1 a2 a3 a4 a5 (i8 I1.sz a6) λp hp=>?_)) λs3 Mf T3 oT3 ts3 I3 b1 b2 b3 b4 b5 b6 b7=>?_
  ·intro e;obtain⟨h1,_⟩:=I1.pin p hp;exact absurd (cR h1) (by rw[e];exact Nat.not_lt.mpr a6)
  ·have q3:=q2 Mf;generalize SH:upd H2 z (.ext (XO z C (some dx) Mf))=H3 at I3 q3 b5;have hz3:H3 z=some (.ext (XO z C (some dx) Mf)):=by rw[<-SH,ag]
   have J:=I3.vY (.ref z);refine wpAny_handleBy_cons (codeAny_handlers_test (vz (X:=X.vY (.ref z)) J jP hmx ?_ Me)) (by intro q;cases q);have mr:=By I3.aG hz3;refine dS (c.here I3.fW) λCN cnm cq cbs csn ako c0=>?_;refine dS c0 λtI akp cdd k0 k1 k2 rP=>?_;refine gb rP λk3 k5 cm hC _=>?_;obtain⟨hp,gg,dd,tk,os⟩:=s3;refine wpAny_excMatches_sub_self hC mr rfl rfl (codeAny_handlers_suite_as ?_);refine wpAny_setFlight_none mr rfl b1 b2 b3 (JW.mp b4).1 ?_;rw[Heap.update_setField_same _ T3 oT3 ts3 3 .none b2 b3 b4];refine Av (X:=X.vY (.ref z)) J hN hj (.inl hn) (v:= .ref z) rfl (λs4 I4=>?_) (.inr hn);refine k4 (hs (.ref z) aa s4 _ H3 _ I4 q3) (λfl s5 z5=>?_) λ_ _ z5=>z5.elim;cases fl with
   |next=>refine bZ z5 λ_ _ _ z5=>?_;exact z5.elim
   |brk=>refine bZ z5 λ_ _ _ z5=>?_;exact z5.elim
   |cont=>refine bZ z5 λ_ _ _ z5=>?_;exact z5.elim
   |ret u=>
    refine bR z5 λv bX H5 I5 rv q5=>?_;obtain σ5:=bX;have I6:=I5.uncaught I3.ok
    refine ar I5.loc λm5 n5 _=>?_;show aM (aR X.prog X.w) X.A (do bindName X.env n .none;unbindBehindTheSuite X.env n vZ) (λ_ s3=>SP X aa D (.ret u) s3) X.xe s5;refine wpAny_nameGoes hn n5 (by rw[I3.ok.kind];rfl) λh6 m6 n6 sb=>fQ v _ H5 (I6.aks n6 sb) rv q5
end
def BA(K:aV)(a:Addr):It:=
 ⟨λi H=>∃(xs:List V)(x:V),ah K H a xs/\xs[i]?=some x,λi H v H'=>∃T x,v= .ref T/\H T=none/\H'=upd H T (.tup [.int ((i+1:Nat):Int),x])/\∀xs,ah K H a xs->xs[i]?=some x,λi H=>∃xs:List V,ah K H a xs/\xs.length<=i⟩
def akG{P:Program}{w:a9}{K:aV}(a e it:Addr):
  oM P w K (.Tuple elts kk kE) (BA K a) [e,it] e (λi h=>(∃old,Df h e it ((i+1:Nat):Int) old)/\h.IsListIter it a i/\e≠it)where
 mem:=by simp
 obj:=λi h st b hb=>by
  refine cT st λcA di _=>?_;obtain⟨old,he⟩:=cA;obtain⟨o,ho,hc,hd⟩:=di;have e':b=e\/b=it:=by simpa using hb
  rcases e' with z|z
  ·rw[z];exact aq he λv q=>nomatch q
  ·rw[z];exact aF o ho λv q=>by rw[hd]at q;cases q
 keep:=λi h h' st k=>let⟨⟨old,he⟩,hi,bh⟩:=st;(b8 ⟨old,k e (by simp) _ he⟩ (hi.at λo q=>k it (by simp) o q) bh)
 item:=by
  intro X hP hw hK hc i aa s σ H E I hf st hg;subst hP hw hK;refine cT st λeS hit bh=>?_;obtain⟨old,he⟩:=eS;refine bZ hg λxs x hq hx=>?_;refine bc (I.list hq) λay rv p hz=>?_;refine ar (rv.get hx) λu hu ru=>?_;have uc:e<s.heap.objs.size:=cR he
  have iJ:it<s.heap.objs.size:=by refine ar hit λ_ q _=>?_;exact cR q
  refine aj2 (I.ok.hd hc) he hit p.isList (x:=u) (by simpa using hu) bh λh' tk ho LN hT hsz hk=>?_;refine aq rfl (avw (s:={s with heap:=h',toks:=tk+1}) ho λjY Bc sb=>?_);have vS:jY.get? s.heap.objs.size=some {cls:= .type "tuple",data:= .seq #[.int ((i+1:Nat):Int) tk,u]}:=(sb.2 _ (zP uc)).trans hT
  have new:d9 X.prog X.w (upd H s.heap.objs.size (.tup [.int ((i+1:Nat):Int),x])) jY s.heap.objs.size (.tup [.int ((i+1:Nat):Int),x]):=
   (cg (by show 2<=sizeLine;decide) [.int ((i+1:Nat):Int) tk,u] (.cons ⟨_,rfl⟩ (.cons ru .nil)) (aW _ vS rfl ⟨_,rfl⟩))
  have I1:ak X aa σ (upd H s.heap.objs.size (.tup [.int ((i+1:Nat):Int),x])) {s with heap:=jY,toks:=tk+1}:=
   I.EE (ch:=[e,it]) (λb ob hb q=>(sb.2 b (λz=>hb (by simp[z]))).trans (hk b ob (λz=>hb (by simp[z])) (λz=>hb (by simp[z])) q)) hf (aX _) new
  refine gU (.ref s.heap.objs.size) _ I1 rfl (cC _ x rfl (I.aG.fresh (aX _)) rfl λys hy=>by rw[I.yy hy hq];exact hx) (b8 ⟨u,?_⟩ (LN.at λo q=>(sb.2 it (mP bh)).trans q) bh) λb hb=>?_
  ·have e1:((i+1+1:Nat):Int)=((i+1:Nat):Int)+1:=by lia
   rw[e1];exact Bc
  ·have fV:b<s.heap.objs.size:=by
    have e':b=e\/b=it:=by simpa using hb
    rcases e' with z|z
    ·rw[z];exact uc
    ·rw[z];exact iJ
   rw[aj (gQ fV)];exact(hf b hb).1
 done:=by
  intro X hP hw hK hc i aa s σ H E I hf st hg;subst hP hw hK;refine cT st λeT hit bh=>?_;obtain⟨old,he⟩:=eT;refine ar hg λxs hq hx=>?_;refine bc (I.list hq) λay rv p hz=>?_;refine iR (hf it (by simp)) λf0 f1 f2 f3 f4 f5=>?_;have hl:=rv.length
  exact aj5 (I.ok.hd hc) he hit p.isList (by simp;lia) λh' eb=>⟨rfl,I.turned (t':=s.toks) (λb o hb q=>eb b o hb q) f0 f1 f3 f4 f5⟩
 self:=λA i s Q E st h=>let⟨⟨_,he⟩,_⟩:=st;Po he h
def akH(K:aV)(ta:TA):TI:=λσ H R=>ta σ H λvs H1=>∃a xs,vs=[.ref a]/\ah K H1 a xs/\R (BA K a) H1
def akI{X:Cx}{e:bf}{ta:TA}{p La ip:Pos}{ik}(hg:Gl X "enumerate")(hm:X.mg "enumerate"=none)(ha:PA X [e] ta)(hs:cJ [e] X.env=[(false,eval e X.env)]:=by rfl):
  PI X (.Tuple elts kk kE) (.Call (.Name "enumerate" p) [e] [⟨some "start", .Constant (.int 1) ik ip,La⟩] pos) (akH X.K ta):=by
 intro aa s σ H R I h;refine xT (vA I hg hm avx ?_);refine PySem.W.callWith_of (P:=λ_=>True) (by rw[hs];rfl) (λh _=>aF .machine (.inr (.inl rfl)) (ax_ rfl)) (evalArgs_kw2 rfl (aI (ha pos aa s σ H _ I h) λus s1 ⟨vs,H1,I1,r1,q1⟩=>aI (afl aS afk pos aa s1 σ H1 (λzs H2=>zs=[.int 1]/\H2=H1) I1 ⟨rfl,rfl⟩) λws s2 vV=>lj vV λzs H2 I2 rz e1 e2=>⟨trivial,?_⟩) hs)
 refine bb q1 λa xs ex hq q=>?_;subst ex e1 e2;refine ar (l7 r1) λu kA ru=>?_;obtain rfl:=kA;refine ar (l7 rz) λu1 kB ru1=>?_;obtain rfl:=kB;cases ru;obtain⟨tk,rfl⟩:=ru1;refine bc (I2.list hq) λay rv p' hz=>?_;show aM _ _ (mQ (.type "enumerate") [.ref a] [("start", .int 1 tk)]) _ _ _;refine aj0 p'.isList λh' he hit hsz hk=>Po he ?_;have I3:ak X aa σ H2 {s2 with heap:=h'}:=I2.kept (t':=s2.toks) hk
 refine⟨s2.heap.objs.size+1,[s2.heap.objs.size+1,s2.heap.objs.size],_,_,H2,rfl,I3,akG a (s2.heap.objs.size+1) s2.heap.objs.size,b8 ⟨.none,he⟩ hit (avy _),λb hb=>?_,q⟩;have e':b=s2.heap.objs.size+1\/b=s2.heap.objs.size:=by simpa using hb
 have hle:s2.heap.objs.size<=b:=by
  rcases e' with z|z
  ·rw[z];exact xO _ _
  ·rw[z];exact aX _
 exact I2.tP hle (I2.aG.fresh hle)
end
section
variable{H:Hp}{f b:Addr}{o:HO}{P:Program}{w:a9}{K:aV}{mg:Str->Option Value}{base:Heap}{fd:bg}{ps:List Str}{sp:Sp}
def eK(H:Hp)(f:Addr):Hp:=λb=>if b=f then none else H b
def v_(h:eK H f b=some o):H b=some o/\b≠f:=by
 unfold eK at h;by_cases e:b=f
 ·rw[if_pos e]at h;cases h
 ·rw[if_neg e]at h;exact⟨h,e⟩
def ir(h:H b=some o)(n:b≠f):eK H f b=some o:=by unfold eK;rw[if_neg n];exact h
def E9:eK H f f=none:=if_pos rfl
def qj(h:H b=none):eK H f b=none:=by unfold eK;split<;>first|rfl|exact h
def j1:eK (upd H f o) f=eK H f:=by
 funext b;unfold eK;by_cases e:b=f
 ·rw[if_pos e,if_pos e]
 ·rw[if_neg e,if_neg e,aj e]
def wc(h:H f=none):eK H f=H:=by
 funext b;unfold eK;by_cases e:b=f
 ·rw[if_pos e,e,h]
 ·rw[if_neg e]
def akK(sp:Sp):Sp:=λvs H Q E=>∃(a:Addr)(kvs:List (aT×V)),H a=some (.dK kvs)/\sp vs (eK H a) (λv H'=>H' a=none->Q v (upd H' a (.dK kvs))) E
def aZ.off{k:Nat}(F:aZ P w K mg base bu k f fd ps sp):aZ P w K mg base bu k f fd ps (akK sp):=by
 refine⟨λvs H Q E l4=>bZ l4 λa kvs _ h=>F.len _ _ _ _ h,λA outer s H args us vs Q E hr e0 hb r Bs=>bZ Bs λa kvs ha h=>?_⟩;have aG:dy P w (eK H a) s.heap:=λb o e=>by obtain⟨e1,n⟩:=v_ e;exact(e0.aG b o e1).gY (λ_ _ _ q=>q) (λc q=>ir q (gE q ha (by intro z;cases z))) λc xs q=>ir q (gE q ha (by intro z;cases z))
 have e1:rE P w K mg base A outer s (eK H a):=⟨e0.frames,e0.mod,λb o q=>⟨(e0.bs b o q).1,qj (e0.bs b o q).2⟩,e0.mZ,e0.kz,λb q=>qj (e0.m3 b q),aG,e0.bare⟩;refine sI (F.run A outer s (eK H a) args us vs _ E hr e1 hb r h) λres s' hq=>?_;cases res with
 |error e=>exact hq
 |ok fl=>
  cases fl with
  |next=>exact hq
  |brk=>exact hq
  |cont=>exact hq
  |ret u=>
   refine iE hq λv H' os bare un y3 c0=>?_;refine eA c0 λrv q=>?_;obtain⟨oa,jD⟩:=(e0.aG a _ ha).there;have Mg:a∉ic outer:=λm=>by rw[e0.m3 a m]at ha;cases ha
   have na:H' a=none:=un.free a oa jD E9 (by simp);have ka:=un.keep a oa jD E9 Mg (by simp);have nb:∀b o,H' b=some o->b≠a:=λb o e z=>by rw[z,na]at e;cases e
   refine⟨v,upd H' a (.dK kvs),os,bare,⟨λb o e n h1 h2=>un.keep b o e (qj n) h1 h2,λb o e n h1 h2=>un.slot b o e (qj n) h1 h2,λb o e n h2=>?_,un.there,λb xs e=>?_,λb o x e=>?_,λb ps e=>?_⟩,λb o e=>?_,rv,q na⟩
   ·rw[aj (λz=>by rw[z,ha]at n;cases n)];exact un.free b o e (qj n) h2
   ·have n:=gE e ha (by intro z;cases z);rw[aj n];exact un.mX b xs (ir e n)
   ·have n:=gE e ha (by intro z;cases z);rw[aj n];exact un.lu b o x (ir e n)
   ·have n:=gE e ha (by intro z;cases z);rw[aj n];exact un.mY b ps (ir e n)
   ·by_cases hb:b=a
    ·subst hb;rw[ag]at e;cases e;refine mU (e0.aG b _ ha) λz y fT r' ob es ep e c=>?_;rw[jD]at e;cases e;exact sV z y fT r' (pI _ es ep ka c)
    ·rw[aj hb]at e;exact(y3 b o e).gY (λ_ _ _ q=>q) (λc q=>by rw[aj (nb _ _ q)];exact q) λc xs q=>by rw[aj (nb _ _ q)];exact q
def akL(sp:Sp):Sp:=λvs H Q E=>∃(a:Addr)(kvs:List V),H a=some (.lst kvs)/\sp vs (eK H a) (λv H'=>H' a=none->Q v (upd H' a (.lst kvs))) E
def aZ.akM{k:Nat}(F:aZ P w K mg base bu k f fd ps sp):aZ P w K mg base bu k f fd ps (akL sp):=by
 refine⟨λvs H Q E Bt=>bZ Bt λa kvs _ h=>F.len _ _ _ _ h,λA outer s H args us vs Q E hr e0 hb r vX=>bZ vX λa kvs ha h=>?_⟩;have aG:dy P w (eK H a) s.heap:=λb o e=>by obtain⟨e1,n⟩:=v_ e;exact(e0.aG b o e1).gY (λ_ _ _ q=>q) (λc q=>ir q (gE q ha (by intro z;cases z))) λc xs q=>ir q (gE q ha (by intro z;cases z))
 have e1:rE P w K mg base A outer s (eK H a):=⟨e0.frames,e0.mod,λb o q=>⟨(e0.bs b o q).1,qj (e0.bs b o q).2⟩,e0.mZ,e0.kz,λb q=>qj (e0.m3 b q),aG,e0.bare⟩;refine sI (F.run A outer s (eK H a) args us vs _ E hr e1 hb r h) λres s' hq=>?_;cases res with
 |error e=>exact hq
 |ok fl=>
  cases fl with
  |next=>exact hq
  |brk=>exact hq
  |cont=>exact hq
  |ret u=>
   refine iE hq λv H' os bare un y3 gF=>?_;refine eA gF λrv q=>?_;obtain⟨oa,jD⟩:=(e0.aG a _ ha).there;have Mg:a∉ic outer:=λm=>by rw[e0.m3 a m]at ha;cases ha
   have na:H' a=none:=un.free a oa jD E9 (by simp);have ka:=un.keep a oa jD E9 Mg (by simp);have nb:∀b o,H' b=some o->b≠a:=λb o e z=>by rw[z,na]at e;cases e
   refine⟨v,upd H' a (.lst kvs),os,bare,⟨λb o e n h1 h2=>un.keep b o e (qj n) h1 h2,λb o e n h1 h2=>un.slot b o e (qj n) h1 h2,λb o e n h2=>?_,un.there,λb xs e=>?_,λb o x e=>?_,λb ps e=>?_⟩,λb o e=>?_,rv,q na⟩
   ·rw[aj (λz=>by rw[z,ha]at n;cases n)];exact un.free b o e (qj n) h2
   ·have n:=gE e ha (by intro z;cases z);rw[aj n];exact un.mX b xs (ir e n)
   ·have n:=gE e ha (by intro z;cases z);rw[aj n];exact un.lu b o x (ir e n)
   ·have n:=gE e ha (by intro z;cases z);rw[aj n];exact un.mY b ps (ir e n)
   ·by_cases hb:b=a
    ·subst hb;rw[ag]at e;cases e;refine pK (e0.aG b _ ha) λz ay n9 r' e=>?_;rw[jD]at e;cases e;exact k_ z ay n9 r' ka
    ·rw[aj hb]at e;exact(y3 b o e).gY (λ_ _ _ q=>q) (λc q=>by rw[aj (nb _ _ q)];exact q) λc xs q=>by rw[aj (nb _ _ q)];exact q
end
section
variable{x:Str}{ns:List Int}
def T7(h:Heap)(b:Addr)(zs:List Int):Prop:=∃us n,h.get? b=some {cls:= .type "list",data:= .seq us n}/\bB (zs.map V.int) us.toList
def akN{P:Program}{w:a9}{K:aV}{mg mb:Str->Option Value}{CX:ly}{k:Nat}{fa a:Addr}{fd:bg}{sp:Sp}{s₁:aw}{vs:List Value}{zs:List Int}
  (KX:K.In s₁.heap) (jb:s₁.heap.Ns mO mg) (hb:s₁.heap.Ns ZZ mb) (y2:∀x:Str,x≠"__name__"->mb x=kg x) (akO:s₁.heap.NoLimit) (hg:s₁.gens=#[])
  (ha:s₁.heap.get? a=some {cls:= .type "list",data:= .seq vs.toArray}) (hi:aaw vs ns) (hl:ns.length<=sizeLine) (hr:eJ k Dk)
  (F:∀base:Heap,aZ P w K mg base CX k fa fd [x] sp) (akP:∀(s:aw)(u:Value),C_ s fd ⟨[u],[]⟩ [(x,u)])
  (md:∀H:Hp,ah K H a (ns.map V.int)->sp [.ref a] H (λv H'=>∃b,v= .ref b/\H' b=some (.lst (zs.map V.int))) λ_ _ _=>False)
  (Mh:∀H e s',CX [] H s₁ (λ_ _ _=>False) e s'->False):
  sG (aR P w) Dk (.call (.ref fa) ⟨[.ref a],[]⟩) (λr s'=>(∃b,r= .ok (.ret (.ref b))/\T7 s'.heap b zs)/\OldK s₁.heap s'.heap/\s'.os=s₁.os/\uL s'.gens) s₁:=by
 have rv:=Tt hi;have akQ:=hi.length;have core:∀H:Hp,ai4 H->ah K H a (ns.map V.int)->dy P w H s₁.heap->(∀b,H b≠none->b=a)->(H a≠none->K.lookup a=none)->
   sG (aR P w) Dk (.call (.ref fa) ⟨[.ref a],[]⟩) (λr s'=>(∃b,r= .ok (.ret (.ref b))/\T7 s'.heap b zs)/\OldK s₁.heap s'.heap/\s'.os=s₁.os/\uL s'.gens) s₁:=by
  intro H hO hS aG hA hK;have T8:∀{b:Addr}{o:Obj},s₁.heap.get? b=some o->H b=none->(pV s₁.heap H).get? b=some o:=λe n=>acO e n
  have AL:∀{b:Addr}{o:Obj}{es:Array Pn}{ep:Nat},s₁.heap.get? b=some o->o.data= .dict es ep->H b=none:=λ{b o es ep} e d=>by
   cases q:H b with
   |none=>rfl
   |some u=>
    have e':b=a:=hA b (by rw[q];simp);subst e';rw[ha]at e;cases e;have d':Data.seq vs.toArray _=Data.dict es ep:=d;cases d'
  have Mi:∀{b:Addr}{m:Str->Option Value},s₁.heap.Ns b m->(pV s₁.heap H).Ns b m:=λ{b m} l4=>bR l4 λo es ep e d r=>fQ o es ep (T8 e (AL e d)) d r;have hKb:K.In (pV s₁.heap H):=λb o e=>T8 (KX b o e) (by
   cases q:H b with
   |none=>rfl
   |some u=>
    have e':b=a:=hA b (by rw[q];simp)
    subst e'
    rw[hK (by rw[q];simp)]at e;cases e)
  have hM:Mod K mg (pV s₁.heap H):=⟨hKb,Mi jb,aF mb (Mi hb) y2,ar akO λmc h1 h2=>(aF mc (Mi h1) h2)⟩;have e0:rE P w K mg (pV s₁.heap H) Dk [] s₁ H:=⟨rfl,hM,λb o e=>acP e,JI (acN _ _),trivial,λb hb=>absurd (show b∈([]:List Addr) from hb) (by simp),aG, .of_eq hg⟩;refine sI ((F (pV s₁.heap H)).run Dk [] s₁ H ⟨[.ref a],[]⟩ [.ref a] [.ref a] _ _ hr e0 (akP s₁ (.ref a)) (.cons rfl .nil) (md H hS)) λr s' h=>?_;cases r with
  |error e=>exact(Mh H e s' h).elim
  |ok fl=>
   cases fl with
   |next=>exact iA h
   |brk=>exact iA h
   |cont=>exact iA h
   |ret u=>
    refine iE h λv H' os bare un y3 c0=>?_;refine iD c0 λr' b bA fV=>?_;obtain rfl:=bA;obtain rfl:u=c9 b:=r';obtain⟨_,ay,n,rl,el⟩:=y3 b _ fV;refine⟨⟨b,rfl,ay.toArray,n,el,by simpa using rl⟩,OldK.of_keep λb o e=>?_,os,bare⟩;cases q:H b with
    |none=>exact un.keep b o e q (by intro z;exact absurd (show b∈([]:List Addr) from z) (by simp)) (by simp)
    |some u=>
     rcases hO b with z|⟨ob,xs,z⟩
     ·rw[q]at z;cases z
     ·have z2:=un.lu b ob _ z;obtain⟨e1,_⟩:=aG b _ z;obtain⟨e2,_⟩:=y3 b _ z2;rw[e]at e1;cases e1;exact e2
 cases hk:K.lookup a with
 |some o=>
  have e:=KX a o hk;rw[ha]at e;cases e;refine core (λ_=>none) (λ_=> .inl rfl) (.inr ⟨_,vs.toArray,_,hk,rfl,rfl,rfl,by rw[eY,akQ];exact hl,by simpa using rv⟩) (λb u z=>by have z':(none:Option HO)=some u:=z;cases z') (λb z=>absurd rfl z) λz=>absurd rfl z
 |none=>
  refine core (λb=>if b=a then some (.eG {cls:= .type "list",data:= .seq vs.toArray} (.lst (ns.map V.int)))else none) (λb=>?_) (.inl (.inr ⟨{cls:= .type "list",data:= .seq vs.toArray},if_pos rfl⟩)) (λb u z=>?_) (λb z=>?_) λ_=>hk
  ·by_cases hb:b=a
   ·exact .inr (ki _ _ (if_pos hb))
   ·exact .inl (if_neg hb)
  ·by_cases hb:b=a
   ·have z':=(if_pos hb).symm.trans z;cases z';subst hb;exact⟨ha,by rw[aA];exact hl,vs,_,rv,ha⟩
   ·have z':=(if_neg hb).symm.trans z;cases z'
  ·by_cases hb:b=a
   ·exact hb
   ·exact absurd (if_neg hb) z
abbrev RR:PySem.W.OpenSpec:=aya
def akS(k:RR.wellSaid=true){args:List avZ}(h:RR.pre args=true):∃ns:List Int,args=[.list (ns.map sQ)]/\ns.length<=16000/\(∀z∈ns,-(2^63)<=z/\z<2^63)/\PB ns=true:=by
 refine bc ((av0 k args).mp h) λbX h1 h2 cA=>?_;obtain⟨ns,u⟩:=bX;obtain rfl:=cA;refine aF ns rfl ?_;have rJ:(ayb 0 16000 (ayc (-9223372036854775808) 9223372036854775807) ns&&true)=true:=h1
 rw[ZN]at rJ;obtain⟨a,b⟩:=ayd rJ;refine b8 ((aye.mp a).2) (λz hz=>?_) h2;have:=ayf.mp (uR.mp b z hz)
 lia
def akT(k:RR.wellSaid=true)(h:RR.pre [.list (ns.map sQ)]=true)(ds:List avZ):RR.claim.post [.list (ns.map sQ)] (.list ((uW ns).map sQ)) ds=true:=by
 refine bc ((av0 k [.list (ns.map sQ)]).mp h) λdi h1 h2 e=>?_;obtain⟨ms,u⟩:=di;have e':(ayg (ns.map sQ))= .list (ms.map sQ):=(mT e).1
 have e2:ns=ms:=ayh sQ (λx y q=>ayi q) ns ms (ayj e');subst e2;exact(ayk k h1 _ ds).mpr rfl
theorem T9{h:Heap}{cl:Str->Option Addr}:∀{zs:List Int}{us:List Value},bB (zs.map V.int) us->PySem.W.ReadsAllW [] cl h us (zs.map sQ) []
 |[],_,r=>by cases r;exact .nil
 |z::zs,_,r=>by
  cases r with
  |cons a b=>
   obtain⟨t,rfl⟩:=a;exact .cons (as:=[]) (bs:=[]) (.int z t) (T9 b)
def akU{k:Nat}{q:Program}{loose:List Str}{XP:(Str->Option Value)->Heap->Prop}{YP:a9->Heap->Prop}{d:DefRec}{K:Params->aV}{CX:a9->ly}{sp:a9->Sp}
  (kw:RR.wellSaid=true) (Mj:d.params.defaults=[]) (hr:eJ k Dk) (hY:∀(w:a9)(h:Heap),YP w h->(K w.params).In h)
  (F:∀(w:a9)(mg:Str->Option Value)(fa:Addr)(h:Heap),(K w.params).In h->h.Ns mO mg->mg d.name=some (.ref fa)->
   ∃fd:bg,(∀(s:aw)(u:Value),C_ s fd ⟨[u],[]⟩ [(x,u)])/\∀base:Heap,aZ RR.prog w (K w.params) mg base (CX w) k fa fd [x] (sp w))
  (md:∀(w:a9)(H:Hp)(a:Addr)(ns:List Int),ns.length<=16000->(∀z∈ns,-(2^63)<=z/\z<2^63)->PB ns=true->ah (K w.params) H a (ns.map V.int)->sp w [.ref a] H (λv H'=>∃b,v= .ref b/\H' b=some (.lst ((uW ns).map V.int))) λ_ _ _=>False)
  (Mh:∀(w:a9)(H:Hp)(s:aw)(e:Value)(s':aw),CX w [] H s (λ_ _ _=>False) e s'->False):
  av1 q loose XP YP RR d [] (λf vs=>av2 f vs):=by
 intro w s₀ s₁ mg mb G Y fa o pm cd doc dV kV ho hd oG hD Bz hg args vals as T_ awD hrd ji Qc;obtain rfl:dV= .none:=ayl hD Mj;obtain rfl:kV= .none:=aym hD;refine bc (akS kw T_) λns eS hlen wd=>?_;refine eA wd λEH BB=>?_;obtain rfl:=eS;cases ji with
 |cons w1 w2=>
  cases w2;cases w1 with
  |list akV fb=>
   have hints:=Ts.ai3 ns _ fb;have KX:=hY w _ Y;refine ar (F w mg fa _ KX G.T.g Bz) λfd hb hF=>?_;refine PySem.W.enter_call (sI (akN (zs:=uW ns) KX G.T.g G.T.b G.T.builtins G.T.nolimit hg akV hints (i8 hlen (by decide)) hr hF hb (λH hS=>md w H _ ns hlen EH BB hS) λH e s'=>Mh w H s₁ e s') λr s' hq=>?_);refine fz hq λeT h2 h3 h4=>?_;obtain⟨b,rfl,us,n,e,rl⟩:=eT;exact pH (.inl (iC (.ref b) (.list ((uW ns).map sQ)) [b] rfl (λ_=>rfl) (.list e rfl rfl (T9 rl)) (akT kw T_ _) λz=>nomatch z)) h2 h3 h4
end
end L2
namespace Rg
set_option genInjectivity false
set_option genSizeOf false
set_option genSizeOfSpec false
open PySem L2
def bJ(i:Nat):Stmt:=ayn.main.body.getD i (.Pass ⟨0,0,0,0⟩)
abbrev Ua:Stmt:=bJ 1
abbrev Ml:Stmt:=bJ 2
abbrev Ub:Stmt:=bJ 3
abbrev Uc:Stmt:=bJ 4
abbrev Ud:Stmt:=bJ 5
abbrev Mm:Stmt:=bJ 6
abbrev Ue:Stmt:=bJ 8
abbrev Ug:Stmt:=bJ 9
abbrev Uh:Stmt:=bJ 10
abbrev Ui:Stmt:=bJ 11
abbrev Mn:Stmt:=bJ 12
abbrev Uj:Stmt:=bJ 13
abbrev Uk:Stmt:=bJ 14
abbrev Ul:Stmt:=rK (bJ 16) 0
abbrev Um:Stmt:=rK (bJ 17) 0
abbrev Uo:Stmt:=rK (bJ 19) 0
abbrev Up:Stmt:=rK (bJ 20) 0
abbrev Uq:Stmt:=bJ 21
abbrev Mo:Stmt:=bJ 22
abbrev Ur:Stmt:=bJ 23
abbrev Mp:Stmt:=bJ 24
abbrev Us:Stmt:=bJ 25
abbrev Ut:Stmt:=bJ 31
abbrev Uu:Stmt:=bJ 32
abbrev Uv:Stmt:=bJ 33
abbrev Uw:Stmt:=bJ 34
abbrev Ux:Stmt:=bJ 35
abbrev Uy:Stmt:=bJ 36
abbrev Uz:Stmt:=bJ 37
abbrev UA:Stmt:=bJ 38
abbrev UB:Stmt:=bJ 39
abbrev UC:Stmt:=bJ 40
abbrev UD:Stmt:=bJ 41
abbrev UE:Stmt:=bJ 42
abbrev UG:Stmt:=bJ 43
abbrev Mq:Stmt:=bJ 51
abbrev Mr:Stmt:=bJ 52
abbrev Ms:Stmt:=bJ 53
abbrev Mt:Stmt:=rK (bJ 62) 0
abbrev UH:Stmt:=rK (bJ 63) 0
abbrev UI:Stmt:=bJ 64
abbrev Mu:Stmt:=bJ 65
abbrev UJ:Stmt:=bJ 66
abbrev UK:Stmt:=bJ 67
abbrev UL:Stmt:=bJ 68
abbrev UM:Stmt:=bJ 69
abbrev UN:Stmt:=bJ 70
abbrev UO:Stmt:=bJ 71
abbrev Mv:Stmt:=bJ 72
abbrev Mw:Stmt:=bJ 73
abbrev UP:Stmt:=rK (bJ 78) 0
abbrev UQ:Stmt:=bJ 79
abbrev Mx:Stmt:=bJ 80
abbrev My:Stmt:=bJ 81
abbrev UR:Stmt:=bJ 82
abbrev US:Stmt:=bJ 83
abbrev UT:Stmt:=bJ 85
abbrev Mz:Stmt:=bJ 86
abbrev MA:Stmt:=bJ 87
abbrev UU:Stmt:=bJ 88
abbrev UW:Stmt:=bJ 89
abbrev UX:Stmt:=rK (bJ 107) 0
abbrev UY:Stmt:=rK (bJ 108) 0
abbrev MB:Stmt:=bJ 109
abbrev UZ:Stmt:=bJ 110
abbrev U0:Stmt:=bJ 111
abbrev U1:Stmt:=bJ 112
abbrev U2:Stmt:=bJ 113
abbrev U3:Stmt:=bJ 114
abbrev U4:Stmt:=bJ 115
abbrev U5:Stmt:=bJ 116
abbrev U6:Stmt:=bJ 117
structure aO where
 E_:Addr
 Fb:bg
 Fc:Addr
 Fd:bg
 Fe:Addr
 Ff:bg
 Fg:Addr
 Fh:bg
 Fi:Addr
 Fj:bg
 Fm:Addr
 Fo:bg
 Fp:Addr
 Fq:bg
 Fs:Addr
 Ft:bg
 Fu:Addr
 Fw:bg
 Fx:Addr
 Fy:bg
 Fz:Addr
 FA:bg
 FC:Addr
 FD:bg
 FE:Addr
 FF:bg
 FG:Addr
 FH:bg
 FI:Addr
 FJ:bg
 FK:Addr
 FL:bg
 FN:Addr
 FO:bg
 FP:Addr
 FQ:bg
 FR:Addr
 FT:bg
 we:Addr
 FU:bg
 wg:Addr
 FV:bg
 wj:Addr
 FW:bg
 wm:Addr
 FX:bg
 wo:Addr
 FY:bg
 f_both:Addr
 FZ:bg
 wq:Addr
 F4:bg
 wt:Addr
 F5:bg
 wu:Addr
 F6:bg
 wx:Addr
 F7:bg
 wy:Addr
 F8:bg
 wz:Addr
 F9:bg
 F_:Addr
 Ga:bg
 Gb:Addr
 Gd:bg
 Ge:Addr
 Gf:bg
 Gg:Addr
 Gh:bg
 Gi:Addr
 Gj:bg
 Gk:Addr
 Gm:bg
 Gn:Addr
 Gp:bg
 Gq:Addr
 Gs:bg
 Gu:Addr
 Gw:bg
 Gx:Addr
 Gy:bg
 Gz:Addr
 GA:bg
 GB:Addr
 GC:bg
 GD:Addr
 GF:bg
 GG:Addr
 GH:bg
 GI:Addr
 GJ:bg
 GK:Addr
 GL:bg
 GN:Addr
 GO:bg
 GP:Addr
 GQ:bg
 GR:Addr
 GS:bg
 GU:Addr
 GV:bg
 GW:Addr
 GX:bg
 GY:Addr
 GZ:bg
 G5:Addr
 G6:bg
 G7:Addr
 BC:bg
 G8:Addr
 G9:bg
 G_:Addr
 Hb:bg
 Hc:Addr
 He:bg
 Hf:Addr
 Hg:bg
 Hh:Addr
 Hi:bg
 Hj:Addr
 Hk:bg
 Hl:Addr
 Hm:bg
 Hn:Addr
 Ho:bg
 c_:Addr
 Hq:Addr
 Hr:bg
 lB:Addr
 Hs:Addr
 Ht:bg
 nF:Addr
 Hu:Addr
 Hv:bg
 dE:Addr
 Hw:Addr
 Hx:bg
 o9:Addr
 Hy:Addr
 Hz:bg
 fL:Addr
 HB:Addr
 HC:bg
 fX:Addr
 HD:Addr
 HE:bg
 kK:Addr
 HF:Addr
 HG:bg
 qk:Addr
 BD:Addr
 BE:bg
 BF:Addr
 HH:Addr
 lC:Addr
 BG:Addr
structure Txt (K:aV) (mg:Str->Option Value) (A:aO):Prop where
 MC:bP K mg "ways_on" Ua ["program"] A.E_ A.Fb
 U7:bP K mg "ways_back" Ml ["ways"] A.Fc A.Fd
 joined:bP K mg "joined" Ub ["live","places"] A.Fe A.Ff
 MD:bP K mg "live_before" Uc ["program"] A.Fg A.Fh
 U8:bP K mg "needed_before" Ud ["step","behind"] A.Fi A.Fj
 U9:bP K mg "live_behind" Mm ["program"] A.Fm A.Fo
 members:bP K mg "members" Ue ["bits"] A.Fp A.Fq
 U_:bP K mg "meetings" Ug ["program"] A.Fs A.Ft
 Va:bP K mg "both_ways" Uh ["met"] A.Fu A.Fw
 Vb:bP K mg "most_met" Ui ["left","degrees","named"] A.Fx A.Fy
 Vc:bP K mg "taken_away" Mn ["met","named","k"] A.Fz A.FA
 Vd:bP K mg "first_free" Uj ["holders","others"] A.FC A.FD
 Ve:bP K mg "given_homes" Uk ["program","k"] A.FE A.FF
 Vf:bP K mg "as_read" Uq ["program"] A.FG A.FH
 Vg:bP K mg "fitted" Mo ["program","k"] A.FI A.FJ
 Vh:bP K mg "with_slots" Ur ["program","kept"] A.FK A.FL
 rewrite:bP K mg "rewrite" Mp ["rewriter","step"] A.FN A.FO
 ME:bP K mg "new_helper" Us ["rewriter"] A.FP A.FQ
 wrapped:bP K mg "wrapped" Ut ["number"] A.FR A.FT
 plus:bP K mg "plus" Uu ["y","z"] A.we A.FU
 minus:bP K mg "minus" Uv ["y","z"] A.wg A.FV
 times:bP K mg "times" Uw ["y","z"] A.wj A.FW
 divided:bP K mg "divided" Ux ["y","z"] A.wm A.FX
 remainder:bP K mg "remainder" Uy ["y","z"] A.wo A.FY
 both:bP K mg "both" Uz ["y","z"] A.f_both A.FZ
 either:bP K mg "either" UA ["y","z"] A.wq A.F4
 Vi:bP K mg "one_of_two" UB ["y","z"] A.wt A.F5
 Vj:bP K mg "shifted_left" UC ["y","z"] A.wu A.F6
 Vk:bP K mg "shifted_right" UD ["y","z"] A.wx A.F7
 less:bP K mg "less" UE ["y","z"] A.wy A.F8
 equal:bP K mg "equal" UG ["y","z"] A.wz A.F9
 Vl:bP K mg "lines_of" Mq ["text"] A.F_ A.Ga
 words_of:bP K mg "words_of" Mr ["line"] A.Gb A.Gd
 Vm:bP K mg "bytes_of" Ms ["lines"] A.Ge A.Gf
 HI:bP K mg "read_program" UI ["text"] A.Gg A.Gh
 Vn:bP K mg "taken_in" Mu ["reader","step"] A.Gi A.Gj
 numbered:bP K mg "numbered" UJ ["reader","name"] A.Gk A.Gm
 Vo:bP K mg "parsed" UK ["words"] A.Gn A.Gp
 Vp:bP K mg "parsed_pair" UL ["first","second"] A.Gq A.Gs
 Vq:bP K mg "parsed_if" UM ["words"] A.Gu A.Gw
 Vr:bP K mg "parsed_value" UN ["given","word"] A.Gx A.Gy
 Vs:bP K mg "parsed_operation" UO ["words"] A.Gz A.GA
 rQ:bP K mg "is_name" Mv ["word"] A.GB A.GC
 Vt:bP K mg "is_number" Mw ["word"] A.GD A.GF
 run:bP K mg "run" UQ ["fit","numbers","steps","most"] A.GG A.GH
 Vu:bP K mg "orders_of" Mx ["fit"] A.GI A.GJ
 Vv:bP K mg "order_of" My ["step","fit"] A.GK A.GL
 Vw:bP K mg "run_orders" UR ["orders","cells","numbers","steps","most"] A.GN A.GO
 outcome:bP K mg "outcome" US ["how","put_out","ended_with","done"] A.GP A.GQ
 written:bP K mg "written" UT ["fit"] A.GR A.GS
 MF:bP K mg "label_lines" Mz ["labels_at","place"] A.GU A.GV
 Vx:bP K mg "step_line" MA ["step","homes"] A.GW A.GX
 Vy:bP K mg "value_words" UU ["step","used"] A.GY A.GZ
 BH:bP K mg "place_name" UW ["letter","number"] A.G5 A.G6
 answers:bP K mg "answers" MB ["calls"] A.G7 A.BC
 answer:bP K mg "answer" UZ ["desk","call","numbers","row"] A.G8 A.G9
 begin:bP K mg "begin" U0 ["desk"] A.G_ A.Hb
 read:bP K mg "read" U1 ["desk","text"] A.Hc A.He
 live:bP K mg "live" U2 ["desk","at"] A.Hf A.Hg
 write:bP K mg "write" U3 ["desk","k","most"] A.Hh A.Hi
 Vz:bP K mg "run_held" U4 ["desk","k","steps","most","given"] A.Hj A.Hk
 MG:bP K mg "is_register_count" U5 ["k"] A.Hl A.Hm
 MH:bP K mg "fit_of" U6 ["held","k"] A.Hn A.Ho
 Step:oY K mg "Step" "Step.__init__" Ul ["self","kind","given","used","extra"] A.c_ A.Hq A.Hr
 aP:dj K A.c_ "kind"
 eU:dj K A.c_ "given"
 qm:dj K A.c_ "used"
 fY:dj K A.c_ "extra"
 Program:oY K mg "Program" "Program.__init__" Um ["self","steps","labels","named","variables","slots"] A.lB A.Hs A.Ht
 rR:dj K A.lB "steps"
 wA:dj K A.lB "labels"
 MI:dj K A.lB "named"
 wB:dj K A.lB "variables"
 HJ:dj K A.lB "slots"
 iK:oY K mg "Fitted" "Fitted.__init__" Uo ["self","program","homes","registers"] A.nF A.Hu A.Hv
 uf:dj K A.nF "program"
 BJ:dj K A.nF "homes"
 HK:dj K A.nF "registers"
 iZ:oY K mg "Rewriter" "Rewriter.__init__" Up ["self","slot_of","helper"] A.dE A.Hw A.Hx
 BL:dj K A.dE "slot_of"
 HM:dj K A.dE "helper"
 ug:dj K A.dE "steps"
 Reader:oY K mg "Reader" "Reader.__init__" UH ["self"] A.o9 A.Hy A.Hz
 wC:dj K A.o9 "steps"
 BM:dj K A.o9 "labels"
 y4:dj K A.o9 "variables"
 Order:oY K mg "Order" "Order.__init__" UP ["self","kind","into","first","second","extra"] A.fL A.HB A.HC
 BN:dj K A.fL "kind"
 uh:dj K A.fL "into"
 ui:dj K A.fL "first"
 VA:dj K A.fL "second"
 BO:dj K A.fL "extra"
 kL:oY K mg "Held" "Held.__init__" UX ["self","program"] A.fX A.HD A.HE
 HN:dj K A.fX "program"
 VB:dj K A.fX "live"
 wD:dj K A.fX "fits"
 j2:oY K mg "Desk" "Desk.__init__" UY ["self"] A.kK A.HF A.HG
 lD:dj K A.kK "held"
 akW:mn K "__init__" "WrongLine.__init__" Mt A.BD A.BE
 VC:lz K A.BE ["self","number"] []
 MJ:mg "WrongLine"=some (.ref A.qk)
 BP:ue K A.qk A.BD "number"
 akX:∃t,mg "ALL_BITS"=some (.int (18446744073709551615) t)
 akY:∃t,mg "BEGIN"=some (.int (0) t)
 MK:∃t,mg "ENDED"=some (.int (0) t)
 akZ:∃t,mg "FEWEST_REGISTERS"=some (.int (3) t)
 BQ:∃t,mg "LEAST"=some (.int (-9223372036854775808) t)
 ak0:∃t,mg "LIVE"=some (.int (2) t)
 ak1:∃t,mg "LONGEST_NAME"=some (.int (8) t)
 ak2:∃t,mg "LONGEST_NUMBER"=some (.int (19) t)
 ML:∃t,mg "MOST"=some (.int (9223372036854775807) t)
 ak3:∃t,mg "MOST_GIVEN"=some (.int (65536) t)
 ak4:∃t,mg "MOST_PUT_OUT"=some (.int (65536) t)
 ak5:∃t,mg "MOST_REGISTERS"=some (.int (16) t)
 ak6:∃t,mg "MOST_STEPS_desk"=some (.int (10000000) t)
 ak7:∃t,mg "MOST_STEPS_reading"=some (.int (256) t)
 ak8:∃t,mg "MOST_TEXT"=some (.int (65536) t)
 ak9:∃t,mg "MOST_VARIABLES"=some (.int (64) t)
 ak_:∃t,mg "MOST_WRITTEN"=some (.int (262144) t)
 VD:∃t,mg "NEWLINE"=some (.int (10) t)
 MM:∃t,mg "NOTHING_HELD"=some (.int (-3) t)
 ala:∃t,mg "NOT_YET"=some (.int (1) t)
 BR:∃t,mg "NO_SUCH_THING"=some (.int (-1) t)
 alb:∃t,mg "READ"=some (.int (1) t)
 VE:∃t,mg "REMAINDER"=some (.int (37) t)
 VF:∃t,mg "SHIFT_BITS"=some (.int (63) t)
 alc:∃t,mg "TOO_LONG"=some (.int (-5) t)
 ald:∃t,mg "TOO_MUCH_PUT_OUT"=some (.int (-5) t)
 ale:∃t,mg "WRITE"=some (.int (3) t)
 VG:∃t,mg "DIGITS"=some (.str (cY "0123456789") t)
 VH:∃t,mg "LETTERS"=some (.str (cY "abcdefghijklmnopqrstuvwxyz") t)
 alf:∃t,mg "PLAIN_SIGNS"=some (.str (cY " abcdefghijklmnopqrstuvwxyz0123456789:=+-*/&|^<>") t)
 VI:∃t,mg "REMAINDER_SIGN"=some (.str (cY "@") t)
 alg:∃t,mg "STRANGE_SIGN"=some (.str (cY "?") t)
 alh:mg "HAS_ROW"=some (.ref A.BF)
 ali:ES K A.BF [V.bl false,V.bl true,V.bl false,V.bl false,V.bl true]
 alj:mg "NO_NAMES"=some (.ref A.HH)
 alk:ES K A.HH [V.str (cY "in"),V.str (cY "out"),V.str (cY "goto"),V.str (cY "if"),V.str (cY "ret")]
 alm:mg "WHOLE_NUMBERS"=some (.ref A.BG)
 aln:ES K A.BG [V.int 0,V.int 0,V.int 1,V.int 2,V.int 3]
 VJ:mg "OPERATORS"=some (.ref A.lC)
 dF:mg "len"=none
 y6:mg "range"=none
 MN:mg "list"=none
 VL:mg "tuple"=none
 VM:mg "int"=none
 alo:mg "str"=none
 HP:mg "abs"=none
 VN:mg "ord"=none
 VO:mg "all"=none
 wF:mg "enumerate"=none
 alp:mg "zip"=none
 alq:mg "reversed"=none
def VP:bE ["program","ways","place","step"] ["program"] (aU Ua):=⟨rfl,rfl,rfl,by decide+kernel,rfl,by decide+kernel,by decide+kernel⟩
def VQ:bE ["ways","back","place","following","other"] ["ways"] (aU Ml):=⟨rfl,rfl,rfl,by decide+kernel,rfl,by decide+kernel,by decide+kernel⟩
def VR:bE ["live","places","bits","place"] ["live","places"] (aU Ub):=⟨rfl,rfl,rfl,by decide+kernel,rfl,by decide+kernel,by decide+kernel⟩
def VS:bE ["program","ways","back","live","pending","is_pending","place","bits","earlier"] ["program"] (aU Uc):=⟨rfl,rfl,rfl,by decide+kernel,rfl,by decide+kernel,by decide+kernel⟩
def VT:bE ["step","behind","bits","variable"] ["step","behind"] (aU Ud):=⟨rfl,rfl,rfl,by decide+kernel,rfl,by decide+kernel,by decide+kernel⟩
def VU:bE ["program","live","following"] ["program"] (aU Mm):=⟨rfl,rfl,rfl,by decide+kernel,rfl,by decide+kernel,by decide+kernel⟩
def VW:bE ["bits","found","lowest"] ["bits"] (aU Ue):=⟨rfl,rfl,rfl,by decide+kernel,rfl,by decide+kernel,by decide+kernel⟩
def VX:bE ["program","met","step","behind","others"] ["program"] (aU Ug):=⟨rfl,rfl,rfl,by decide+kernel,rfl,by decide+kernel,by decide+kernel⟩
def VY:bE ["met","whole","variable","others","other"] ["met"] (aU Uh):=⟨rfl,rfl,rfl,by decide+kernel,rfl,by decide+kernel,by decide+kernel⟩
def VZ:bE ["left","degrees","named","best","variable","is_left"] ["left","degrees","named"] (aU Ui):=⟨rfl,rfl,rfl,by decide+kernel,rfl,by decide+kernel,by decide+kernel⟩
def V1:bE ["met","named","k","degrees","others","left","easy","variable","degree","order","other"] ["met","named","k"] (aU Mn):=⟨rfl,rfl,rfl,by decide+kernel,rfl,by decide+kernel,by decide+kernel⟩
def V2:bE ["holders","others","place","holding"] ["holders","others"] (aU Uj):=⟨rfl,rfl,rfl,by decide+kernel,rfl,by decide+kernel,by decide+kernel⟩
def V3:bE ["program","k","met","holders","homes","variable","home"] ["program","k"] (aU Uk):=⟨rfl,rfl,rfl,by decide+kernel,rfl,by decide+kernel,by decide+kernel⟩
def alr:bE ["self","kind","given","used","extra"] ["self","kind","given","used","extra"] (aU Ul):=⟨rfl,rfl,rfl,by decide+kernel,rfl,by decide+kernel,by decide+kernel⟩
def als:bE ["self","steps","labels","named","variables","slots"] ["self","steps","labels","named","variables","slots"] (aU Um):=⟨rfl,rfl,rfl,by decide+kernel,rfl,by decide+kernel,by decide+kernel⟩
def alu:bE ["self","program","homes","registers"] ["self","program","homes","registers"] (aU Uo):=⟨rfl,rfl,rfl,by decide+kernel,rfl,by decide+kernel,by decide+kernel⟩
def alv:bE ["self","slot_of","helper"] ["self","slot_of","helper"] (aU Up):=⟨rfl,rfl,rfl,by decide+kernel,rfl,by decide+kernel,by decide+kernel⟩
def V4:bE ["program"] ["program"] (aU Uq):=⟨rfl,rfl,rfl,by decide+kernel,rfl,by decide+kernel,by decide+kernel⟩
def V5:bE ["program","k","homes","kept","variable"] ["program","k"] (aU Mo):=⟨rfl,rfl,rfl,by decide+kernel,rfl,by decide+kernel,by decide+kernel⟩
def V6:bE ["program","kept","slot_of","variable","rewriter","moved","step","labels","label","place","slots"] ["program","kept"] (aU Ur):=⟨rfl,rfl,rfl,by decide+kernel,rfl,by decide+kernel,by decide+kernel⟩
def V7:bE ["rewriter","step","helper_of","variable","slot","used","given"] ["rewriter","step"] (aU Mp):=⟨rfl,rfl,rfl,by decide+kernel,rfl,by decide+kernel,by decide+kernel⟩
def V8:bE ["rewriter","helper"] ["rewriter"] (aU Us):=⟨rfl,rfl,rfl,by decide+kernel,rfl,by decide+kernel,by decide+kernel⟩
def V9:bE ["number"] ["number"] (aU Ut):=⟨rfl,rfl,rfl,by decide+kernel,rfl,by decide+kernel,by decide+kernel⟩
def V_:bE ["y","z","total"] ["y","z"] (aU Uu):=⟨rfl,rfl,rfl,by decide+kernel,rfl,by decide+kernel,by decide+kernel⟩
def Wa:bE ["y","z","rest"] ["y","z"] (aU Uv):=⟨rfl,rfl,rfl,by decide+kernel,rfl,by decide+kernel,by decide+kernel⟩
def Wb:bE ["y","z"] ["y","z"] (aU Uw):=⟨rfl,rfl,rfl,by decide+kernel,rfl,by decide+kernel,by decide+kernel⟩
def Wd:bE ["y","z","size"] ["y","z"] (aU Ux):=⟨rfl,rfl,rfl,by decide+kernel,rfl,by decide+kernel,by decide+kernel⟩
def We:bE ["y","z","size"] ["y","z"] (aU Uy):=⟨rfl,rfl,rfl,by decide+kernel,rfl,by decide+kernel,by decide+kernel⟩
def alw:bE ["y","z"] ["y","z"] (aU Uz):=⟨rfl,rfl,rfl,by decide+kernel,rfl,by decide+kernel,by decide+kernel⟩
def alx:bE ["y","z"] ["y","z"] (aU UA):=⟨rfl,rfl,rfl,by decide+kernel,rfl,by decide+kernel,by decide+kernel⟩
def aly:bE ["y","z"] ["y","z"] (aU UB):=⟨rfl,rfl,rfl,by decide+kernel,rfl,by decide+kernel,by decide+kernel⟩
def alz:bE ["y","z"] ["y","z"] (aU UC):=⟨rfl,rfl,rfl,by decide+kernel,rfl,by decide+kernel,by decide+kernel⟩
def alA:bE ["y","z"] ["y","z"] (aU UD):=⟨rfl,rfl,rfl,by decide+kernel,rfl,by decide+kernel,by decide+kernel⟩
def alB:bE ["y","z"] ["y","z"] (aU UE):=⟨rfl,rfl,rfl,by decide+kernel,rfl,by decide+kernel,by decide+kernel⟩
def alC:bE ["y","z"] ["y","z"] (aU UG):=⟨rfl,rfl,rfl,by decide+kernel,rfl,by decide+kernel,by decide+kernel⟩
def Wf:bE ["text","sign_of","sign","signs","byte"] ["text"] (aU Mq):=⟨rfl,rfl,rfl,by decide+kernel,rfl,by decide+kernel,by decide+kernel⟩
def Wg:bE ["line","word"] ["line"] (aU Mr):=⟨rfl,rfl,rfl,by decide+kernel,rfl,by decide+kernel,by decide+kernel⟩
def Wh:bE ["lines","found","line","sign"] ["lines"] (aU Ms):=⟨rfl,rfl,rfl,by decide+kernel,rfl,by decide+kernel,by decide+kernel⟩
def alD:bE ["self","number"] ["self","number"] (aU Mt):=⟨rfl,rfl,rfl,by decide+kernel,rfl,by decide+kernel,by decide+kernel⟩
def alE:bE ["self"] ["self"] (aU UH):=⟨rfl,rfl,rfl,by decide+kernel,rfl,by decide+kernel,by decide+kernel⟩
def Wi:bE ["text","reader","gone_to","number","line","words","step","label","count"] ["text"] (aU UI):=⟨rfl,rfl,rfl,by decide+kernel,rfl,by decide+kernel,by decide+kernel⟩
def Wj:bE ["reader","step","given","used","name"] ["reader","step"] (aU Mu):=⟨rfl,rfl,rfl,by decide+kernel,rfl,by decide+kernel,by decide+kernel⟩
def Wk:bE ["reader","name"] ["reader","name"] (aU UJ):=⟨rfl,rfl,rfl,by decide+kernel,rfl,by decide+kernel,by decide+kernel⟩
def Wm:bE ["words","size"] ["words"] (aU UK):=⟨rfl,rfl,rfl,by decide+kernel,rfl,by decide+kernel,by decide+kernel⟩
def Wn:bE ["first","second"] ["first","second"] (aU UL):=⟨rfl,rfl,rfl,by decide+kernel,rfl,by decide+kernel,by decide+kernel⟩
def Wo:bE ["words"] ["words"] (aU UM):=⟨rfl,rfl,rfl,by decide+kernel,rfl,by decide+kernel,by decide+kernel⟩
def Wq:bE ["given","word"] ["given","word"] (aU UN):=⟨rfl,rfl,rfl,by decide+kernel,rfl,by decide+kernel,by decide+kernel⟩
def Wr:bE ["words"] ["words"] (aU UO):=⟨rfl,rfl,rfl,by decide+kernel,rfl,by decide+kernel,by decide+kernel⟩
def Ws:bE ["word","sign"] ["word"] (aU Mv):=⟨rfl,rfl,rfl,by decide+kernel,rfl,by decide+kernel,by decide+kernel⟩
def Wt:bE ["word","below","digits","sign"] ["word"] (aU Mw):=⟨rfl,rfl,rfl,by decide+kernel,rfl,by decide+kernel,by decide+kernel⟩
def alF:bE ["self","kind","into","first","second","extra"] ["self","kind","into","first","second","extra"] (aU UP):=⟨rfl,rfl,rfl,by decide+kernel,rfl,by decide+kernel,by decide+kernel⟩
def Wu:bE ["fit","numbers","steps","most","cells"] ["fit","numbers","steps","most"] (aU UQ):=⟨rfl,rfl,rfl,by decide+kernel,rfl,by decide+kernel,by decide+kernel⟩
def Wv:bE ["fit","orders","step"] ["fit"] (aU Mx):=⟨rfl,rfl,rfl,by decide+kernel,rfl,by decide+kernel,by decide+kernel⟩
def Ww:bE ["step","fit","into","used","variable","first","extra"] ["step","fit"] (aU My):=⟨rfl,rfl,rfl,by decide+kernel,rfl,by decide+kernel,by decide+kernel⟩
def Wx:bE ["orders","cells","numbers","steps","most","put_out","taken","place","done","order","kind","how"] ["orders","cells","numbers","steps","most"] (aU UR):=⟨rfl,rfl,rfl,by decide+kernel,rfl,by decide+kernel,by decide+kernel⟩
def Wy:bE ["how","put_out","ended_with","done"] ["how","put_out","ended_with","done"] (aU US):=⟨rfl,rfl,rfl,by decide+kernel,rfl,by decide+kernel,by decide+kernel⟩
def Wz:bE ["fit","labels_at","label","place","lines","step"] ["fit"] (aU UT):=⟨rfl,rfl,rfl,by decide+kernel,rfl,by decide+kernel,by decide+kernel⟩
def WA:bE ["labels_at","place","label"] ["labels_at","place"] (aU Mz):=⟨rfl,rfl,rfl,by decide+kernel,rfl,by decide+kernel,by decide+kernel⟩
def WB:bE ["step","homes","used","variable","extra","given"] ["step","homes"] (aU MA):=⟨rfl,rfl,rfl,by decide+kernel,rfl,by decide+kernel,by decide+kernel⟩
def WC:bE ["step","used"] ["step","used"] (aU UU):=⟨rfl,rfl,rfl,by decide+kernel,rfl,by decide+kernel,by decide+kernel⟩
def WD:bE ["letter","number"] ["letter","number"] (aU UW):=⟨rfl,rfl,rfl,by decide+kernel,rfl,by decide+kernel,by decide+kernel⟩
def alG:bE ["self","program"] ["self","program"] (aU UX):=⟨rfl,rfl,rfl,by decide+kernel,rfl,by decide+kernel,by decide+kernel⟩
def alH:bE ["self"] ["self"] (aU UY):=⟨rfl,rfl,rfl,by decide+kernel,rfl,by decide+kernel,by decide+kernel⟩
def WE:bE ["calls","desk","told","at","call","numbers","row","reply"] ["calls"] (aU MB):=⟨rfl,rfl,rfl,by decide+kernel,rfl,by decide+kernel,by decide+kernel⟩
def WG:bE ["desk","call","numbers","row"] ["desk","call","numbers","row"] (aU UZ):=⟨rfl,rfl,rfl,by decide+kernel,rfl,by decide+kernel,by decide+kernel⟩
def alI:bE ["desk"] ["desk"] (aU U0):=⟨rfl,rfl,rfl,by decide+kernel,rfl,by decide+kernel,by decide+kernel⟩
def WH:bE ["desk","text","program","wrong"] ["desk","text"] (aU U1):=⟨rfl,rfl,rfl,by decide+kernel,rfl,by decide+kernel,by decide+kernel⟩
def alJ:bE ["desk","at"] ["desk","at"] (aU U2):=⟨rfl,rfl,rfl,by decide+kernel,rfl,by decide+kernel,by decide+kernel⟩
def WI:bE ["desk","k","most","text"] ["desk","k","most"] (aU U3):=⟨rfl,rfl,rfl,by decide+kernel,rfl,by decide+kernel,by decide+kernel⟩
def WJ:bE ["desk","k","steps","most","given"] ["desk","k","steps","most","given"] (aU U4):=⟨rfl,rfl,rfl,by decide+kernel,rfl,by decide+kernel,by decide+kernel⟩
def alK:bE ["k"] ["k"] (aU U5):=⟨rfl,rfl,rfl,by decide+kernel,rfl,by decide+kernel,by decide+kernel⟩
def WK:bE ["held","k"] ["held","k"] (aU U6):=⟨rfl,rfl,rfl,by decide+kernel,rfl,by decide+kernel,by decide+kernel⟩
end Rg
namespace Rg
open PySem L2
section
def g7(a0 a1 a2 a3:V):List (Str×V):=[("kind",a0),("given",a1),("used",a2),("extra",a3)]
def BS(a0 a1 a2 a3 a4:V):List (Str×V):=[("steps",a0),("labels",a1),("named",a2),("variables",a3),("slots",a4)]
def HQ(a0 a1 a2:V):List (Str×V):=[("program",a0),("homes",a1),("registers",a2)]
def fM(a0 a1 a2:V):List (Str×V):=[("slot_of",a0),("helper",a1),("steps",a2)]
def MO(a0 a1 a2:V):List (Str×V):=[("steps",a0),("labels",a1),("variables",a2)]
def j3(a0 a1 a2 a3 a4:V):List (Str×V):=[("kind",a0),("into",a1),("first",a2),("second",a3),("extra",a4)]
def BU(a0 a1 a2:V):List (Str×V):=[("program",a0),("live",a1),("fits",a2)]
def rS(a0:V):List (Str×V):=[("held",a0)]
end
section
variable{H:Hp}
structure Made (H:Hp) (x C:Addr) (fs:List (Str×V)) (H':Hp):Prop where
 same:af H H'
 new:H x=none
 at_:∃dx,H' x=some (.ins C dx fs)
def Made.of{x dx C:Addr}{fs gs:List (Str×V)}(nx:H x=none)(nd:H dx=none)(ne:dx≠x):Made H x C fs (upd (upd (upd H dx (.own x)) x (.ins C dx gs)) x (.ins C dx fs)):=
 ⟨((af.new nd).upd nx).upd nx,nx,dx,ag⟩
section
variable{P:Program}{w:a9}{K:aV}{mg:Str->Option Value}{A:aO}{base:Heap}
def WM(A:aO):Sp:=λvs H Q _=>∃(p dx:Addr)(a0 a1 a2 a3:V),vs=[.ref p,a0,a1,a2,a3]/\H p=some (.ins A.c_ dx [])/\Q .aL (upd H p (.ins A.c_ dx (g7 a0 a1 a2 a3)))
def mw(T:Txt K mg A):aZ P w K mg base bu 1 A.Hq A.Hr ["self","kind","given","used","extra"] (WM A):=by
 refine T.Step.F.bM alr (λvs H Q E h=>?_) (λaK Ar outer s H vs Q E hr h=>?_)
 ·refine sY h λp dx a0 a1 a2 a3 bp _=>?_;obtain rfl:=bp;rfl
 ·refine sY h λp dx a0 a1 a2 a3 bA c0=>?_;refine eA c0 λhp k=>?_;obtain rfl:=bA;intro X_ D_;refine aq (au (fj (pv 0) (pv 1) rfl) (au (fj (pv 0) (pv 2) rfl) (au (fj (pv 0) (pv 3) rfl) (ax (fj (pv 0) (pv 4) rfl))))) ?_;refine vI rfl (vI rfl (cO p _ dx _ rfl hp T.Step.c T.aP (by show 0<1000;decide) ?_));refine vI rfl (vI rfl (cO p _ dx _ rfl ag T.Step.c T.eU (by show 1<1000;decide) ?_));refine vI rfl (vI rfl (cO p _ dx _ rfl ag T.Step.c T.qm (by show 2<1000;decide) ?_));refine vI rfl (vI rfl (cO p _ dx _ rfl ag T.Step.c T.fY (by show 3<1000;decide) ?_));simp only[ym];exact k
def alL(A:aO):Sp:=λvs H Q _=>∃(p dx:Addr)(a0 a1 a2 a3 a4:V),vs=[.ref p,a0,a1,a2,a3,a4]/\H p=some (.ins A.lB dx [])/\Q .aL (upd H p (.ins A.lB dx (BS a0 a1 a2 a3 a4)))
def WN(T:Txt K mg A):aZ P w K mg base bu 1 A.Hs A.Ht ["self","steps","labels","named","variables","slots"] (alL A):=by
 refine T.Program.F.bM als (λvs H Q E h=>?_) (λaK Ar outer s H vs Q E hr h=>?_)
 ·refine oy h λp dx a0 a1 a2 a3 a4 bX _=>?_;obtain rfl:=bX;rfl
 ·refine oy h λp dx a0 a1 a2 a3 a4 cA gF=>?_;refine eA gF λhp k=>?_;obtain rfl:=cA;intro X_ D_;refine aq (au (fj (pv 0) (pv 1) rfl) (au (fj (pv 0) (pv 2) rfl) (au (fj (pv 0) (pv 3) rfl) (au (fj (pv 0) (pv 4) rfl) (ax (fj (pv 0) (pv 5) rfl)))))) ?_;refine vI rfl (vI rfl (cO p _ dx _ rfl hp T.Program.c T.rR (by show 0<1000;decide) ?_));refine vI rfl (vI rfl (cO p _ dx _ rfl ag T.Program.c T.wA (by show 1<1000;decide) ?_));refine vI rfl (vI rfl (cO p _ dx _ rfl ag T.Program.c T.MI (by show 2<1000;decide) ?_));refine vI rfl (vI rfl (cO p _ dx _ rfl ag T.Program.c T.wB (by show 3<1000;decide) ?_));refine vI rfl (vI rfl (cO p _ dx _ rfl ag T.Program.c T.HJ (by show 4<1000;decide) ?_));simp only[ym];exact k
def WO(A:aO):Sp:=λvs H Q _=>∃(p dx:Addr)(a0 a1 a2:V),vs=[.ref p,a0,a1,a2]/\H p=some (.ins A.nF dx [])/\Q .aL (upd H p (.ins A.nF dx (HQ a0 a1 a2)))
def WQ(T:Txt K mg A):aZ P w K mg base bu 1 A.Hu A.Hv ["self","program","homes","registers"] (WO A):=by
 refine T.iK.F.bM alu (λvs H Q E h=>?_) (λaK Ar outer s H vs Q E hr h=>?_)
 ·refine qY h λp dx a0 a1 a2 di _=>?_;obtain rfl:=di;rfl
 ·refine lT h λp dx a0 a1 a2 eS hp k=>?_;obtain rfl:=eS;intro X_ D_;refine aq (au (fj (pv 0) (pv 1) rfl) (au (fj (pv 0) (pv 2) rfl) (ax (fj (pv 0) (pv 3) rfl)))) ?_;refine vI rfl (vI rfl (cO p _ dx _ rfl hp T.iK.c T.uf (by show 0<1000;decide) ?_));refine vI rfl (vI rfl (cO p _ dx _ rfl ag T.iK.c T.BJ (by show 1<1000;decide) ?_));refine vI rfl (vI rfl (cO p _ dx _ rfl ag T.iK.c T.HK (by show 2<1000;decide) ?_));simp only[ym];exact k
def alM{Q:VK}{a0 a1 a2:V}(k:∀x H',Made H x A.nF (HQ a0 a1 a2) H'->Q (.ref x) H'):∀x dx,H x=none->H dx=none->dx≠x->WO A (.ref x::([a0,a1,a2]++[])) (upd (upd H dx (.own x)) x (.ins A.nF dx [])) (λv H2=>v= .aL/\Q (.ref x) H2) E0:=
 λx dx nx nd ne=>sW x dx a0 a1 a2 rfl ag rfl (k x _ (Made.of nx nd ne))
def alN(A:aO):Sp:=λvs H Q _=>∃(p dx:Addr)(a0 a1 a2 a3 a4:V),vs=[.ref p,a0,a1,a2,a3,a4]/\H p=some (.ins A.fL dx [])/\Q .aL (upd H p (.ins A.fL dx (j3 a0 a1 a2 a3 a4)))
def y8(T:Txt K mg A):aZ P w K mg base bu 1 A.HB A.HC ["self","kind","into","first","second","extra"] (alN A):=by
 refine T.Order.F.bM alF (λvs H Q E h=>?_) (λaK Ar outer s H vs Q E hr h=>?_)
 ·refine oy h λp dx a0 a1 a2 a3 a4 eT _=>?_;obtain rfl:=eT;rfl
 ·refine oy h λp dx a0 a1 a2 a3 a4 ij alO=>?_;refine eA alO λhp k=>?_;obtain rfl:=ij;intro X_ D_;refine aq (au (fj (pv 0) (pv 1) rfl) (au (fj (pv 0) (pv 2) rfl) (au (fj (pv 0) (pv 3) rfl) (au (fj (pv 0) (pv 4) rfl) (ax (fj (pv 0) (pv 5) rfl)))))) ?_;refine vI rfl (vI rfl (cO p _ dx _ rfl hp T.Order.c T.BN (by show 0<1000;decide) ?_));refine vI rfl (vI rfl (cO p _ dx _ rfl ag T.Order.c T.uh (by show 1<1000;decide) ?_));refine vI rfl (vI rfl (cO p _ dx _ rfl ag T.Order.c T.ui (by show 2<1000;decide) ?_));refine vI rfl (vI rfl (cO p _ dx _ rfl ag T.Order.c T.VA (by show 3<1000;decide) ?_));refine vI rfl (vI rfl (cO p _ dx _ rfl ag T.Order.c T.BO (by show 4<1000;decide) ?_));simp only[ym];exact k
end
end
section
section
variable{P:Program}{w:a9}{K:aV}{mg:Str->Option Value}{A:aO}{base:Heap}
def alP(g:Int->Int):Sp:=λvs H Q _=>∃i,vs=[.int i]/\Q (.int (g i)) H
def kM(k:Nat):Sp:=λvs H Q _=>∃i j,vs=[.int i, .int j]/\(Z.cz i/\Z.cz j)/\Q (.int (av3 k i j)) H
def nG{k:Nat}:∀(vs:List V)(H:Hp)(Q:VK)(E:XK),kM k vs H Q E->vs.length=2:=λvs H Q E h=>by refine bZ h λi j bp _=>?_;obtain rfl:=bp;rfl
def BV(T:Txt K mg A):aZ P w K mg base bu 1 A.FR A.FT ["number"] (alP Z.wrapped):=by
 refine T.wrapped.F.bM V9 (λvs H Q E h=>?_) (λaK Ar outer s H vs Q E hr h=>?_)
 ·refine ar h λi bA _=>?_;obtain rfl:=bA;rfl
 ·refine ar h λi bX k=>?_;obtain rfl:=bX;have nd:=V9.nd
  intro X_ D_;refine aq (ax (aQ (b9 jx (b9 p9 (b9 yD (pv 0) (cU rfl T.BQ)) (cU rfl T.akX)) (cU rfl T.BQ)))) ?_;exact vI rfl (iI (iI (iI k)))
def alQ(T:Txt K mg A):aZ P w K mg base bu 2 A.we A.FU ["y","z"] (kM 0):=by
 refine T.plus.F.bM V_ (λvs H Q E h=>?_) (λaK Ar outer s H vs Q E hr h=>?_)
 ·exact nG vs H Q E h
 ·obtain⟨i,j,rfl,⟨hi,hj⟩,k⟩:=h;have nd:=V_.nd
  intro X_ D_;refine aq (au (pS nd 2 (b9 jx (pv 0) (pv 1))) (au (bx (RU p_ p_ (cU rfl T.BQ) (pv 2) (cU rfl T.ML)) (ax (aQ (pv 2))) bI) (ax (aQ (bF (BV T) T.wrapped hr (ae (pv 2) az)))))) ?_;rw[Z.abz]at k;refine vI rfl (vI rfl (iI (vI rfl (iI (aq rfl ?_)))));refine bW (λh1=>iI (aq rfl (bW (λh2=>vI rfl ?_) λh2=>?_))) λh1=>jC ?_
  ·rw[Z.ye (by unfold Z.cz;simp at h1 h2;lia)]at k;exact k
  ·exact⟨_,rfl,_,rfl,by rw[Z.tp];exact k⟩
  ·exact⟨_,rfl,_,rfl,by rw[Z.tp];exact k⟩
def alR(T:Txt K mg A):aZ P w K mg base bu 2 A.wg A.FV ["y","z"] (kM 1):=by
 refine T.minus.F.bM Wa (λvs H Q E h=>?_) (λaK Ar outer s H vs Q E hr h=>?_)
 ·exact nG vs H Q E h
 ·obtain⟨i,j,rfl,⟨hi,hj⟩,k⟩:=h;have nd:=Wa.nd
  intro X_ D_;refine aq (au (pS nd 2 (b9 yD (pv 0) (pv 1))) (au (bx (RU p_ p_ (cU rfl T.BQ) (pv 2) (cU rfl T.ML)) (ax (aQ (pv 2))) bI) (ax (aQ (bF (BV T) T.wrapped hr (ae (pv 2) az)))))) ?_;rw[Z.abA]at k;refine vI rfl (vI rfl (iI (vI rfl (iI (aq rfl ?_)))));refine bW (λh1=>iI (aq rfl (bW (λh2=>vI rfl ?_) λh2=>?_))) λh1=>jC ?_
  ·rw[Z.ye (by unfold Z.cz;simp at h1 h2;lia)]at k;exact k
  ·exact⟨_,rfl,_,rfl,by rw[Z.tp];exact k⟩
  ·exact⟨_,rfl,_,rfl,by rw[Z.tp];exact k⟩
def alS(T:Txt K mg A):aZ P w K mg base bu 2 A.wj A.FW ["y","z"] (kM 2):=by
 refine T.times.F.bM Wb (λvs H Q E h=>?_) (λaK Ar outer s H vs Q E hr h=>?_)
 ·exact nG vs H Q E h
 ·refine bb h λi j cA di k=>?_;obtain rfl:=cA;obtain⟨hi,hj⟩:=di;have nd:=Wb.nd
  intro X_ D_;refine aq (ax (aQ (bF (BV T) T.wrapped hr (ae (b9 aeo (pv 0) (pv 1)) az)))) ?_;rw[Z.abB]at k;refine vI rfl (vI rfl (cC _ _ rfl rfl (.inl ?_) (aq rfl ?_)))
  ·unfold Z.cz at hi;lia
  ·rw[Z.tp];exact k
def alT(T:Txt K mg A):aZ P w K mg base bu 2 A.wm A.FX ["y","z"] (kM 3):=by
 refine T.divided.F.bM Wd (λvs H Q E h=>?_) (λaK Ar outer s H vs Q E hr h=>?_)
 ·exact nG vs H Q E h
 ·refine bb h λi j eS eT k=>?_;obtain rfl:=eS;obtain⟨hi,hj⟩:=eT;have nd:=Wd.nd
  intro X_ D_;refine aq (au (bx (bz b_ (pv 1) aS (bt _)) (ax (aQ aS)) bI) (au (pS nd 2 (b9 aja (cV Ep T.HP EV (pv 0)) (cV Ep T.HP EV (pv 1)))) (ax (aQ (bF (BV T) T.wrapped hr (ae (p6 (bz b_ (rD tT (pv 0) aS (bt _)) (rD tT (pv 1) aS (bt _)) (bt _)) (pv 2) (tS En (pv 2))) az)))))) ?_;refine vI rfl (cg rfl _ rfl (bW (λh1=>?_) λh1=>?_))
  ·have h2:j=0:=by simpa using h1
   rw[Z.QE,if_pos h2]at k;exact k
  ·have h2:j≠0:=by simpa using h1
   rw[Z.QE,if_neg h2,<-Z.abI h2]at k;have hab:Z.fS j≠0:=by unfold Z.fS;split<;>lia
   have vZ:0<=Z.fS j:=by unfold Z.fS;split<;>lia
   refine vI rfl (aq rfl (vI rfl (aq rfl (cC _ _ rfl rfl ⟨hab,?_⟩ ?_))))
   ·show(Z.fS j).natAbs<2^65;unfold Z.cz at hj;unfold Z.fS;split<;>lia
   ·have ed:(Z.fS i).fdiv (Z.fS j)=Z.fS i/Z.fS j:=auP _ vZ;refine vI rfl (iI (vI rfl (iI (cg rfl _ rfl (bW (λh3=>?_) λh3=>?_)))))
    ·refine vI rfl (aq rfl ?_);have h4:decide (i<0)=decide (j<0):=by simpa using h3
     rw[if_pos h4]at k;rw[Z.tp];show Q (V.int (aaD ((Z.fS i).fdiv (Z.fS j)))) _;rw[ed];exact k
    ·refine vI rfl (aq rfl (aq rfl ?_));have h4:¬decide (i<0)=decide (j<0):=by intro q;exact h3 (by simp[q])
     rw[if_neg h4]at k;rw[Z.tp];show Q (V.int (aaD (-((Z.fS i).fdiv (Z.fS j))))) _;rw[ed];exact k
def alV(T:Txt K mg A):aZ P w K mg base bu 1 A.wo A.FY ["y","z"] (kM 4):=by
 refine T.remainder.F.bM We (λvs H Q E h=>?_) (λaK Ar outer s H vs Q E hr h=>?_)
 ·exact nG vs H Q E h
 ·refine bb h λi j ij l5 k=>?_;obtain rfl:=ij;obtain⟨hi,hj⟩:=l5;have nd:=We.nd
  intro X_ D_;refine aq (au (bx (bz b_ (pv 1) aS (bt _)) (ax (aQ (pv 0))) bI) (au (pS nd 2 (b9 aep (cV Ep T.HP EV (pv 0)) (cV Ep T.HP EV (pv 1)))) (ax (aQ (p6 (bz tT (pv 0) aS (bt _)) (tS En (pv 2)) (pv 2)))))) ?_;refine vI rfl (cg rfl _ rfl (bW (λh1=>vI rfl ?_) λh1=>?_))
  ·have h2:j=0:=by simpa using h1
   rw[Z.QF,if_pos h2]at k;exact k
  ·have h2:j≠0:=by simpa using h1
   rw[Z.QF,if_neg h2,<-Z.abJ h2]at k;have vZ:0<Z.fS j:=by unfold Z.fS;split<;>lia
   refine vI rfl (aq rfl (vI rfl (aq rfl (cC _ _ rfl rfl vZ (vI rfl (iI (aq rfl (bW (λh3=>vI rfl (aq rfl ?_)) λh3=>vI rfl ?_))))))))
   ·have h4:i<0:=by simpa using h3
    rw[if_pos h4]at k;exact k
   ·have h4:¬i<0:=by simpa using h3
    rw[if_neg h4]at k;exact k
def alW(T:Txt K mg A):aZ P w K mg base bu 1 A.f_both A.FZ ["y","z"] (kM 5):=by
 refine T.both.F.bM alw (λvs H Q E h=>?_) (λaK Ar outer s H vs Q E hr h=>?_)
 ·exact nG vs H Q E h
 ·refine bb h λi j kA kB k=>?_;obtain rfl:=kA;obtain⟨hi,hj⟩:=kB;intro X_ D_;refine aq (ax (aQ (b9 p9 (pv 0) (pv 1)))) ?_;rw[Z.abC,<-Z.Kq hi hj]at k;exact vI rfl (vI rfl (iI k))
def alX(T:Txt K mg A):aZ P w K mg base bu 1 A.wq A.F4 ["y","z"] (kM 6):=by
 refine T.either.F.bM alx (λvs H Q E h=>?_) (λaK Ar outer s H vs Q E hr h=>?_)
 ·exact nG vs H Q E h
 ·refine bb h λi j vW MP k=>?_;obtain rfl:=vW;obtain⟨hi,hj⟩:=MP;intro X_ D_;refine aq (ax (aQ (b9 aeq (pv 0) (pv 1)))) ?_;rw[Z.abD,<-Z.QN hi hj]at k;exact vI rfl (vI rfl (iI k))
def alY(T:Txt K mg A):aZ P w K mg base bu 1 A.wt A.F5 ["y","z"] (kM 7):=by
 refine T.Vi.F.bM aly (λvs H Q E h=>?_) (λaK Ar outer s H vs Q E hr h=>?_)
 ·exact nG vs H Q E h
 ·refine bb h λi j MQ KP k=>?_;obtain rfl:=MQ;obtain⟨hi,hj⟩:=KP;intro X_ D_;refine aq (ax (aQ (b9 aer (pv 0) (pv 1)))) ?_;rw[Z.abE,<-Z.abH hi hj]at k;exact vI rfl (vI rfl (iI k))
def alZ(T:Txt K mg A):aZ P w K mg base bu 2 A.wu A.F6 ["y","z"] (kM 8):=by
 refine T.Vj.F.bM alz (λvs H Q E h=>?_) (λaK Ar outer s H vs Q E hr h=>?_)
 ·exact nG vs H Q E h
 ·refine bb h λi j al0 KQ k=>?_;obtain rfl:=al0;obtain⟨hi,hj⟩:=KQ;intro X_ D_;refine aq (ax (aQ (bF (BV T) T.wrapped hr (ae (b9 oN (pv 0) (b9 p9 (pv 1) (cU rfl T.VF))) az)))) ?_;have hm:=Z.QO j
  refine vI rfl (vI rfl (iI (cC _ _ rfl rfl (b8 ?_ ?_ ?_) (aq rfl ?_))))
  ·show 0<=gO j 63;rw[hm];lia
  ·show gO j 63<=1000000;rw[hm];lia
  ·unfold Z.cz at hi;omega
  ·rw[Z.abF]at k;rw[Z.tp];show Q (V.int (aaD (i*2^(gO j 63).toNat))) _;rw[hm,gR];exact k
def al1(T:Txt K mg A):aZ P w K mg base bu 1 A.wx A.F7 ["y","z"] (kM 9):=by
 refine T.Vk.F.bM alA (λvs H Q E h=>?_) (λaK Ar outer s H vs Q E hr h=>?_)
 ·exact nG vs H Q E h
 ·refine bb h λi j al2 al3 k=>?_;obtain rfl:=al2;obtain⟨hi,hj⟩:=al3;intro X_ D_;refine aq (ax (aQ (b9 RH (pv 0) (b9 p9 (pv 1) (cU rfl T.VF))))) ?_;have hm:=Z.QO j
  refine vI rfl (vI rfl (iI (cC _ _ rfl rfl ?_ ?_)))
  ·show 0<=gO j 63;rw[hm];omega
  ·rw[Z.abG]at k;show Q (V.int (i/2^(gO j 63).toNat)) _;rw[hm,gR];exact k
def al4(T:Txt K mg A):aZ P w K mg base bu 1 A.wy A.F8 ["y","z"] (kM 10):=by
 refine T.less.F.bM alB (λvs H Q E h=>?_) (λaK Ar outer s H vs Q E hr h=>?_)
 ·exact nG vs H Q E h
 ·refine bb h λi j al5 al6 k=>?_;obtain rfl:=al5;obtain⟨hi,hj⟩:=al6;intro X_ D_;refine aq (ax (aQ (p6 (bz tT (pv 0) (pv 1) (bt _)) aS aS))) ?_;refine vI rfl (vI rfl (iI (aq rfl (bW (λh1=>?_) λh1=>?_))))
  ·rw[Z.QG,show decide (i<j)=true from h1]at k;exact k
  ·rw[Z.QG,show decide (i<j)=false from by simpa using h1]at k;exact k
def al7(T:Txt K mg A):aZ P w K mg base bu 1 A.wz A.F9 ["y","z"] (kM 11):=by
 refine T.equal.F.bM alC (λvs H Q E h=>?_) (λaK Ar outer s H vs Q E hr h=>?_)
 ·exact nG vs H Q E h
 ·refine bb h λi j al8 KR k=>?_;obtain rfl:=al8;obtain⟨hi,hj⟩:=KR;intro X_ D_;refine aq (ax (aQ (p6 (bz b_ (pv 0) (pv 1) (bt _)) aS aS))) ?_;refine vI rfl (vI rfl (cg rfl _ rfl (bW (λh1=>?_) λh1=>?_)))
  ·rw[Z.QH,show(i==j)=true from by simpa using h1]at k;exact k
  ·rw[Z.QH,show(i==j)=false from by simpa using h1]at k;exact k
end
end
section
variable{i n j S:Nat}{H H':Hp}{p a:Addr}{ms Ls:List Nat}{α β:Type}{c:d6}{R:Nat->Addr->Hp->Prop}{qs:List Addr}
abbrev nI(n:Nat):V:= .int (n:Int)
abbrev al9:List String:=["+","-","*","/","@","&","|","^","<<",">>","<","=="]
def gK(k:Nat):Str:=cY (al9.getD k "")
def rT:ck->Str
 | .num _ _=>"number"| .copy _ _=>"copy"| .op _ _ _ _=>"operate"| .get _=>"in"| .put _=>"out"| .goto _=>"goto"| .cond _ _=>"if"| .ret _=>"ret"| .fetch _ _=>"fetch"| .keep _ _=>"put"
def gu(i:ck):V:=match fO i with
 |some d=>nI d
 |none=> .aL
def cQ:ck->List Nat
 | .op _ _ a b=>[a,b]
 |i=>gS i
def o_(lab:Nat->Str):ck->V
 | .num _ z=> .int z
 | .op k _ _ _=> .str (gK k)
 | .goto l=> .str (lab l)
 | .cond _ l=> .str (lab l)
 | .fetch _ s=>nI s
 | .keep s _=>nI s
 |_=> .aL
def rV{i:ck}{v:Nat}:v∈cQ i<->v∈gS i:=by cases i<;>simp[cQ,gS];split<;>simp_all
def BW(i:ck):(cQ i).length<=2:=by cases i<;>simp[cQ,gS]
def jj(A:aO)(H:Hp)(lab:Nat->Str)(p:Addr)(i:ck):Prop:=
 ∃dx u,H p=some (.ins A.c_ dx (g7 (.str (rT i)) (gu i) (.ref u) (o_ lab i)))/\H u=some (.tup ((cQ i).map nI))
def dG(A:aO)(H:Hp)(lab:Nat->Str)(l:Addr)(I:List ck):Prop:=
 ∃ps:List Addr,H l=some (.lst (ps.map V.ref))/\ps.length=I.length/\∀(j:Nat)(p:Addr)(i:ck),ps[j]?=some p->I[j]?=some i->jj A H lab p i
def c8(lab:Nat->Str)(c:d6):List (aT×V):=(Z.aN c).map λl=>(aJ (lab l),nI (bN c l))
def iu(A:aO)(H:Hp)(lab:Nat->Str)(p:Addr)(w:fg):Prop:=
 ∃dx sl ld,H p=some (.ins A.lB dx (BS (.ref sl) (.ref ld) (nI w.own) (nI w.vars) (nI w.slots)))/\dG A H lab sl (aH w.code)/\H ld=some (.dK (c8 lab w.code))
def HR(lab:Nat->Str)(c:d6):Prop:=∀l∈Z.aN c,∀m∈Z.aN c,lab l=lab m->l=m
structure g8 (lab:Nat->Str) (w:fg):Prop where
 W:Z.gD w
 F:Z.DV w
 L:HR lab w.code
 ll:(Z.aN w.code).length<=17000
 ls:∀l∈Z.aN w.code,(lab l).length<=8
def NL(H:Hp)(a:Addr)(ms:List Nat):Prop:=H a=some (.lst (ms.map nI))
def jj.same{A:aO}{lab:Nat->Str}{i:ck}(h:jj A H lab p i)(s:af H H'):jj A H' lab p i:=
 bZ h λdx u h1 h2=>(cD dx u (s _ _ h1) (s _ _ h2))
theorem dG.same{A:aO}{H H':Hp}{lab:Nat->Str}{p:Addr}{I:List ck}(h:dG A H lab p I)(s:af H H'):dG A H' lab p I:=
 bc h λps h1 h2 h3=>(aW ps (s _ _ h1) h2 λj q i a b=>(h3 j q i a b).same s)
theorem iu.same{A:aO}{H H':Hp}{lab:Nat->Str}{p:Addr}{w:fg}(h:iu A H lab p w)(s:af H H'):iu A H' lab p w:=
 bR h λdx sl ld h1 h2 h3=>(fQ dx sl ld (s _ _ h1) (h2.same s) (s _ _ h3))
def NL.same(h:NL H p ms)(s:af H H'):NL H' p ms:=s _ _ h
def LL(H:Hp)(a:Addr)(ws:List (List Nat)):Prop:=∃ps:List Addr,H a=some (.lst (ps.map V.ref))/\ps.length=ws.length/\∀(j:Nat)(p:Addr)(ms:List Nat),ps[j]?=some p->ws[j]?=some ms->NL H p ms
theorem LL.same{H H':Hp}{p:Addr}{ws:List (List Nat)}(h:LL H p ws)(s:af H H'):LL H' p ws:=
 bc h λps h1 h2 h3=>(aW ps (s _ _ h1) h2 λj q i a b=>(h3 j q i a b).same s)
def dk{f:α->β}{l:List α}{y:β}(h:(l.map f)[i]?=some y):∃x,l[i]?=some x/\y=f x:=by
 rw[qJ]at h;cases e:l[i]?with
 |none=>rw[e]at h;cases h
 |some x=>rw[e]at h;exact aF x rfl ((eB h).symm)
def cF{f:α->β}{l:List α}{x:α}(h:l[i]?=some x):(l.map f)[i]?=some (f x):=by rw[qJ,h];rfl
def cN{l:List α}{x:α}(h:l[i]?=some x):i<l.length:=(d0.mp h).1
def d_{l:List α}(h:i<l.length):∃x,l[i]?=some x:=⟨l[i],mN h⟩
def ee{l:List α}{x:α}(h:l[i]?=some x):l.take (i+1)=l.take i++[x]:=by rw[OS,h];rfl
def cI(h:n<=1000000):n<sizeLine:=by show n<2^24;lia
def g9(h:n<=1000000):n<=sizeLine:=Ju (cI h)
def HS{lab:Nat->Str}(L:HR lab c){l:Nat}(hl:l∈Z.aN c):cx (c8 lab c) (aJ (lab l):aT)=some (nI (bN c l)):=by
 unfold c8;have key:∀ls:List Nat,(∀m∈ls,m∈Z.aN c)->l∈ls->cx (ls.map λl=>((aJ (lab l):aT),nI (bN c l))) (aJ (lab l):aT)=some (nI (bN c l)):=by
  intro ls;induction ls with
  |nil=>intro _ h;simp at h
  |cons m r ih=>
   intro hs hm;rw[cM];by_cases e:lab m=lab l
   ·have:=L m (hs m (by simp)) l hl e;subst this;exact jZ rfl
   ·rw[jB (by intro q;exact e (Jt q))];refine ih (λx hx=>hs x (dn _ hx)) ?_;rcases cu.mp hm with h|h
    ·subst h;exact absurd rfl e
    ·exact h
 exact key _ (λ_ h=>h) hl
def dX(c:d6)(i:Nat):List Nat:=match(aH c)[i]?with
 |some (.goto l)=>[bN c l]
 |some (.cond _ l)=>[i+1,bN c l]
 |some (.ret _)=>[]
 |some _=>[i+1]
 |none=>[]
def MR:j∈dX c i<->j∈av4 c i:=by
 unfold dX av4;cases(aH c)[i]?with
 |none=>simp
 |some x=>cases x<;>simp[or_comm]
def j4(c:d6):List (List Nat):=(bD (aH c).length).map (dX c)
def MS(h:i<(aH c).length):(j4 c)[i]?=some (dX c i):=by unfold j4;exact cF (uI h)
def MT(h:j∈dX c i):j<=(aH c).length:=by
 unfold dX at h;cases e:(aH c)[i]?with
 |none=>rw[e]at h;simp at h
 |some x=>
  have hi:=cN e;have ht:=λl=>Z.ya l c;rw[e]at h;cases x<;>simp at h<;>first|omega|(subst h;exact ht _)|(rcases h with h|h;omega;subst h;exact ht _)
section
variable{P:Program}{w:a9}{K:aV}{mg:Str->Option Value}{A:aO}{base:Heap}
structure j5 (H:Hp) (a:Addr) (qs:List Addr) (R:Nat->Addr->Hp->Prop):Prop where
 at_:H a=some (.lst (qs.map V.ref))
 no:a∉qs
 all:∀(j:Nat)(q:Addr),qs[j]?=some q->R j q H
def j5.nil:j5 (upd H a (.lst [])) a [] R:=⟨ag,by simp,λj q h=>by simp at h⟩
def j5.snoc{l:Addr}(h:j5 H a qs R)(s:af H H')(hl:l≠a)(mono:∀j q,q≠a->R j q H->R j q (upd H' a (.lst ((qs++[l]).map V.ref))))(hn:R qs.length l (upd H' a (.lst ((qs++[l]).map V.ref)))):
  j5 (upd H' a (.lst ((qs++[l]).map V.ref))) a (qs++[l]) R where
 at_:=ag
 no:=λhm=>by
  rcases eO.mp hm with q|q
  ·exact h.no q
  ·simp at q;exact hl q.symm
 all:=λj q hj=>by
  rcases lL j qs.length with bH|lU
  ·rw[qS bH]at hj;exact mono j q (λe=>h.no (e▸cP hj)) (h.all j q hj)
  ·have MU:j=qs.length:=by have:=cN hj;rw[cj]at this;simp at this;lia
   subst MU;rw[uQ (aX _)]at hj;simp at hj;subst hj;exact hn
def al_{l:Addr}{Q:VK}(h:j5 H a qs R)(s:af H H')(hl:l≠a)(hz:qs.length<=1000000)(mono:∀j q,q≠a->R j q H->R j q (upd H' a (.lst ((qs++[l]).map V.ref))))(hn:R qs.length l (upd H' a (.lst ((qs++[l]).map V.ref))))
  (k:j5 (upd H' a (.lst ((qs++[l]).map V.ref))) a (qs++[l]) R->Q .aL (upd H' a (.lst ((qs++[l]).map V.ref)))):AR (.ref a) [.ref l] H' Q:=by
 refine gI (s _ _ h.at_) (by rw[aA];exact cI hz) ?_;have e:qs.map V.ref++[V.ref l]=(qs++[l]).map V.ref:=by simp
 rw[e];exact k (h.snoc s hl mono hn)
def rW(f:Nat->List Nat):Nat->Addr->Hp->Prop:=λj q H=>NL H q (f j)
def j5.ll{f:Nat->List Nat}(h:j5 H a qs (rW f)){ws:List (List Nat)}(hl:qs.length=ws.length)(hf:∀j ms,ws[j]?=some ms->ms=f j):LL H a ws:=
 (aW qs h.at_ hl λj p ms hj hw=>by rw[hf j ms hw];exact h.all j p hj)
def MV(h:(j4 c)[j]?=some ms):ms=dX c j:=by
 refine ar (dk h) λy hy bp=>?_;obtain rfl:=bp;have MW:j<(aH c).length:=by have:=cN hy;simpa using this
 rw[uI MW]at hy;rw[(eB hy)]
def MX(c:d6):(j4 c).length=(aH c).length:=by simp[j4]
def ama(A:aO):Sp:=λvs H Q _=>∃(p:Addr)(lab:Nat->Str)(wk:fg),vs=[.ref p]/\iu A H lab p wk/\g8 lab wk/\∀a H',af H H'->LL H' a (j4 wk.code)->Q (.ref a) H'
def MY{V:Nat}{l:Nat}(h:Z.e8 V S Ls (.goto l)):l∈Ls:=h
def MZ{V:Nat}{a l:Nat}(h:Z.e8 V S Ls (.cond a l)):l∈Ls:=h.2
def WR(H:Hp)(p a:Addr)(c:d6)(i:Nat)(σ:St)(H2:Hp):Prop:=∃(v2 v3:Option V)(qs:List Addr),σ=[some (.ref p),some (.ref a),v2,v3]/\af H H2/\j5 H2 a qs (rW (dX c))/\qs.length=i
def WS(T:Txt K mg A):aZ P w K mg base bu 1 A.E_ A.Fb ["program"] (ama A):=by
 refine T.MC.F.bM VP (λvs H Q E h=>?_) (λaK Ar outer s H vs Q E hr h=>?_)
 ·refine gb h λp lab wk bA _=>?_;obtain rfl:=bA;rfl
 ·obtain⟨p,lab,wk,rfl,hP,ok,k⟩:=h;have nd:=VP.nd
  have hu:=nA hr;intro X_ D_;refine aq (au (pS nd 1 (cK az)) (au (gj fP rfl (yU rfl T.wF (ae (aD (pv 0) rfl) az)) (oK rfl (g5 (pN nd 2) (g5 (pN nd 3) oJ))) (ax (bx (bz b_ (aD (pv 3) rfl) bG (bt _)) (ax (fJ (g6 (pv 1) (cK az)))) (ax (bx (bz b_ (aD (pv 3) rfl) bG (bt _)) (ax (fJ (g6 (pv 1) (cK (ae (vO hu (aD (pv 0) rfl) (aD (pv 3) rfl) (λ_ _=>rfl)) az))))) (ax (bx (bz b_ (aD (pv 3) rfl) bG (bt _)) (ax (fJ (g6 (pv 1) (cK (ae (b9 jx (pv 2) aS) (ae (vO hu (aD (pv 0) rfl) (aD (pv 3) rfl) (λ_ _=>rfl)) az)))))) (ax (fJ (g6 (pv 1) (cK (ae (b9 jx (pv 2) aS) az)))))))))))) (ax (aQ (pv 1))))) ?_;refine⟨by show 0<=sizeLine;decide,λa ha=>?_⟩;refine bR (id hP) λdx sl ld h1 bX h5=>?_;obtain⟨ps,h2,h3,h4⟩:=bX;have s0:=af.new (o:= .lst []) ha;refine ai rfl (s0 _ _ h1) T.Program.c T.rR rfl (aB sl _ rfl (ah.of (s0 _ _ h2)) (y1 (K:=K) (a:=sl) (xs:=ps.map V.ref) (p:=2) (q:=3) (WR H p a wk.code) ⟨none,none,[],rfl,s0,j5.nil,rfl⟩ (λi σ H2 _ ⟨_,_,_,_,s2,_⟩=>ah.of (s2 _ _ h2)) ?_ ?_))
  ·rintro i x Tu σ H2 hx ⟨v2,v3,qs,rfl,s2,hq,hl⟩ hT;refine ar (dk hx) λq fZ cA=>?_;obtain rfl:=cA;have hi:i<(aH wk.code).length:=by have:=cN fZ;lia
   obtain⟨ins,eN⟩:=d_ hi;have sT:=af.new (o:= .tup [.int (i:Nat), .ref q]) hT
   refine bZ (((h4 i q ins fZ eN).same s2).same sT) λdq u g1 g2=>?_;have hb:=ok.W.sb
   have jf:=ok.F.fit ins (cP eN);have fin:∀(ms:List Nat),ms=dX wk.code i->∀l,(upd H2 Tu (.tup [.int (i:Nat), .ref q])) l=none->
     AR (.ref a) [.ref l] (upd (upd H2 Tu (.tup [.int (i:Nat), .ref q])) l (.lst (ms.map nI))) (λ_ H4=>WR H p a wk.code (i+1) [some (.ref p),some (.ref a),some (.int (i:Nat)),some (.ref q)] H4):=by
    intro ms mx l gm;have s4:=af.new (o:= .lst (ms.map nI)) gm
    have iw:l≠a:=(bL (sT _ _ hq.at_) gm).symm;refine al_ hq (sT.trans s4) iw (by omega) (λj q' bh hR=>?_) ?_ λhA=>⟨_,_,qs++[l],rfl,((s2.trans sT).trans s4).upd ha,hA,by simp[hl]⟩
    ·show upd _ a _ q'=_;rw[aj bh];exact s4 _ _ (sT _ _ hR)
    ·show upd _ a _ l=_;rw[aj iw,ag,mx,hl]
   have qo:Ew K "list" (.ref a) (upd H2 Tu (.tup [.int (i:Nat), .ref q])):= .inl ⟨rfl,_,ah.of (sT _ _ hq.at_)⟩;have BX:∀l,l∈Z.aN wk.code->dC (upd H2 Tu (.tup [.int (i:Nat), .ref q])) ld (kV (aJ (lab l))) (some (nI (bN wk.code l))):=λl dM=>by rw[<-HS ok.L dM];exact dC.k (k:=aJ (lab l)) (sT _ _ (s2 _ _ h5))
   have WT:=sT _ _ (s2 _ _ h1);refine ai rfl g1 T.Step.c T.aP rfl (cg rfl _ rfl ?_);cases ins with
   |ret v=>
    refine bV (vI rfl (b8 qo (by show 0<=sizeLine;decide) λl gm=>fin [] (by unfold dX;rw[eN]) l gm))
   |goto l=>
    refine bS (ai rfl g1 T.Step.c T.aP rfl (dP rfl (vI rfl ⟨qo,ai rfl WT T.Program.c T.wA rfl (ai rfl g1 T.Step.c T.fY rfl (cC ld _ rfl (BX l (MY jf)) (by show 1<=sizeLine;decide) λl' gm=>?_))⟩)));exact fin [bN wk.code l] (by unfold dX;rw[eN]) l' gm
   |cond v l=>
    refine bS (ai rfl g1 T.Step.c T.aP rfl (aE rfl (ai rfl g1 T.Step.c T.aP rfl (dP rfl (vI rfl ⟨qo,vI rfl (iI (ai rfl WT T.Program.c T.wA rfl (ai rfl g1 T.Step.c T.fY rfl (cC ld _ rfl (BX l (MZ jf)) (by show 2<=sizeLine;decide) λl' gm=>?_))))⟩)))));exact fin [i+1,bN wk.code l] (by unfold dX;rw[eN]) l' gm
   |num d z=>
    refine bS (ai rfl g1 T.Step.c T.aP rfl (aE rfl (ai rfl g1 T.Step.c T.aP rfl (aE rfl (vI rfl ⟨qo,vI rfl (iI ⟨by show 1<=sizeLine;decide,λl' gm=>?_⟩)⟩)))));exact fin [i+1] (by unfold dX;rw[eN]) l' gm
   |copy d v=>
    refine bS (ai rfl g1 T.Step.c T.aP rfl (aE rfl (ai rfl g1 T.Step.c T.aP rfl (aE rfl (vI rfl ⟨qo,vI rfl (iI ⟨by show 1<=sizeLine;decide,λl' gm=>?_⟩)⟩)))));exact fin [i+1] (by unfold dX;rw[eN]) l' gm
   |op o d v v2'=>
    refine bS (ai rfl g1 T.Step.c T.aP rfl (aE rfl (ai rfl g1 T.Step.c T.aP rfl (aE rfl (vI rfl ⟨qo,vI rfl (iI ⟨by show 1<=sizeLine;decide,λl' gm=>?_⟩)⟩)))));exact fin [i+1] (by unfold dX;rw[eN]) l' gm
   |get d=>
    refine bS (ai rfl g1 T.Step.c T.aP rfl (aE rfl (ai rfl g1 T.Step.c T.aP rfl (aE rfl (vI rfl ⟨qo,vI rfl (iI ⟨by show 1<=sizeLine;decide,λl' gm=>?_⟩)⟩)))));exact fin [i+1] (by unfold dX;rw[eN]) l' gm
   |put v=>
    refine bS (ai rfl g1 T.Step.c T.aP rfl (aE rfl (ai rfl g1 T.Step.c T.aP rfl (aE rfl (vI rfl ⟨qo,vI rfl (iI ⟨by show 1<=sizeLine;decide,λl' gm=>?_⟩)⟩)))));exact fin [i+1] (by unfold dX;rw[eN]) l' gm
   |fetch d KI=>
    refine bS (ai rfl g1 T.Step.c T.aP rfl (aE rfl (ai rfl g1 T.Step.c T.aP rfl (aE rfl (vI rfl ⟨qo,vI rfl (iI ⟨by show 1<=sizeLine;decide,λl' gm=>?_⟩)⟩)))));exact fin [i+1] (by unfold dX;rw[eN]) l' gm
   |keep KI v=>
    refine bS (ai rfl g1 T.Step.c T.aP rfl (aE rfl (ai rfl g1 T.Step.c T.aP rfl (aE rfl (vI rfl ⟨qo,vI rfl (iI ⟨by show 1<=sizeLine;decide,λl' gm=>?_⟩)⟩)))));exact fin [i+1] (by unfold dX;rw[eN]) l' gm
  ·rintro σ H2 ⟨v2,v3,qs,rfl,s2,hq,hl⟩;refine vI rfl (k a H2 s2 (hq.ll (by rw[hl,aA,MX,h3]) λj ms h=>MV h))
end
end
section
variable{j p i:Nat}{ws:List (List Nat)}
def M0(a b:Nat):lO (a:Int) (b:Int)=((a|||b:Nat):Int):=by rw[LO.ait (by lia) (by omega)];simp
def y9(a b:Nat):gO (a:Int) (b:Int)=((a&&&b:Nat):Int):=by rw[ayo (by omega) (by omega)];simp
def amb(a b:Nat):OX (a:Int) (b:Int)=((a^^^b:Nat):Int):=by rw[LO.ais (by omega) (by omega)];simp
def WU(v:Nat):(1:Int)*2^((v:Int)).toNat=((2^v:Nat):Int):=by simp
def amc(b v:Nat):gO (b:Int) (gP ((2^v:Nat):Int))=((Z.cw b v:Nat):Int):=by
 rw[ayp,y9];unfold Z.cw;have:b&&&2^v<=b:=ZR
 lia
def HU(b v:Nat):gO (b:Int) (gP ((1:Int)*2^((v:Int)).toNat))=((Z.cw b v:Nat):Int):=by rw[WU,amc]
def BY(b v:Nat):lO (b:Int) ((1:Int)*2^((v:Int)).toNat)=((b|||2^v:Nat):Int):=by rw[WU,M0]
def qp{v:Nat}(h:v<=1000000):K3 1 (v:Int):=⟨by omega,by omega,by decide⟩
section
variable{P:Program}{w:a9}{K:aV}{mg:Str->Option Value}{A:aO}{base:Heap}
def amd:Sp:=λvs H Q _=>∃(a b:Addr)(ms js:List Nat),vs=[.ref a, .ref b]/\NL H a ms/\NL H b js/\(∀j∈js,j<ms.length)/\Q (nI (Z.fU ms js)) H
def WV(T:Txt K mg A):aZ P w K mg base bu 1 A.Fe A.Ff ["live","places"] (amd):=by
 refine T.joined.F.bM VR (λvs H Q E h=>?_) (λaK Ar outer s H vs Q E hr h=>?_)
 ·refine fR h λa b ms js bp _=>?_;obtain rfl:=bp;rfl
 ·refine fR h λa b ms js bA c0=>?_;refine fz c0 λha hb hj k=>?_;obtain rfl:=bA;have nd:=VR.nd
  intro X_ D_;refine aq (au (pS nd 2 aS) (au (gj fP rfl (kG (pv 1)) (pN nd 3) (ax (pA nd 2 (bK bU (pv 0) (pv 3) (λ_ _=>rfl)) vF))) (ax (aQ (pv 2))))) ?_;refine vI rfl (aW b rfl ⟨_,ah.of hb⟩ (rC (K:=K) (a:=b) (xs:=js.map nI) (λi σ H2=>H2=H/\∃v:Option V,σ=[some (.ref a),some (.ref b),some (nI (Z.fU ms (js.take i))),v]) ⟨rfl,none,rfl⟩ (λi σ H2 _ h=>by rw[h.1];exact ah.of hb) ?_ ?_))
  ·rintro i x σ H2 hx ⟨rfl,v,rfl⟩;refine ar (dk hx) λj BZ bX=>?_;obtain rfl:=bX;have hjm:=hj j (cP BZ)
   obtain⟨m,hm⟩:=d_ hjm;refine aq rfl (vI rfl (vI rfl (br (nI m) (ah.of ha) (bw rfl (cF hm)) (iI ⟨rfl,some (nI j),?_⟩))));show [some (V.ref a),some (V.ref b),some (V.int (lO _ _)),some (nI j)]=_;rw[M0,ee BZ,Z.acw,Z.jT hm]
  ·rintro σ H2 ⟨rfl,v,rfl⟩;refine vI rfl ?_;rw[eX (by simp)];exact k
def M1(i:ck)(b:Nat):Nat:=Z.jS (cQ i) (fO i) b
def amf(A:aO):Sp:=λvs H Q _=>∃(p:Addr)(lab:Nat->Str)(i:ck)(b:Nat),vs=[.ref p,nI b]/\jj A H lab p i/\(∀v∈Z.fF i,v<=1000000)/\Q (nI (M1 i b)) H
def amg(T:Txt K mg A):aZ P w K mg base bu 1 A.Fi A.Fj ["step","behind"] (amf A):=by
 refine T.U8.F.bM VT (λvs H Q E h=>?_) (λaK Ar outer s H vs Q E hr h=>?_)
 ·refine fR h λp lab i b cA _=>?_;obtain rfl:=cA;rfl
 ·refine fR h λp lab ins b di wd=>?_;refine cT wd λeS hv k=>?_;obtain rfl:=di;obtain⟨dx,u,h1,h2⟩:=eS;have nd:=VT.nd
  intro X_ D_;refine aq (au (pS nd 2 (pv 1)) (au (bx (iV (Aw (aD (pv 0) rfl))) (ax (pA nd 2 (tS Eo (b9 oN aS (aD (pv 0) rfl))) Em)) bI) (au (gj fP rfl (yA (aD (pv 0) rfl)) (pN nd 3) (ax (pA nd 2 (b9 oN aS (pv 3)) vF))) (ax (aQ (pv 2)))))) ?_;have loop:∀c:Nat,c=Z.DW b (fO ins)->p7 (RE (RD K (vJ K (pY 0) "used")) (m7 3) (KZ 2 (AD (rI K3 λi j=> .int (i*2^j.toNat)) (tC (.int 1)) (pY 3)) (jw λi j=> .int (lO i j)))) (Rx (pY 2)) {nx:=λ_ H'=>Q .aL H',rt:=Q} [some (.ref p),some (nI b),some (nI c),none] H:=by
   intro c hc;refine ai rfl h1 T.Step.c T.qm rfl (aW u rfl ⟨_,dm.of h2⟩ (RF (K:=K) (a:=u) (xs:=(cQ ins).map nI) (λi σ H2=>H2=H/\∃v:Option V,σ=[some (.ref p),some (nI b),some (nI (Z.tE ((cQ ins).take i) c)),v]) ⟨rfl,none,rfl⟩ (λi σ H2 _ h=>by rw[h.1];exact dm.of h2) ?_ ?_))
   ·rintro i x σ H2 hx ⟨rfl,v,rfl⟩;refine ar (dk hx) λj BZ eT=>?_;obtain rfl:=eT;have hjv:j<=1000000:=hv j (hZ _ (rV.mp (cP BZ)))
    refine aq rfl (vI rfl (cC _ _ rfl rfl (qp hjv) (iI ⟨rfl,some (nI j),?_⟩)));show [some (V.ref p),some (nI b),some (V.int (lO _ ((1:Int)*2^((j:Int)).toNat))),some (nI j)]=_;rw[BY,ee BZ,Z.acx]
   ·rintro σ H2 ⟨rfl,v,rfl⟩;refine vI rfl ?_;rw[eX (by simp),hc];exact k
  refine vI rfl (ai rfl h1 T.Step.c T.eU rfl (aq rfl ?_));cases hg:fO ins with
  |none=>
   have e:gu ins= .aL:=by unfold gu;rw[hg]
   rw[e];exact bS (loop b (by rw[hg];rfl))
  |some d=>
   have e:gu ins=nI d:=by unfold gu;rw[hg]
   have hd:d<=1000000:=hv d (iz _ (by simp[hg]));rw[e];refine bV (aq rfl (ai rfl h1 T.Step.c T.eU rfl ?_));rw[e];refine cC _ _ rfl rfl (qp hd) (aq rfl (iI ?_));have:=loop (Z.cw b d) (by rw[hg];rfl);rw[show nI (Z.cw b d)=V.int (gO (b:Int) (gP ((1:Int)*2^((d:Int)).toNat))) by rw[HU]]at this;exact this
def bk(L:List (Nat×Nat))(j:Nat):List Nat:=(L.filter λx=>decide (x.2=j)).map (·.1)
def WW{L:List (Nat×Nat)}:p∈bk L j<->(p,j)∈L:=by
 unfold bk;simp only[kW,fq,decide_eq_true_eq];constructor
 ·rintro⟨⟨a,b⟩,⟨h1,h2⟩,h3⟩;simp at h2 h3;subst h2;subst h3;exact h1
 ·intro h;exact aF (p,j) ⟨h,rfl⟩ rfl
def ami(L:List (Nat×Nat))(p t j:Nat):bk (L++[(p,t)]) j=if t=j then bk L j++[p]else bk L j:=by unfold bk;rw[kU,gA,kb,List.filter_nil];by_cases h:t=j<;>simp[h]
def amj(L:List (Nat×Nat))(j:Nat):(bk L j).length<=L.length:=by unfold bk;rw[aA];exact uJ _ _
def Lw(ws:List (List Nat))(i:Nat):List (Nat×Nat):=((ws.take i).zipIdx).flatMap λx=>x.1.map λj=>(x.2,j)
def WX{ms:List Nat}(h:ws[i]?=some ms):Lw ws (i+1)=Lw ws i++ms.map λj=>(i,j):=by
 unfold Lw;rw[ee h,auj,aaE];have:(ws.take i).length=i:=by have:=cN h;rw[fw];lia
 simp[this]
def WY:(p,j)∈Lw ws i<->p<i/\∃ms,ws[p]?=some ms/\j∈ms:=by
 unfold Lw;rw[xF];constructor
 ·rintro⟨⟨ms,q⟩,h1,h2⟩;rw[OR]at h1;simp at h2;obtain⟨h2,rfl⟩:=h2;rw[av5]at h1;split at h1
  ·exact cg (by assumption) ms h1 h2
  ·cases h1
 ·rintro⟨h1,ms,h2,h3⟩;refine⟨(ms,p),?_,by simpa using h3⟩;rw[OR,av5,if_pos h1,h2]
theorem WZ{ws:List (List Nat)}(h2:∀ms∈ws,ms.length<=2):∀i,(Lw ws i).length<=2*i
 |0=>by simp[Lw]
 |i+1=>by
  have ih:=WZ h2 i;cases e:ws[i]?with
  |none=>
   have:Lw ws (i+1)=Lw ws i:=by unfold Lw;rw[OS,e];simp
   rw[this];lia
  |some ms=>rw[WX e,cj,aA];have:=h2 ms (cP e);lia
def amk:Sp:=λvs H Q _=>∃(a:Addr)(ws:List (List Nat)),vs=[.ref a]/\LL H a ws/\ws.length<=2000/\(∀ms∈ws,ms.length<=2/\∀j∈ms,j<=ws.length)/\
 ∀b qs H',af H H'->j5 H' b qs (rW (bk (Lw ws ws.length)))->qs.length=ws.length+1->Q (.ref b) H'
def aml{qs:List Addr}{l:Addr}(h:qs.Nodup)(hl:l∉qs):(qs++[l]).Nodup:=by rw[lM];exact b8 h (by simp) λa ha b hb e=>by simp at hb;subst hb;subst e;exact hl ha
def amm(T:Txt K mg A):aZ P w K mg base bu 1 A.Fc A.Fd ["ways"] (amk):=by
 refine T.U7.F.bM VQ (λvs H Q E h=>?_) (λaK Ar outer s H vs Q E hr h=>?_)
 ·refine bZ h λa ws ij _=>?_;obtain rfl:=ij;rfl
 ·refine iE h λa ws l5 kA hn hw k=>?_;obtain rfl:=l5;obtain⟨ps,h1,h2,h3⟩:=kA;have nd:=VQ.nd
  intro X_ D_;refine aq (au (yK (i:=1) rfl nd rfl rfl (yL rfl rfl rfl rfl) (Eg rfl T.y6 (ae (b9 jx (cV fD T.dF dQ (pv 0)) aS) az)) (kI (N:=["ways","back","place","following","other"]) (sc:=aU Ml) (own:=[("place",2)]) (by decide+kernel)) (λ_ _ _ _ _=>(pN nd 2)) (λ_ _ _ _ _=>mi) (λ_ _ _ _ _=>(cK az))) (au (gj fP rfl (yU rfl T.wF (ae (pv 0) az)) (oK rfl (g5 (pN nd 2) (g5 (pN nd 3) oJ))) (ax (gj fP rfl (kG (pv 3)) (pN nd 4) (ax (fJ (g6 (bK bU (pv 1) (pv 4) (λ_ _=>rfl)) (pv 2))))))) (ax (aQ (pv 1))))) ?_;refine vI rfl (aB a _ rfl (.inl (ah.of h1)) (iI (d7 (ws.length+1:Nat) (by rw[aA,h2];rfl) (by lia) (by lia) λD hD=>?_)));refine SN (lo:=0) (n:=((ws.length+1:Nat):Int).toNat) (λi H2=>∃qs:List Addr,af H H2/\j5 H2 D qs (rW λ_=>[])/\qs.Nodup/\qs.length=i/\∀q∈qs,H q=none) ⟨[],af.new hD,j5.nil,by simp,rfl,by simp⟩ ?_ ?_
  ·rintro i H2 hi ⟨qs,s2,hq,qn,ql,qf⟩;refine b8 rfl (by show 0<=sizeLine;decide) λl hl=>?_;have W0:l≠D:=(bL hq.at_ hl).symm
   have rX:H l=none:=by
    cases e:H l with
    |none=>rfl
    |some o=>rw[s2 _ _ e]at hl;cases hl
   have hlq:l∉qs:=λhm=>by
    obtain⟨j,hj⟩:=zX hm;have:=hq.all j l hj
    unfold rW NL at this;rw[this]at hl;cases hl
   have s4:=af.new (o:= .lst []) hl;refine aW (qs.map V.ref) (s4 _ _ hq.at_) (by rw[aA];exact cI (by lia)) ⟨qs++[l],?_⟩;have e:qs.map V.ref++[V.ref l]=(qs++[l]).map V.ref:=by simp
   rw[e];refine k9 ((s2.trans s4).upd hD) (hq.snoc s4 W0 (λj q bh hR=>?_) ?_) (aml qn hlq) (by simp[ql]) λq qa=>?_
   ·show upd _ D _ q=_;rw[aj bh];exact s4 _ _ hR
   ·show upd _ D _ l=_;rw[aj W0,ag];rfl
   ·rcases eO.mp qa with z|z
    ·exact qf q z
    ·simp at z;subst z;exact rX
  ·rintro H2 ⟨qs,s2,hq,qn,ql,qf⟩;have ql':qs.length=ws.length+1:=by rw[ql];simp
   refine vI rfl (aB a _ rfl (ah.of (s2 _ _ h1)) (y1 (K:=K) (a:=a) (xs:=ps.map V.ref) (p:=2) (q:=3) (λi σ H3=>∃v2 v3 v4:Option V,σ=[some (.ref a),some (.ref D),v2,v3,v4]/\af H H3/\j5 H3 D qs (rW (bk (Lw ws i)))) (fQ none none none rfl s2 ⟨hq.at_,hq.no,λj q h=>by
    have:=hq.all j q h
    unfold rW at this⊢
    rw[show bk (Lw ws 0) j=[] by simp[bk,Lw]];exact this⟩) (λi σ H3 _ amq=>bR amq λ_ _ _ _ s3 _=>ah.of (s3 _ _ h1)) ?_ ?_))
   ·rintro i x Tu σ H3 hx ⟨v2,v3,v4,rfl,s3,y_⟩ hT;refine ar (dk hx) λf hf vW=>?_;obtain rfl:=vW;have hi:i<ws.length:=by have:=cN hf;lia
    obtain⟨ms,mx⟩:=d_ hi;obtain⟨W2,hmj⟩:=hw ms (cP mx);have sT:=af.new (o:= .tup [.int (i:Nat), .ref f]) hT
    have nH:=(((h3 i f ms hf mx).same s3).same sT);refine vI rfl (aW f rfl ⟨_,ah.of nH⟩ (rC (K:=K) (a:=f) (xs:=ms.map nI) (λt σ H4=>∃v4:Option V,σ=[some (.ref a),some (.ref D),some (nI i),some (.ref f),v4]/\af H H4/\j5 H4 D qs (rW (bk (Lw ws i++(ms.take t).map λj=>(i,j)))))
     (aW v4 rfl (s3.trans sT) ⟨sT _ _ y_.at_,y_.no,λj q h=>by
      have:=y_.all j q h
      show(upd H3 Tu _) q=_
      simp only[avC,jH,qR]
      exact sT _ _ this⟩) (λt σ H4 _ KO=>bc KO λ_ _ s4 _=>ah.of (s4 _ _ (h3 i f ms hf mx))) ?_ ?_))
    ·rintro t x σ H4 hx ⟨v4,rfl,s4,rY⟩;refine ar (dk hx) λj hj MQ=>?_;obtain rfl:=MQ;have MW:j<qs.length:=by have:=hmj j (cP hj);lia
     obtain⟨q,fZ⟩:=d_ MW;have W3:=rY.all j q fZ
     have hqH:H q=none:=qf q (cP fZ);have hqD:q≠D:=λe=>rY.no (e▸cP fZ);have hL:=WZ (λms h=>(hw ms h).1) i;refine vI rfl (vI rfl (br (V.ref q) (ah.of rY.at_) (bw rfl (cF fZ)) ⟨.inl ⟨rfl,_,ah.of W3⟩,vI rfl (gI W3 ?_ ?_)⟩))
     ·rw[aA];refine cI ?_;have:=amj (Lw ws i++(ms.take t).map λj=>(i,j)) j
      rw[cj,aA,fw]at this;lia
     ·refine aW (some (nI j)) rfl (s4.upd hqH) ⟨by rw[aj hqD.symm];exact rY.at_,rY.no,λj' q' B5=>?_⟩;have h6:=rY.all j' q' B5
      unfold rW NL at h6⊢;rw[ee hj,gA,<-kf,cM,jH,ami];by_cases e:j'=j
      ·subst e;have:q'=q:=eB (B5.symm.trans fZ)
       subst this;rw[ag,if_pos rfl,gA];rfl
      ·have bh:q'≠q:=λz=>e (Tv qn B5 (z▸fZ));rw[aj bh,if_neg (λz=>e z.symm)];exact h6
    ·rintro σ H4 ⟨v4,rfl,s4,rY⟩;refine fQ _ _ _ rfl s4 ?_;rw[aA,eX (aX _),<-WX mx]at rY;exact rY
   ·rintro σ H3 ⟨v2,v3,v4,rfl,s3,y_⟩;refine vI rfl (k D qs H3 s3 ?_ ql');rw[aA,h2]at y_;exact y_
end
end
section
variable{j:Nat}{α:Type}{H1 H2:Hp}{la pa ia:Addr}{live pend:List Nat}{dw:List Bool}
theorem wG{α:Type}(x:α):∀n:Nat,(cW n [x]).flatten=cW n x
 |0=>rfl
 |n+1=>by rw[Dc,JQ,wG x n];rfl
def amu{n:Nat}(h:j<n):nj n (j:Int)=some j:=by unfold nj;rw[if_pos (by lia),if_pos (by lia)];simp
def i3{l:List α}(h:j<l.length):nj l.length (j:Int)=some j:=amu h
def amv{l:List α}(h:l≠[]):∃q x,l=q++[x]:=(ki l.dropLast (l.getLast h) ((aul h).symm))
section
variable{P:Program}{w:a9}{K:aV}{mg:Str->Option Value}{A:aO}{base:Heap}
def qr(c:d6)(i:Nat):List Nat:=match(aH c)[i]?with
 |some x=>cQ x
 |none=>[]
def amw{lab:Nat->Str}{wk:fg}(ok:g8 lab wk):Z.Wc wk.code (qr wk.code) (dX wk.code) (aH wk.code).length wk.vars:=
 ⟨rfl,λi x hx v=>by unfold qr;rw[hx];exact rV,λi j=>MR,λi x hx v hv=>by
  unfold qr at hv;rw[hx]at hv
  exact ok.W.lt x (cP hx) v (hZ _ (rV.mp hv))⟩
def B6(c:d6)(L:List Nat):Prop:=L.length=(aH c).length+1/\(∀i v,(L.getD i 0).testBit v=true<->av6 c v i)
def amx(A:aO):Sp:=λvs H Q _=>∃(p:Addr)(lab:Nat->Str)(wk:fg),vs=[.ref p]/\iu A H lab p wk/\g8 lab wk/\∀a L H',af H H'->NL H' a L->B6 wk.code L->Q (.ref a) H'
structure pb (H1:Hp) (la pa ia:Addr) (live pend:List Nat) (dw:List Bool) (H2:Hp):Prop where
 s:af H1 H2
 l:NL H2 la live
 p:NL H2 pa pend
 i:H2 ia=some (.lst (dw.map V.bl))
structure HV (H1:Hp) (la pa ia:Addr):Prop where
 nl:H1 la=none
 np:H1 pa=none
 ni:H1 ia=none
 lp:la≠pa
 li:la≠ia
 pi:pa≠ia
def pb.amy{live':List Nat}(h:pb H1 la pa ia live pend dw H2)(n:HV H1 la pa ia):pb H1 la pa ia live' pend dw (upd H2 la (.lst (live'.map nI))):=
 ⟨h.s.upd n.nl,ag,by show upd _ _ _ _=_;rw[aj n.lp.symm];exact h.p,by rw[aj n.li.symm];exact h.i⟩
def pb.W4{pend':List Nat}(h:pb H1 la pa ia live pend dw H2)(n:HV H1 la pa ia):pb H1 la pa ia live pend' dw (upd H2 pa (.lst (pend'.map nI))):=
 ⟨h.s.upd n.np,by show upd _ _ _ _=_;rw[aj n.lp];exact h.l,ag,by rw[aj n.pi.symm];exact h.i⟩
def pb.W5{isP':List Bool}(h:pb H1 la pa ia live pend dw H2)(n:HV H1 la pa ia):pb H1 la pa ia live pend isP' (upd H2 ia (.lst (isP'.map V.bl))):=
 ⟨h.s.upd n.ni,by show upd _ _ _ _=_;rw[aj n.li];exact h.l,by show upd _ _ _ _=_;rw[aj n.pi];exact h.p,ag⟩
def W6(T:Txt K mg A):aZ P w K mg base bu 2 A.Fg A.Fh ["program"] (amx A):=by
 refine T.MD.F.bM VS (λvs H Q E h=>?_) (λaK Ar outer s H vs Q E hr h=>?_)
 ·refine gb h λp lab wk bp _=>?_;obtain rfl:=bp;rfl
 ·obtain⟨p,lab,wk,rfl,hP,ok,k⟩:=h;have nd:=VS.nd
  have hu:=nA hr;have C:=amw ok;have hb:=ok.W.sb;have wH:=ok.W.vb;intro X_ D_;refine aq (au (pS nd 1 (bF (WS T) T.MC hr (ae (pv 0) az))) (au (pS nd 2 (bF (amm T) T.U7 hr (ae (pv 1) az))) (au (pS nd 3 (b9 yH (cK (ae aS az)) (b9 jx (cV fD T.dF dQ (pv 1)) aS))) (au (pS nd 4 (qh (TR rfl) T.MN L4 (qh TQ T.y6 TN (cV fD T.dF dQ (pv 1))))) (au (pS nd 5 (b9 yH (cK (ae rq az)) (cV fD T.dF dQ (pv 1)))) (au (Az fP (bz oO (cV fD T.dF dQ (pv 4)) aS (bt _)) (au (pS nd 6 (Sn aax PySem.F.slot_list_pop PySem.F.type_list_pop agw (pv 4))) (au (tO rq (tN (pv 5) (pv 6) nq)) (au (pS nd 7 (bF (amg T) T.U8 hr (ae (bK bU (aD (pv 0) rfl) (pv 6) (λ_ _=>rfl)) (ae (bF (WV T) T.joined hr (ae (pv 3) (ae (bK bU (pv 1) (pv 6) (λ_ _=>rfl)) az))) az)))) (au (bx (bz b_ (pv 7) (bK bU (pv 3) (pv 6) (λ_ _=>rfl)) (bt _)) (ax KS) bI) (au (tO (pv 7) (tN (pv 3) (pv 6) nq)) (ax (gj fP rfl (kG (bK bU (pv 2) (pv 6) (λ_ _=>rfl))) (pN nd 8) (ax (bx (vC (je (bK bU (pv 5) (pv 8) (λ_ _=>rfl)))) (au (tO rq (tN (pv 5) (pv 8) nq)) (ax (fJ (g6 (pv 4) (pv 8))))) bI)))))))))) (ax (aQ (pv 3))))))))) ?_;refine vI rfl (kj p lab wk rfl hP ok λwa Ha sa uj=>?_);have ji:(j4 wk.code).length=(aH wk.code).length:=MX _;refine vI rfl (gU wa (j4 wk.code) rfl uj (by lia) (λms mx=>?_) λba qs H1 s1 W7 hql=>?_)
  ·obtain⟨i,hi⟩:=zX mx;have:=MV hi
   subst this;refine⟨?_,λj hj=>by rw[ji];exact MT hj⟩;unfold dX;cases(aH wk.code)[i]?with
   |none=>simp
   |some x=>cases x<;>simp
  refine bc (id (uj.same s1)) λps g1 g2 g3=>?_;have M3:=(hP.same sa).same s1
  refine bR (id M3) λdx sl ld h1 bA h5=>?_;obtain⟨st,h2,h3,h4⟩:=bA;generalize hn:(aH wk.code).length=n at*;refine⟨by show 1<=sizeLine;decide,λz1 wI=>?_⟩;have jk:=af.new (o:= .lst [V.int 0]) wI
  refine vI rfl (aB wa _ rfl (.inl (ah.of (jk _ _ g1))) (iI (u6 z1 ((n+1:Nat):Int) [V.int 0] rfl (by rw[aA,g2,ji];rfl) ag (by lia) (by lia) (by show 1*(((n+1:Nat):Int)).toNat<=2^24;lia) λla iw=>?_)));have HW:=af.new (o:= .lst (cW ((((n+1:Nat):Int)).toNat) [V.int 0]).flatten) iw
  have ela:(cW ((((n+1:Nat):Int)).toNat) [V.int 0]).flatten=(cW (n+1) 0).map nI:=by rw[wG,Dl,gR];rfl
  rw[ela]at HW⊢;refine vI rfl (aB wa _ rfl (.inl (ah.of (HW _ _ (jk _ _ g1)))) (aq rfl λr hrn=>?_));have sr:=af.new (o:= .rn 0 ((ps.map V.ref).length:Nat)) hrn
  refine cC r n rfl (by rw[ag,aA,g2,ji]) (by lia) λpa rZ=>?_;have M4:=af.new (o:= .lst ((bD n).map nI)) rZ
  refine⟨by show 1<=sizeLine;decide,λz2 Bq=>?_⟩;have qt:=af.new (o:= .lst [V.bl true]) Bq
  have s5:=((((jk.trans HW).trans sr).trans M4).trans qt);refine vI rfl (aB wa _ rfl (.inl (ah.of (s5 _ _ g1))) (u6 z2 (n:Int) [V.bl true] rfl (by rw[aA,g2,ji]) ag (by lia) (by lia) (by show 1*((n:Int)).toNat<=2^24;lia) λia B7=>?_));have eia:(cW (((n:Int)).toNat) [V.bl true]).flatten=(cW n true).map V.bl:=by rw[wG,Dl,gR]
  rw[eia];have M5:=af.new (o:= .lst ((cW n true).map V.bl)) B7
  have nl:H1 la=none:=by
   cases e:H1 la with
   |none=>rfl
   |some o=>rw[jk _ _ e]at iw;cases iw
  have np:H1 pa=none:=by
   cases e:H1 pa with
   |none=>rfl
   |some o=>rw[sr _ _ (HW _ _ (jk _ _ e))]at rZ;cases rZ
  have ni:H1 ia=none:=by
   cases e:H1 ia with
   |none=>rfl
   |some o=>rw[s5 _ _ e]at B7;cases B7
  have ne:HV H1 la pa ia:=⟨nl,np,ni,bL (sr _ _ ag) rZ,bL (qt _ _ (M4 _ _ (sr _ _ ag))) B7,bL (qt _ _ ag) B7⟩;refine⟨λm σ H2=>∃(live pend:List Nat)(dw:List Bool)(v6 v7 v8:Option V),σ=[some (.ref p),some (.ref wa),some (.ref ba),some (.ref la),some (.ref pa),some (.ref ia),v6,v7,v8]/\pb H1 la pa ia live pend dw H2/\Z.Wl wk.code (qr wk.code) (dX wk.code) n wk.vars live pend dw []/\m=Z.room wk.vars live*(n+1)+pend.length,lg _ _ _ _ none none none rfl ⟨s5.trans M5,M5 _ _ (qt _ _ (M4 _ _ (sr _ _ ag))),M5 _ _ (qt _ _ ag),ag⟩ (Z.Wl.start C) rfl,?_⟩;rintro m σ H2 ⟨live,pend,dw,v6,v7,v8,rfl,hh,wl,rfl⟩;refine vI rfl (aB pa _ rfl (.inl (ah.of hh.p)) (iI (aq rfl (bW (λht=>?_) λht=>?_))))
  ·have bh:pend≠[]:=λe=>by subst e;simp at ht
   refine lh (amv bh) λq pl bX=>?_;obtain rfl:=bX;refine aq (λ_ _ h=>h) ?_;obtain⟨W8,fk⟩:=wl.popped;have amC:pl<n:=fk
   obtain⟨ins,eN⟩:=d_ (show pl<(aH wk.code).length by lia);have amD:pl<dw.length:=by rw[wl.lp];exact amC
   refine vI rfl ⟨.inl ⟨rfl,_,ah.of hh.p⟩,pa,_,nI pl,rfl,rfl,hh.p,by simp,?_⟩;have e1:((q++[pl]).map nI).dropLast=q.map nI:=by simp
   rw[e1];have W9:=hh.W4 (pend':=q) ne
   refine vI rfl (vI rfl (iY W9.i (by rw[aA];exact i3 amD) ?_));have e2:(dw.map V.bl).set pl (V.bl false)=(dw.set pl false).map V.bl:=by rw[uX]
   rw[e2];have qu:=W9.W5 (isP':=dw.set pl false) ne
   obtain⟨M6,md⟩:=d_ (show pl<st.length by lia);obtain⟨f,hf⟩:=d_ (show pl<ps.length by lia);have kD:=(h4 pl M6 ins md eN).same qu.s
   have nH:=(g3 pl f _ hf (MS (show pl<(aH wk.code).length by lia))).same qu.s;have HX:=wl.ll;have i4:∀v∈Z.fF ins,v<=1000000:=λv hv=>by have:=ok.W.lt ins (cP eN) v hv;lia
   refine ai rfl (qu.s _ _ h1) T.Program.c T.rR rfl (vI rfl (br (V.ref M6) (ah.of (qu.s _ _ h2)) (bw rfl (cF md)) (vI rfl (vI rfl (vI rfl (br (V.ref f) (ah.of (qu.s _ _ g1)) (bw rfl (cF hf)) (gC la f live (dX wk.code pl) rfl qu.l nH (λj hj=>by have:=MT hj;lia) ⟨M6,lab,ins,Z.fU live (dX wk.code pl),rfl,kD,i4,?_⟩)))))));have amE:M1 ins (Z.fU live (dX wk.code pl))=Z.jS (qr wk.code pl) (fO ins) (Z.fU live (dX wk.code pl)):=by unfold M1 qr;rw[eN]
   rw[amE];obtain⟨lm,B8⟩:=d_ (show pl<live.length by lia);refine vI rfl (vI rfl (vI rfl (br (nI lm) (ah.of qu.l) (bw rfl (cF B8)) (cg rfl _ rfl (bW (λhq=>?_) λhq=>?_)))))
   ·have eq:Z.jS (qr wk.code pl) (fO ins) (Z.fU live (dX wk.code pl))=lm:=by have:=of_decide_eq_true hq;have:=V.int.inj this;lia
    refine aq ?_ (jq live q _ _ _ _ rfl qu (W8.same eN (by rw[Z.jT B8,eq])) rfl);rw[cj];simp
   ·have amF:¬Z.jS (qr wk.code pl) (fO ins) (Z.fU live (dX wk.code pl))=live.getD pl 0:=by rw[Z.jT B8];intro e;exact hq (by rw[e];simp)
    have hbk:∀i,i<n->(pl∈dX wk.code i<->i∈bk (Lw (j4 wk.code) (j4 wk.code).length) pl):=λi hi=>by
     rw[WW,WY];constructor
     ·intro h;exact cg (by lia) _ (MS (by lia)) h
     ·rintro⟨_,ms,h1,h2⟩;rw[MV h1]at h2;exact h2
    obtain⟨W_,bH⟩:=W8.grown C eN hbk amF;generalize hB:Z.jS (qr wk.code pl) (fO ins) (Z.fU live (dX wk.code pl))=bits at*;have amH:bits<2^wk.vars:=W_.lt pl bits (by rw[i7 (by lia)])
    rw[Z.jT B8]at bH;have amI:=Z.acE (V:=wk.vars) B8 bH (Ju amH)
    refine vI rfl (vI rfl (vI rfl (iY qu.l (by rw[aA];exact i3 (by lia)) ?_)));have e3:(live.map nI).set pl (nI bits)=(live.set pl bits).map nI:=by rw[uX]
    rw[e3];have M7:=qu.amy (live':=live.set pl bits) ne
    obtain⟨bq,Xa⟩:=d_ (show pl<qs.length by lia);have pf:∀H3,af H1 H3->NL H3 bq (bk (Lw (j4 wk.code) (j4 wk.code).length) pl):=λH3 s3=>NL.same (W7.all pl bq Xa) s3
    have M8:∀e∈bk (Lw (j4 wk.code) (j4 wk.code).length) pl,e<n:=λe he=>by rw[WW,WY]at he;lia
    generalize hbE:bk (Lw (j4 wk.code) (j4 wk.code).length) pl=BK at*;refine vI rfl (vI rfl (br (V.ref bq) (ah.of (M7.s _ _ W7.at_)) (bw rfl (cF Xa)) (aW bq rfl ⟨_,ah.of (pf _ M7.s)⟩ (rC (K:=K) (a:=bq) (xs:=BK.map nI) (λt σ H4=>∃(pend:List Nat)(dw:List Bool)(v8:Option V),σ=[some (.ref p),some (.ref wa),some (.ref ba),some (.ref la),some (.ref pa),some (.ref ia),some (nI pl),some (nI bits),v8]/\pb H1 la pa ia (live.set pl bits) pend dw H4/\Z.Wl wk.code (qr wk.code) (dX wk.code) n wk.vars (live.set pl bits) pend dw (BK.drop t)) ⟨q,_,_,rfl,M7,by simpa using W_⟩ (λt σ H4 _ ⟨_,_,_,_,h,_⟩=>ah.of (pf _ h.s)) ?_ ?_))))
    ·rintro t x σ H4 hx ⟨pd,iP,v8,rfl,za,w4⟩;refine ar (dk hx) λe he cA=>?_;obtain rfl:=cA;have E6:e<n:=M8 e (cP he)
     have hdr:BK.drop t=e::BK.drop (t+1):=by rw[xY (cN he)];rw[(d0.mp he).2]
     rw[hdr]at w4;have uc:e<iP.length:=by rw[w4.lp];exact E6
     obtain⟨b,B9⟩:=d_ uc;refine vI rfl (vI rfl (br (V.bl b) (ah.of za.i) (bw rfl (cF B9)) (aF b rfl ?_)));cases b with
     |true=>
      refine bS (fQ pd iP _ rfl za (w4.skip B9))
     |false=>
      refine bV (vI rfl (vI rfl (iY za.i (by rw[aA];exact i3 uc) ?_)));have e4:(iP.map V.bl).set e (V.bl true)=(iP.set e true).map V.bl:=by rw[uX]
      rw[e4];have wJ:=za.W5 (isP':=iP.set e true) ne
      have hpd:=w4.Rl;refine vI rfl ⟨.inl ⟨rfl,_,ah.of wJ.p⟩,vI rfl (gI wJ.p (by rw[aA];exact cI (by lia)) ?_)⟩;have e5:pd.map nI++[nI e]=(pd++[e]).map nI:=by simp
      rw[e5];exact fQ (pd++[e]) _ _ rfl (wJ.W4 ne) (w4.push E6 B9)
    ·rintro σ H4 ⟨pd,iP,v8,rfl,za,w4⟩;rw[aA,PD (aX _)]at w4;have hpd:=w4.Rl
     refine aq ?_ (jq _ pd iP _ _ _ rfl za w4 rfl);rw[cj];have:(Z.room wk.vars (live.set pl bits)+1)*(n+1)<=Z.room wk.vars live*(n+1):=av7 _ amI
     rw[PF]at this;lia
  ·have:pend=[]:=by
    cases pend with
    |nil=>rfl
    |cons x r=>exfalso;apply ht;simp
   subst this;exact vI rfl (k la live H2 ((sa.trans s1).trans hh.s) hh.l ⟨by rw[wl.ll,hn],λi v=>wl.done C i v⟩)
def dY{H H':Hp}{a:Addr}(s:af H H')(h:H' a=none):H a=none:=by
 cases e:H a with
 |none=>rfl
 |some o=>rw[s _ _ e]at h;cases h
def amL(A:aO):Sp:=λvs H Q _=>∃(p:Addr)(lab:Nat->Str)(wk:fg),vs=[.ref p]/\iu A H lab p wk/\g8 lab wk/\
 ∀a L H',H a=none->af H H'->NL H' a L->L.length=(aH wk.code).length->(∀i v,i<L.length->((L.getD i 0).testBit v=true<->v∈zY wk.code i))->Q (.ref a) H'
def amM(T:Txt K mg A):aZ P w K mg base bu 3 A.Fm A.Fo ["program"] (amL A):=by
 refine T.U9.F.bM VU (λvs H Q E h=>?_) (λaK Ar outer s H vs Q E hr h=>?_)
 ·refine gb h λp lab wk di _=>?_;obtain rfl:=di;rfl
 ·refine bR h λp lab wk eS hP wd=>?_;refine eA wd λok k=>?_;obtain rfl:=eS;have nd:=VU.nd
  have hb:=ok.W.sb;intro X_ D_;refine aq (au (pS nd 1 (bF (W6 T) T.MD hr (ae (pv 0) az))) (ax (aQ (rH rfl nd (kG (bF (WS T) T.MC hr (ae (pv 0) az))) (kI (N:=["program","live","following"]) (sc:=aU Mm) (own:=[("following",2)]) (by decide+kernel)) (λ_ _ _ _ _=>(pN nd 2)) (λ_ _ _ _ _=>mi) (λ_ _ _ _ _=>(bF (WV T) T.joined hr (ae (pv 1) (ae (pv 2) az)))))))) ?_;refine vI rfl (kj p lab wk rfl hP ok λla L Ha sa iw hL=>?_);refine vI rfl (kj p lab wk rfl (hP.same sa) ok λwa H1 s1 uj=>?_);refine bc (id uj) λps g1 g2 g3=>?_;have ji:=MX wk.code;refine aW wa rfl ⟨_,ah.of g1⟩ λD hD=>?_;refine yM (K:=K) (a:=wa) (xs:=ps.map V.ref) (λi H2=>af H1 H2/\NL H2 D (((bD i).map λj=>Z.fU L (dX wk.code j)))) ⟨af.new hD,ag⟩ (λi H2 _ h=>ah.of (h.1 _ _ g1)) ?_ ?_
  ·rintro i x H2 hx ⟨s2,r6⟩;refine ar (dk hx) λf hf eT=>?_;obtain rfl:=eT;have hi:i<(aH wk.code).length:=by have:=cN hf;lia
   have nH:=(g3 i f _ hf (MS hi)).same s2;refine⟨rfl,vI rfl (vI rfl (gC la f L (dX wk.code i) rfl (NL.same (NL.same iw s1) s2) nH (λj hj=>by have:=MT hj;rw[hL.1];lia) (d7 _ r6 (by simp;exact cI (by lia)) (s2.upd hD) ?_)))⟩;show upd _ D _ D=_;rw[ag,sm];simp
  ·rintro H2 ⟨s2,r6⟩;rw[aA,g2,ji]at r6;refine k D _ H2 (dY (sa.trans s1) hD) ((sa.trans s1).trans s2) r6 (by simp) λi v hi=>?_;have gX:i<(aH wk.code).length:=by simpa using hi
   rw[ef,qJ,uI gX,Z.sZ];show(Z.fU L (dX wk.code i)).testBit v=true<->_;rw[Z.vt];constructor
   ·rintro⟨j,h1,h2⟩;exact⟨j,MR.mp h1,(hL.2 j v).mp h2⟩
   ·rintro⟨j,h1,h2⟩;exact⟨j,MR.mpr h1,(hL.2 j v).mpr h2⟩
end
end
end Rg
set_option exponentiation.threshold 2000
namespace Rg
open PySem L2
variable{m:Nat}
def my:Option Nat->V
 |some r=>nI r
 |none=> .aL
def Xb{v:Nat}(h:m.testBit v=true)(hl:∀u,u<v->m.testBit u=false):gO (m:Int) (-(m:Int))=((2^v:Nat):Int):=by
 obtain⟨e,hle⟩:=Z.P7 h hl;have hp:0<2^v:=n8 v
 have hm:0<m:=by lia
 rw[ayq (by lia) (by lia)];have e1:(gP (-(m:Int))).toNat=m-1:=by unfold gP;lia
 rw[e1,gR,e];lia
def Xc(v:Nat):PH ((2^v:Nat):Int)=v+1:=by
 have hp:0<2^v:=n8 v;unfold PH;have h:((((2^v:Nat):Int))==0)=false:=by rw[beq_eq_false_iff_ne];lia
 rw[h];simp[Nat.log2_two_pow]
def amN(left i:Nat):gO ((left:Int)/2^((i:Int)).toNat) 1=if left.testBit i=true then 1 else 0:=by
 have e:(left:Int)/2^((i:Int)).toNat=((left/2^i:Nat):Int):=by simp
 rw[e,show(1:Int)=((1:Nat):Int) from rfl,y9,ZJ,Nat.and_one_is_mod];by_cases h:left/2^i%2=1
 ·simp[h]
 ·have:left/2^i%2=0:=by lia
  simp[this]
section
variable{P:Program}{w:a9}{K:aV}{mg:Str->Option Value}{A:aO}{base:Heap}
def amO{b n:Nat}(h:b<2^n):(Z.bitsOf b).length<=n:=by
 rw[Z.Dq h];have:=uJ b.testBit (bD n)
 simpa using this
def amP:Sp:=λvs H Q _=>∃b:Nat,vs=[nI b]/\b<2^1000/\∀a H',H a=none->af H H'->NL H' a (Z.bitsOf b)->Q (.ref a) H'
def M9(T:Txt K mg A):aZ P w K mg base bu 1 A.Fp A.Fq ["bits"] (amP):=by
 refine T.members.F.bM VW (λvs H Q E h=>?_) (λaK Ar outer s H vs Q E hr h=>?_)
 ·refine ar h λb bp _=>?_;obtain rfl:=bp;rfl
 ·refine bc h λb bA hb k=>?_;obtain rfl:=bA;have nd:=VW.nd
  intro X_ D_;refine aq (au (pS nd 1 (cK az)) (au (Az fP (bz vG (pv 0) aS (bt _)) (au (pS nd 2 (b9 p9 (pv 0) (tS En (pv 0)))) (au (fJ (g6 (pv 1) (b9 yD (Tw (pv 2)) aS))) (ax (pA nd 0 (pv 2) aet))))) (ax (aQ (pv 1))))) ?_;refine⟨by show 0<=sizeLine;decide,λa ha=>?_⟩;have pf:=amO hb
  refine⟨λm σ H2=>∃(f:List Nat)(v:Option V),σ=[some (nI m),some (.ref a),v]/\af H H2/\NL H2 a f/\f++Z.bitsOf m=Z.bitsOf b,kj b [] none rfl (af.new ha) ag rfl,?_⟩;rintro m σ H2 ⟨f,v,rfl,s2,hf,e⟩;refine vI rfl (cg rfl _ rfl (bW (λh=>?_) λh=>?_))
  ·have hm:m≠0:=λq=>by subst q;simp at h
   refine ar (Z.P5 hm) λv' pR jE=>?_;have hl:f.length<1001:=by have:=congrArg sN e;rw[cj]at this;lia
   refine aq (λ_ _ h=>h) (vI rfl (vI rfl (aq rfl (iI ?_))));show p7 _ _ _ [some (nI m),some (V.ref a),some (V.int (gO (m:Int) (-(m:Int))))] H2;rw[Xb pR jE];refine vI rfl ⟨.inl ⟨rfl,_,ah.of hf⟩,vI rfl ⟨rfl,_,rfl,rfl,iI (gI hf (by rw[aA];exact cI (by lia)) ?_)⟩⟩;refine aq rfl (vI rfl (iI (aF (m^^^2^v') (Z.aaX pR jE) (cC (f++[v']) (some (V.int ((2^v':Nat):Int))) ?_ (s2.upd ha) ?_ ?_))))
   ·show [some (V.int (OX (m:Int) ((2^v':Nat):Int))),some (V.ref a),some (V.int ((2^v':Nat):Int))]=_;rw[amb]
   ·show upd _ a _ a=_;rw[ag];show some (HO.lst (f.map nI++[V.int ((PH ((2^v':Nat):Int):Int)-1)]))=_;rw[Xc];simp
   ·rw[<-e,Z.aaV pR jE];simp
  ·have hm:m=0:=by
    have:V.int (m:Int)=V.int 0:=by simpa using h
    have:=V.int.inj this;lia
   subst hm;refine vI rfl (k a H2 ha s2 ?_);rw[<-e,Z.aaU,qR];exact hf
def amQ:Sp:=λvs H Q _=>∃(a:Addr)(hs:List Nat)(m:Nat),vs=[.ref a,nI m]/\NL H a hs/\∀H',af H H'->Q (my (Z.jM hs m)) H'
def amR(T:Txt K mg A):aZ P w K mg base bu 1 A.FC A.FD ["holders","others"] (amQ):=by
 refine T.Vd.F.bM V2 (λvs H Q E h=>?_) (λaK Ar outer s H vs Q E hr h=>?_)
 ·refine gb h λa hs m bX _=>?_;obtain rfl:=bX;rfl
 ·refine bR h λa hs m cA ha k=>?_;obtain rfl:=cA;have nd:=V2.nd
  intro X_ D_;refine aq (au (gj fP rfl (yU rfl T.wF (ae (pv 0) az)) (oK rfl (g5 (pN nd 2) (g5 (pN nd 3) oJ))) (ax (bx (bz b_ (b9 p9 (pv 3) (pv 1)) aS (bt _)) (ax (aQ (pv 2))) bI))) (ax (aQ dW))) ?_;refine vI rfl (aB a _ rfl (ah.of ha) (y1 (K:=K) (a:=a) (xs:=hs.map nI) (p:=2) (q:=3) (λi σ H2=>∃v2 v3:Option V,σ=[some (.ref a),some (nI m),v2,v3]/\af H H2/\∀r,r<i->(hs.getD r 0&&&m==0)=false) (aB none none rfl (af.refl H) λr h=>by lia) (λi σ H2 _ vU=>bb vU λ_ _ _ s2 _=>ah.of (s2 _ _ ha)) ?_ ?_))
  ·rintro i x Tu σ H2 hx ⟨v2,v3,rfl,s2,h_⟩ hT;refine ar (dk hx) λlq M_ eS=>?_;obtain rfl:=eS;have sT:=af.new (o:= .tup [.int (i:Nat),nI lq]) hT
   refine vI rfl (vI rfl (iI (cg rfl _ rfl (bW (λh=>?_) λh=>?_))))
   ·have e0:lq&&&m=0:=by have:V.int (gO (lq:Int) (m:Int))=V.int 0:=of_decide_eq_true h;have:=V.int.inj this;rw[y9]at this;lia
    refine vI rfl ?_;have:Z.jM hs m=some i:=by unfold Z.jM;rw[Z.J5];refine b8 (by rw[Z.jT M_,e0];rfl) (cN M_) h_
    have:=k _ (s2.trans sT);rw[show Z.jM hs m=some i by assumption]at this;exact this
   ·have e0:(lq&&&m==0)=false:=by rw[beq_eq_false_iff_ne];intro e;apply h;apply decide_eq_true;show V.int (gO (lq:Int) (m:Int))=V.int 0;rw[y9,e];rfl
    refine aB _ _ rfl (s2.trans sT) λr hr=>?_;rcases lL r i with h1|h1
    ·exact h_ r h1
    ·have:r=i:=by lia
     subst this;rw[Z.jT M_];exact e0
  ·rintro σ H2 ⟨v2,v3,rfl,s2,h_⟩;have:Z.jM hs m=none:=by
    unfold Z.jM;rw[xH];intro r hr;have:=h_ r (by simpa using hr)
    rw[this];decide
   have:=k H2 s2;rw[show Z.jM hs m=none by assumption]at this;exact this
def amS:Sp:=λvs H Q _=>∃(a:Addr)(ms:List Nat),vs=[.ref a]/\NL H a ms/\ms.length<=1000/\(∀m∈ms,m<2^ms.length)/\
 ∀b wh H',af H H'->NL H' b wh->wh.length=ms.length->(∀v u,v<ms.length->u<ms.length->(wh.getD v 0).testBit u=((ms.getD v 0).testBit u||(ms.getD u 0).testBit v))->(∀v u,v<ms.length->(wh.getD v 0).testBit u=true->u<ms.length)->Q (.ref b) H'
def Xd{l:List Nat}{i j:Nat}(h:i<l.length):(l.set i m).getD j 0=if j=i then m else l.getD j 0:=by
 rw[ef];by_cases e:j=i
 ·subst e;rw[i7 h,if_pos rfl];rfl
 ·rw[hX (λz=>e z.symm),if_neg e,<-ef]
def amT(T:Txt K mg A):aZ P w K mg base bu 2 A.Fu A.Fw ["met"] (amS):=by
 refine T.Va.F.bM VY (λvs H Q E h=>?_) (λaK Ar outer s H vs Q E hr h=>?_)
 ·refine bZ h λa ms eT _=>?_;obtain rfl:=eT;rfl
 ·refine iE h λa ms ij ha hn bH k=>?_;obtain rfl:=ij;have nd:=VY.nd
  intro X_ D_;refine aq (au (pS nd 1 (qh age T.MN L4 (pv 0))) (au (gj fP rfl (yU rfl T.wF (ae (pv 0) az)) (oK rfl (g5 (pN nd 2) (g5 (pN nd 3) oJ))) (ax (gj fP rfl (kG (bF (M9 T) T.members hr (ae (pv 3) az))) (pN nd 4) (ax (Ee (pv 1) (pv 4) ET (b9 oN aS (pv 2)) vF nq))))) (ax (aQ (pv 1))))) ?_;refine vI rfl (aB a _ rfl (.inl (ah.of ha)) λwa uj=>?_);have s0:=af.new (o:= .lst (ms.map nI)) uj
  refine vI rfl (aB a _ rfl (ah.of (s0 _ _ ha)) (y1 (K:=K) (a:=a) (xs:=ms.map nI) (p:=2) (q:=3) (λi σ H2=>∃(v2 v3 v4:Option V)(wh:List Nat),σ=[some (.ref a),some (.ref wa),v2,v3,v4]/\af H H2/\NL H2 wa wh/\wh.length=ms.length/\∀v u,v<ms.length->(wh.getD v 0).testBit u=((ms.getD v 0).testBit u||(decide (u<i)&&(ms.getD u 0).testBit v))) (gC none none none ms rfl s0 ag rfl λv u _=>by simp) (λi σ H2 _ ⟨_,_,_,_,_,s2,_⟩=>ah.of (s2 _ _ ha)) ?_ ?_))
  ·rintro i x Tu σ H2 hx ⟨v2,v3,v4,wh,rfl,s2,hw,hl,HY⟩ hT;refine ar (dk hx) λm hm l5=>?_;obtain rfl:=l5;have him:i<ms.length:=cN hm
   have HZ:m<2^ms.length:=bH m (cP hm);have sT:=af.new (o:= .tup [.int (i:Nat),nI m]) hT;refine vI rfl (aW m rfl (eP HZ (sq (by decide) hn)) λf H3 pW s3 hf=>?_);refine aW f rfl ⟨_,ah.of hf⟩ ?_;have hfw:f≠wa\/True:= .inr trivial;refine rC (K:=K) (a:=f) (xs:=(Z.bitsOf m).map nI)
    (λt σ H4=>∃(v4:Option V)(wh:List Nat),σ=[some (.ref a),some (.ref wa),some (nI i),some (nI m),v4]/\af H H4/\NL H4 f (Z.bitsOf m)/\f≠wa/\NL H4 wa wh/\wh.length=ms.length/\∀v u,v<ms.length->(wh.getD v 0).testBit u=((ms.getD v 0).testBit u||(decide (u<i)&&(ms.getD u 0).testBit v)||(decide (u=i)&&decide (v∈(Z.bitsOf m).take t))))
    ⟨v4,wh,rfl,(s2.trans sT).trans s3,hf,?_,s3 _ _ (sT _ _ hw),hl,λv u hv=>by rw[HY v u hv];simp⟩ (λt σ H4 _ L3=>lj L3 λ_ _ _ _ h _=>ah.of h) ?_ ?_
   ·exactλe=>by subst e;rw[sT _ _ hw]at pW;cases pW
   ·rintro t x σ H4 hx ⟨v4,wh,rfl,s4,B_,bh,uk,nJ,H_⟩;refine ar (dk hx) λo ho kB=>?_;obtain rfl:=kB;have mr:m.testBit o=true:=Z.Dp.mp (cP ho)
    have awK:o<ms.length:=by apply uK;intro lU;rw[zF (eP HZ (sq (by decide) (by lia)))]at mr;cases mr
    obtain⟨wv,Xe⟩:=d_ (show o<wh.length by lia);refine vI rfl (vI rfl (br (nI wv) (ah.of uk) (bw rfl (cF Xe)) (vI rfl (cC _ _ rfl rfl (qp (by lia)) (iI (iY uk (by rw[aA];exact i3 (by omega)) ?_))))));have e3:(wh.map nI).set o (V.int (lO (wv:Int) ((1:Int)*2^((i:Int)).toNat)))=(wh.set o (wv|||2^i)).map nI:=by rw[BY,uX]
    show∃(v4':Option V)(wh':List Nat),_/\af H (upd H4 wa (.lst ((wh.map nI).set o (V.int (lO (wv:Int) ((1:Int)*2^((i:Int)).toNat))))))/\_;rw[e3];refine⟨_,wh.set o (wv|||2^i),rfl,s4.upd uj,by show upd _ _ _ _=_;rw[aj bh];exact B_,bh,ag,by rw[mM];exact nJ,λv u hv=>?_⟩;rw[Xd (by lia),ee ho];by_cases e:v=o
    ·subst e;rw[if_pos rfl,Z.x9,<-Z.jT Xe,H_ v u hv];cases decide (u=i)<;>simp
    ·rw[if_neg e,H_ v u hv];simp[e]
   ·rintro σ H4 ⟨v4,wh,rfl,s4,B_,bh,uk,nJ,H_⟩;refine gC _ _ _ wh rfl s4 uk nJ λv u hv=>?_;rw[H_ v u hv,aA,eX (aX _)];have eb:decide (v∈Z.bitsOf m)=m.testBit v:=by rw[fu,decide_eq_true_iff];exact Z.Dp
    rw[eb];by_cases e:u=i
    ·subst e;rw[Z.jT hm];simp
    ·have:decide (u<i+1)=decide (u<i):=by rw[fu];simp;lia
     rw[this];simp[e]
  ·rintro σ H2 ⟨v2,v3,v4,wh,rfl,s2,hw,hl,HY⟩;refine vI rfl (k wa wh H2 s2 hw hl (λv u hv hu=>?_) λv u hv hb=>?_)
   ·rw[HY v u hv];simp[hu]
   ·apply uK;intro lU;rw[HY v u hv]at hb;have:u<(ms.map nI).length\/True:= .inr trivial
    simp only[aA]at hb;have h1:decide (u<ms.length)=false:=by simpa using lU
    rw[h1]at hb;obtain⟨mv,zb⟩:=d_ hv;rw[Z.jT zb,zF (eP (bH mv (cP zb)) (sq (by decide) (by lia)))]at hb;simp at hb
end
end Rg
set_option exponentiation.threshold 2000
namespace Rg
open PySem L2
variable{c:d6}{i:Nat}{ms:List Nat}{x:ck}{wk:fg}
def mz(c:d6)(i:Nat)(ms:List Nat):Prop:=∀d u,d<ms.length->((ms.getD d 0).testBit u=true<->∃t x,t<i/\(aH c)[t]?=some x/\fO x=some d/\u≠d/\Z.s_ x u=true/\u∈zY c t)
def mz.start(c:d6)(n:Nat):mz c 0 (cW n 0):=λd u h=>by
 rw[ef,qO];constructor
 ·intro q;split at q<;>simp at q
 ·rintro⟨t,x,q,_⟩;lia
def mz.none_(h:mz c i ms)(hx:(aH c)[i]?=some x)(hg:fO x=none):mz c (i+1) ms:=λd u hd=>by
 rw[h d u hd];constructor
 ·rintro⟨t,y,h1,h2⟩;exact⟨t,y,by lia,h2⟩
 ·rintro⟨t,y,h1,h2,h3,h4⟩;refine cC t y ?_ h2 h3 h4;rcases lL t i with q|q
  ·exact q
  ·have:t=i:=by lia
   subst this;rw[hx]at h2;cases h2;rw[hg]at h3;cases h3
def mz.J7{d m o:Nat}(h:mz c i ms)(hx:(aH c)[i]?=some x)(hg:fO x=some d)(hm:ms[d]?=some m)
  (ho:∀u,o.testBit u=true<->u≠d/\Z.s_ x u=true/\u∈zY c i):mz c (i+1) (ms.set d (m|||o)):=λd' u hd=>by
 rw[mM]at hd;rw[Xd (cN hm)];by_cases e:d'=d
 ·subst e;rw[if_pos rfl,xK,Pl,ho u,<-Z.jT hm,h d' u hd];constructor
  ·rintro(⟨t,y,h1,h2⟩|h)
   ·exact cD t y (by omega) h2
   ·exact cC i x (by lia) hx hg h
  ·rintro⟨t,y,h1,h2,h3,h4⟩;rcases lL t i with q|q
   ·exact .inl (cC t y q h2 h3 h4)
   ·have:t=i:=by omega
    subst this;rw[hx]at h2;cases h2;exact .inr h4
 ·rw[if_neg e,h d' u hd];constructor
  ·rintro⟨t,y,h1,h2⟩;exact⟨t,y,by omega,h2⟩
  ·rintro⟨t,y,h1,h2,h3,h4⟩;refine cC t y ?_ h2 h3 h4;rcases lL t i with q|q
   ·exact q
   ·have:t=i:=by omega
    subst this;rw[hx]at h2;cases h2;rw[hg]at h3;exact absurd (eB h3).symm e
section
variable{P:Program}{w:a9}{K:aV}{mg:Str->Option Value}{A:aO}{base:Heap}
def amU(A:aO):Sp:=λvs H Q _=>∃(p:Addr)(lab:Nat->Str)(wk:fg),vs=[.ref p]/\iu A H lab p wk/\g8 lab wk/\
 ∀a met H',af H H'->NL H' a met->Z.Gr (jL wk.code) met wk.vars->Q (.ref a) H'
def amV(H:Hp)(p ma:Addr)(wk:fg)(i:Nat)(σ:St)(H2:Hp):Prop:=∃(v2 v3 v4:Option V)(ms:List Nat),σ=[some (.ref p),some (.ref ma),v2,v3,v4]/\af H H2/\NL H2 ma ms/\ms.length=wk.vars/\mz wk.code i ms
def amW{wh:List Nat}(W:Z.gD wk)(hl:ms.length=wk.vars)(M:mz wk.code (aH wk.code).length ms)(hw:wh.length=ms.length)
  (h1:∀v u,v<ms.length->u<ms.length->(wh.getD v 0).testBit u=((ms.getD v 0).testBit u||(ms.getD u 0).testBit v)) (h2:∀v u,v<ms.length->(wh.getD v 0).testBit u=true->u<ms.length):Z.Gr (jL wk.code) wh wk.vars:=by
 refine W.gr (by lia) λv m hm u=>?_;have hv:v<ms.length:=by have:=cN hm;lia
 rw[<-Z.jT hm];have key:∀u,u<ms.length->((wh.getD v 0).testBit u=true<->(jL wk.code).contains (v,u)=true):=λu hu=>by
  rw[h1 v u hv hu,Pl,M v u hv,M u v hu,Z.vj,Z.vi];constructor
  ·rintro(⟨t,x,_,a,b,c,d,e⟩|⟨t,x,_,a,b,c,d,e⟩)
   ·exact cO t x v u a b c d (Z.sZ.mp e) (.inl ⟨rfl,rfl⟩)
   ·exact cO t x u v a b c d (Z.sZ.mp e) (.inr ⟨rfl,rfl⟩)
  ·rintro⟨t,x,d,y,a,b,c,e,f,⟨rfl,rfl⟩|⟨rfl,rfl⟩⟩
   ·exact .inl ⟨t,x,cN a,a,b,c,e,Z.sZ.mpr f⟩
   ·exact .inr ⟨t,x,cN a,a,b,c,e,Z.sZ.mpr f⟩
 rw[fu];constructor
 ·intro h;exact(key u (h2 v u hv h)).mp h
 ·intro h;have:=(W.Km v u h).2
  exact(key u (by lia)).mpr h
def amX(W:Z.gD wk)(hl:ms.length=wk.vars)(M:mz wk.code i ms):∀m∈ms,m<2^ms.length:=by
 intro m hm;obtain⟨d,hd⟩:=zX hm;refine Z.lt_pow_of_bits λu hu=>?_;rw[<-Z.jT hd]at hu;refine iE ((M d u (cN hd)).mp hu) λt x _ a b c gJ=>?_;refine eA gJ λe f=>?_;have:=(W.Km d u (Z.vj.mpr (Z.vi.mpr (cO t x d u a b c e (Z.sZ.mp f) (.inl ⟨rfl,rfl⟩))))).2
 lia
def amY(T:Txt K mg A):aZ P w K mg base bu 4 A.Fs A.Ft ["program"] (amU A):=by
 refine T.U_.F.bM VX (λvs H Q E h=>?_) (λaK Ar outer s H vs Q E hr h=>?_)
 ·refine gb h λp lab wk bp _=>?_;obtain rfl:=bp;rfl
 ·refine bR h λp lab wk bA hP c0=>?_;refine eA c0 λok k=>?_;obtain rfl:=bA;have nd:=VX.nd
  have hu:=nA hr;have hb:=ok.W.sb;have wH:=ok.W.vb;refine bR (id hP) λdx sl ld h1 bX h5=>?_;obtain⟨ps,h2,h3,h4⟩:=bX;intro X_ D_;refine aq (au (pS nd 1 (b9 yH (cK (ae aS az)) (aD (pv 0) rfl))) (au (gj fP rfl (ain rfl T.alp (ae (aD (pv 0) rfl) (ae (bF (amM T) T.U9 hr (ae (pv 0) az)) az))) (oK rfl (g5 (pN nd 2) (g5 (pN nd 3) oJ))) (au (bx (iV (vB (aD (pv 2) rfl))) (ax KS) bI) (au (pS nd 4 (b9 p9 (pv 3) (tS Eo (b9 oN aS (aD (pv 2) rfl))))) (au (bx (bz b_ (aD (pv 2) rfl) bG (bt _)) (ax (pA nd 4 (tS Eo (b9 oN aS (bK Lf (aD (pv 2) rfl) aS (λ_ _=>rfl)))) Em)) bI) (ax (Ee (pv 1) (aD (pv 2) rfl) ET (pv 4) vF nq)))))) (ax (aQ (bF (amT T) T.Va hr (ae (pv 1) az)))))) ?_;refine⟨by show 1<=sizeLine;decide,λz1 wI=>?_⟩;have jk:=af.new (o:= .lst [V.int 0]) wI;refine ai rfl (jk _ _ h1) T.Program.c T.wB rfl (u6 z1 (wk.vars:Int) [V.int 0] rfl rfl ag (by lia) (by lia) (by show 1*((wk.vars:Int)).toNat<=2^24;lia) λma j6=>?_);have Na:(cW (((wk.vars:Int)).toNat) [V.int 0]).flatten=(cW wk.vars 0).map nI:=by rw[wG,Dl,gR];rfl
  rw[Na];have Ca:=af.new (o:= .lst ((cW wk.vars 0).map nI)) j6
  have s0:=jk.trans Ca;have amZ:H ma=none:=by
   cases e:H ma with
   |none=>rfl
   |some o=>rw[jk _ _ e]at j6;cases j6
  refine ai rfl (s0 _ _ h1) T.Program.c T.rR rfl (vI rfl (kj p lab wk rfl (hP.same s0) ok λla L H1 am0 s1 iw hLl hL=>?_));refine⟨sl,la,_,_,rfl,ah.of (s1 _ _ (s0 _ _ h2)),ah.of iw,ajg (K:=K) (a:=sl) (b:=la) (xs:=ps.map V.ref) (ys:=L.map nI) (p:=2) (q:=3) (by rw[aA,aA];lia) (λi σ H2=>amV H p ma wk i σ H2/\NL H2 la L/\la≠ma) (b8 (gC none none none _ rfl (s0.trans s1) (s1 _ _ ag) (by simp) (mz.start _ _)) iw ?_) (λi σ H2 _ ⟨⟨_,_,_,_,_,s2,_⟩,h,_⟩=>⟨ah.of (s2 _ _ h2),ah.of h⟩) ?_ ?_⟩
  ·exact(bL ag am0).symm
  ·rintro i x y Tu σ H2 hx hy ⟨⟨v2,v3,v4,ms,rfl,s2,mx,ph,M⟩,nK,bh⟩ hT;refine ar (dk hx) λq fZ cA=>?_;obtain rfl:=cA;refine ar (dk hy) λb pj di=>?_;obtain rfl:=di;have hi:i<(aH wk.code).length:=by have:=cN fZ;lia
   obtain⟨ins,eN⟩:=d_ hi;have sT:=af.new (o:= .tup [.ref q,nI b]) hT
   refine bZ (((h4 i q ins fZ eN).same s2).same sT) λdq u g1 g2=>?_;have i4:∀v∈Z.fF ins,v<wk.vars:=ok.W.lt ins (cP eN)
   have hLb:∀u,b.testBit u=true<->u∈zY wk.code i:=λu=>by rw[<-Z.jT pj];exact hL i u (cN pj)
   refine ai rfl g1 T.Step.c T.eU rfl (aq rfl ?_);cases hg:fO ins with
   |none=>
    have e:gu ins= .aL:=by unfold gu;rw[hg]
    rw[e];exact bV (b8 (gC _ _ _ ms rfl (s2.trans sT) (sT _ _ mx) ph (M.none_ eN hg)) (sT _ _ nK) bh)
   |some d=>
    have e:gu ins=nI d:=by unfold gu;rw[hg]
    have hd:d<wk.vars:=i4 d (iz _ (by simp[hg]));obtain⟨m,hm⟩:=d_ (show d<ms.length by lia);rw[e];have fin:∀o:Nat,(∀u,o.testBit u=true<->u≠d/\Z.s_ ins u=true/\u∈zY wk.code i)->∀H3,H3=upd H2 Tu (.tup [.ref q,nI b])->NL (upd H3 ma (.lst ((ms.map nI).set d (V.int (lO (m:Int) (o:Int)))))) ma (ms.set d (m|||o))/\(ms.set d (m|||o)).length=wk.vars/\mz wk.code (i+1) (ms.set d (m|||o))/\af H (upd H3 ma (.lst ((ms.map nI).set d (V.int (lO (m:Int) (o:Int))))))/\NL (upd H3 ma (.lst ((ms.map nI).set d (V.int (lO (m:Int) (o:Int)))))) la L:=by
     intro o ho H3 e3;subst e3;refine k9 ?_ (by rw[mM];exact ph) (M.J7 eN hg hm ho) ((s2.trans sT).upd amZ) ?_
     ·show upd _ _ _ _=_;rw[ag,M0,uX]
     ·show upd _ _ _ _=_;rw[aj bh];exact sT _ _ nK
    refine bS (vI rfl (ai rfl g1 T.Step.c T.eU rfl ?_));rw[e];refine cC _ _ rfl rfl (qp (by lia)) (aq rfl (iI ?_));show p7 _ _ _ [_,_,_,_,some (V.int (gO (b:Int) (gP ((1:Int)*2^((d:Int)).toNat))))] _;rw[HU];refine ai rfl g1 T.Step.c T.aP rfl (cg rfl _ rfl ?_);have wK:∀u,(Z.cw b d).testBit u=true<->u≠d/\u∈zY wk.code i:=λu=>by rw[Z.va,eW,hLb u,decide_eq_true_iff,and_comm]
    have qv:=sT _ _ mx;cases ins with
    |copy d' a=>
     have jd:d'=d:=eB hg;subst jd;have ha:a<wk.vars:=i4 a (by simp[Z.fF,gS]);refine bV (aq rfl (ai rfl g1 T.Step.c T.qm rfl (gC u _ _ (nI a) rfl rfl (dm.of g2) (bw (j:=0) rfl rfl) (cC _ _ rfl rfl (qp (by lia)) (aq rfl (iI ?_))))));have ho:∀u,(Z.cw (Z.cw b d') a).testBit u=true<->u≠d'/\Z.s_ (.copy d' a) u=true/\u∈zY wk.code i:=λu=>by
      rw[Z.va,eW,wK u,decide_eq_true_iff];have:Z.s_ (.copy d' a) u=true<->u≠a:=by show(u !=a)=true<->_;simp
      rw[this,and_assoc,and_comm (a:=u∈_)]
     have f:=fin _ ho _ rfl;rw[<-HU (Z.cw b d') a]at f;refine fi f λf1 f2 f3 f4 f5=>?_;exact vI rfl (ai rfl g1 T.Step.c T.eU rfl (br (nI m) (ah.of qv) (bw rfl (cF hm)) (vI rfl (iI (iY qv (by rw[aA];exact i3 (by lia)) (b8 (gC _ _ _ _ rfl f4 f1 f2 f3) f5 bh))))))
    |num d' z=>
     have jd:d'=d:=eB hg;subst jd;refine fi (fin (Z.cw b d') (λu=>by rw[wK u];exact⟨λh=>b8 h.1 rfl h.2,λh=>⟨h.1,h.2.2⟩⟩) _ rfl) λf1 f2 f3 f4 f5=>?_;exact bS (vI rfl (ai rfl g1 T.Step.c T.eU rfl (br (nI m) (ah.of qv) (bw rfl (cF hm)) (vI rfl (iI (iY qv (by rw[aA];exact i3 (by lia)) (b8 (gC _ _ _ _ rfl f4 f1 f2 f3) f5 bh)))))))
    |op o d' a a2=>
     have jd:d'=d:=eB hg;subst jd;refine fi (fin (Z.cw b d') (λu=>by rw[wK u];exact⟨λh=>b8 h.1 rfl h.2,λh=>⟨h.1,h.2.2⟩⟩) _ rfl) λf1 f2 f3 f4 f5=>?_;exact bS (vI rfl (ai rfl g1 T.Step.c T.eU rfl (br (nI m) (ah.of qv) (bw rfl (cF hm)) (vI rfl (iI (iY qv (by rw[aA];exact i3 (by omega)) (b8 (gC _ _ _ _ rfl f4 f1 f2 f3) f5 bh)))))))
    |get d'=>
     have jd:d'=d:=eB hg;subst jd;refine fi (fin (Z.cw b d') (λu=>by rw[wK u];exact⟨λh=>b8 h.1 rfl h.2,λh=>⟨h.1,h.2.2⟩⟩) _ rfl) λf1 f2 f3 f4 f5=>?_;exact bS (vI rfl (ai rfl g1 T.Step.c T.eU rfl (br (nI m) (ah.of qv) (bw rfl (cF hm)) (vI rfl (iI (iY qv (by rw[aA];exact i3 (by omega)) (b8 (gC _ _ _ _ rfl f4 f1 f2 f3) f5 bh)))))))
    |fetch d' z=>
     have jd:d'=d:=eB hg;subst jd;refine fi (fin (Z.cw b d') (λu=>by rw[wK u];exact⟨λh=>b8 h.1 rfl h.2,λh=>⟨h.1,h.2.2⟩⟩) _ rfl) λf1 f2 f3 f4 f5=>?_;exact bS (vI rfl (ai rfl g1 T.Step.c T.eU rfl (br (nI m) (ah.of qv) (bw rfl (cF hm)) (vI rfl (iI (iY qv (by rw[aA];exact i3 (by omega)) (b8 (gC _ _ _ _ rfl f4 f1 f2 f3) f5 bh)))))))
    |put a=>cases hg
    |goto l=>cases hg
    |cond a l=>cases hg
    |ret a=>cases hg
    |keep z a=>cases hg
  ·rintro σ H2 ⟨⟨v2,v3,v4,ms,rfl,s2,mx,ph,M⟩,nK,bh⟩;rw[aA,h3]at M;refine vI rfl (gU ma ms rfl mx (by lia) (amX ok.W ph M) λwb wh H3 s3 hwb ji hw1 lE=>?_);exact k wb wh H3 (s2.trans s3) hwb (amW ok.W ph M ji hw1 lE)
end
end Rg
set_option exponentiation.threshold 2000
namespace Rg
open PySem L2
variable{order holders:List Nat}{H1 H2:Hp}{ha ma oa:Addr}{fA:List (Option Nat)}
def Ia(i left:Nat):Z.lst (i+1) left=Z.lst i left++(if left.testBit i=true then [i]else []):=by
 unfold Z.lst;rw[sm,kU];by_cases h:left.testBit i=true
 ·rw[if_pos h];simp[h]
 ·rw[if_neg h];simp[h]
section
variable{P:Program}{w:a9}{K:aV}{mg:Str->Option Value}{A:aO}{base:Heap}
def am5:Sp:=λvs H Q _=>∃(a:Addr)(dU:List Nat)(g:List (Nat×Nat))(n left own:Nat),vs=[nI left, .ref a,nI own]/\NL H a dU/\own<=1000000/\(∀v,v<own->left.testBit v=true->dU[v]?=some (zZ g (Z.lst n left) v))/\Q (my (xZ g (Z.lst n left) (Z.lst own left))) H
def am6(T:Txt K mg A):aZ P w K mg base bu 1 A.Fx A.Fy ["left","degrees","named"] (am5):=by
 refine T.Vb.F.bM VZ (λvs H Q E h=>?_) (λaK Ar outer s H vs Q E hr h=>?_)
 ·refine sY h λa dU g n left own bp _=>?_;obtain rfl:=bp;rfl
 ·refine sY h λa dU g n left own bA c0=>?_;refine fz c0 λha ho hd k=>?_;obtain rfl:=bA;have nd:=VZ.nd
  intro X_ D_;refine aq (au (pS nd 3 dW) (au (gj fP rfl (Eg rfl T.y6 (ae (pv 2) az)) (pN nd 4) (au (pS nd 5 (rD b_ (b9 p9 (b9 RH (pv 0) (pv 4)) aS) aS (bt _))) (ax (bx (PW.pt (rA (je (pv 5)) (yx (PW.pt (l6 (iV (vB (pv 3))) (pZ (bz oO (bK bU (pv 1) (pv 4) (λ_ _=>rfl)) (bK bU (pv 1) (pv 3) (λ_ _=>rfl)) (bt _)))))))) (ax (pS nd 3 (pv 4))) bI)))) (ax (aQ (pv 3))))) ?_;refine vI rfl (d7 _ rfl (by lia) (by lia) (RG (lo:=0) (n:=own) (λi σ H2=>H2=H/\∃v4 v5:Option V,σ=[some (nI left),some (.ref a),some (nI own),some (my (xZ g (Z.lst n left) (Z.lst i left))),v4,v5]) ⟨rfl,ki none none rfl⟩ ?_ ?_))
  ·rintro i σ H2 hi ⟨rfl,v4,v5,rfl⟩;show m7 4 (V.int ((0:Int)+(i:Int))) _ _ _;rw[show(0:Int)+(i:Int)=(i:Int) by lia];refine vI rfl (vI rfl (cC _ _ rfl rfl (by lia) (iI ⟨rfl,?_⟩)));have eb:(decide (V.int (gO ((left:Int)/2^((i:Int)).toNat) 1)=V.int 1))=left.testBit i:=by rw[amN];cases left.testBit i<;>rfl
   refine vI rfl (aq rfl (bW (λh=>?_) λh=>?_))
   ·have hb:left.testBit i=true:=by rw[<-eb];exact h
    have hdi:=hd i hi hb;cases hm:xZ g (Z.lst n left) (Z.lst i left)with
    |none=>
     have e1:xZ g (Z.lst n left) (Z.lst (i+1) left)=some i:=by rw[Ia,if_pos hb,Z.Dt,hm]
     rw[e1];exact vI rfl (jg (bV (vI rfl ⟨rfl,ki _ _ rfl⟩)))
    |some u=>
     have hu:=(Z.ve.mp (Z.z9 hm));have hdu:=hd u (by lia) hu.2;refine vI rfl (jC (vI rfl (vI rfl (br (nI _) (ah.of ha) (bw rfl (cF hdi)) (vI rfl (vI rfl (br (nI _) (ah.of ha) (bw rfl (cF hdu)) (iI (aq rfl (bW (λh2=>?_) λh2=>?_))))))))))
     ·have h3:¬zZ g (Z.lst n left) i<=zZ g (Z.lst n left) u:=by have:=of_decide_eq_true h2;lia
      have e1:xZ g (Z.lst n left) (Z.lst (i+1) left)=some i:=by rw[Ia,if_pos hb,Z.Dt,hm];simp only[];rw[if_neg h3]
      rw[e1];exact vI rfl ⟨rfl,ki _ _ rfl⟩
     ·have h3:zZ g (Z.lst n left) i<=zZ g (Z.lst n left) u:=by simp at h2;lia
      have e1:xZ g (Z.lst n left) (Z.lst (i+1) left)=some u:=by rw[Ia,if_pos hb,Z.Dt,hm];simp only[];rw[if_pos h3]
      rw[e1];exact⟨rfl,ki _ _ rfl⟩
   ·have hb:¬left.testBit i=true:=by rw[<-eb];exact h
    have e1:Z.lst (i+1) left=Z.lst i left:=by rw[Ia,if_neg hb,qR]
    rw[e1];exact bS ⟨rfl,ki _ _ rfl⟩
  ·rintro σ H2 ⟨rfl,v4,v5,rfl⟩;exact vI rfl k
def am9:Sp:=λvs H Q _=>∃(a:Addr)(met:List Nat)(wk:fg)(k:Nat),vs=[.ref a,nI wk.own,nI k]/\NL H a met/\Z.Gr (jL wk.code) met wk.vars/\Z.gD wk/\3<=k/\
 ∀oa order H',H oa=none->af H H'->NL H' oa order->order=Z.orderOf wk k->order.Nodup->(∀v,v∈order<->v<wk.vars)->Q (.ref oa) H'
def Xf{n:Nat}(nd:order.Nodup)(h:∀v∈order,v<n):order.length<=n:=by
 have:order.length<=(bD n).length:=Z.qZ nd λv hv=>by simpa using h v hv
 simpa using this
def am_(T:Txt K mg A):aZ P w K mg base bu 2 A.Fz A.FA ["met","named","k"] (am9):=by
 refine T.Vc.F.bM V1 (λvs H Q E h=>?_) (λaK Ar outer s H vs Q E hr h=>?_)
 ·refine fR h λa met wk k bX _=>?_;obtain rfl:=bX;rfl
 ·refine ox h λa met wk k cA ha G W hk kk=>?_;obtain rfl:=cA;have nd:=V1.nd
  have wH:=W.vb;have ph:=G.len;have how:=W.q0;intro X_ D_;refine aq (au (yK (i:=3) rfl nd rfl rfl (yL rfl rfl rfl rfl) (kG (pv 0)) (kI (N:=["met","named","k","degrees","others","left","easy","variable","degree","order","other"]) (sc:=aU Mn) (own:=[("others",4)]) (by decide+kernel)) (λ_ _ _ _ _=>(pN nd 4)) (λ_ _ _ _ _=>mi) (λ_ _ _ _ _=>(cV (ajm (K:=K) rfl) T.dF dQ (bF (M9 T) T.members hr (ae (pv 4) az))))) (au (pS nd 5 (b9 yD (b9 oN aS (cV fD T.dF dQ (pv 0))) aS)) (au (pS nd 6 aS) (au (gj fP rfl (yU rfl T.wF (ae (pv 3) az)) (oK rfl (g5 (pN nd 7) (g5 (pN nd 8) oJ))) (ax (bx (bz tT (pv 8) (pv 2) (bt _)) (ax (pA nd 6 (b9 oN aS (pv 7)) vF)) bI))) (au (pS nd 9 (cK az)) (au (Az fP (bz vG (pv 5) aS (bt _)) (au (bx (bz vG (pv 6) aS (bt _)) (ax (pS nd 7 (b9 yD (Tw (b9 p9 (pv 6) (tS En (pv 6)))) aS))) (ax (pS nd 7 (bF (am6 T) T.Vb hr (ae (pv 5) (ae (pv 3) (ae (pv 1) az))))))) (au (fJ (g6 (pv 9) (pv 7))) (au (pA nd 5 (tS Eo (b9 oN aS (pv 7))) Em) (au (pA nd 6 (pv 5) Em) (ax (gj fP rfl (kG (bF (M9 T) T.members hr (ae (b9 p9 (bK bU (pv 0) (pv 7) (λ_ _=>rfl)) (pv 5)) az))) (pN nd 10) (au (Ee (pv 3) (pv 10) ET aS aes nq) (ax (bx (bz b_ (bK bU (pv 3) (pv 10) (λ_ _=>rfl)) (b9 yD (pv 2) aS) (bt _)) (ax (pA nd 6 (b9 oN aS (pv 10)) vF)) bI)))))))))) (ax (aQ (pv 9))))))))) ?_;refine vI rfl (aW a rfl ⟨_,ah.of ha⟩ λD hD=>?_);refine yM (K:=K) (a:=a) (xs:=met.map nI) (λi H2=>af H H2/\NL H2 D ((met.take i).map λm=>(Z.bitsOf m).length)) ⟨af.new hD,ag⟩ (λi H2 _ h=>ah.of (h.1 _ _ ha)) ?_ ?_
  ·rintro i x H2 hx ⟨s2,r6⟩;refine ar (dk hx) λm hm di=>?_;obtain rfl:=di;have HZ:=G.mlt hm
   refine⟨rfl,vI rfl (aW m rfl (eP HZ (sq (by decide) (by lia))) λf H3 pW s3 hf=>aB f _ rfl (.inl (ah.of hf)) (d7 _ (s3 _ _ r6) (by rw[aA,aA,fw];exact cI (by lia)) ((s2.trans s3).upd hD) ?_))⟩;show upd _ D _ D=_;rw[ag,ee hm];simp
  rintro H1 ⟨s1,Cb⟩;rw[aA,eX (aX _)]at Cb;have vf:(met.map λm=>(Z.bitsOf m).length).length=wk.vars:=by rw[aA];exact ph
  have E8:∀v,v<wk.vars->(met.map λm=>(Z.bitsOf m).length)[v]?=some (zZ (jL wk.code) (bD wk.vars) v):=λv hv=>by obtain⟨m,hm⟩:=d_ (show v<met.length by lia);rw[Z.aa1 G hm];exact cF hm
  generalize(met.map λm=>(Z.bitsOf m).length)=Xg at*;refine vI rfl (aB a _ rfl (.inl (ah.of (s1 _ _ ha))) (cC _ _ rfl rfl (qp (by rw[aA];lia)) (iI ?_)));have el:(1:Int)*2^(((met.map nI).length:Int)).toNat-1=((2^wk.vars-1:Nat):Int):=by
   rw[aA,ph,gR,Int.one_mul];have:=n8 wk.vars
   rw[Int.natCast_sub (by lia)];simp
  show p7 _ _ _ [some (.ref a),some (nI wk.own),some (nI k),some (.ref D),none,some (V.int ((1:Int)*2^(((met.map nI).length:Int)).toNat-1)),none,none,none,none,none] _;rw[el];refine vI rfl (aB D _ rfl (ah.of Cb) (y1 (K:=K) (a:=D) (xs:=Xg.map nI) (p:=7) (q:=8) (λi σ H2=>∃(e:Nat)(v7 v8:Option V),σ=[some (.ref a),some (nI wk.own),some (nI k),some (.ref D),none,some (nI (2^wk.vars-1)),some (nI e),v7,v8,none,none]/\af H1 H2/\∀v,e.testBit v=(decide (v<i)&&decide (zZ (jL wk.code) (bD wk.vars) v<k))) (fQ 0 none none rfl (af.refl H1) λv=>by simp) (λi σ H2 _ rL=>bR rL λ_ _ _ _ s2 _=>ah.of (s2 _ _ Cb)) ?_ ?_))
  ·rintro i x Tu σ H2 hx ⟨e,v7,v8,rfl,s2,he⟩ hT;refine ar (dk hx) λd hd eT=>?_;obtain rfl:=eT;have hi:i<wk.vars:=by have:=cN hd;lia
   have Cc:=E8 i hi;rw[hd]at Cc;have Cc:=eB Cc;have sT:=af.new (o:= .tup [.int (i:Nat),nI d]) hT;refine vI rfl (vI rfl (iI (aq rfl (bW (λh=>?_) λh=>?_))))
   ·have h':d<k:=by have:=of_decide_eq_true h;lia
    refine aq rfl (vI rfl (cC _ _ rfl rfl (qp (by lia)) (iI ?_)));refine fQ (e|||2^i) (some (nI i)) (some (nI d)) ?_ (s2.trans sT) λv=>?_
    ·show [_,_,_,_,_,_,some (V.int (lO (e:Int) ((1:Int)*2^((i:Int)).toNat))),_,_,_,_]=_;rw[BY]
    ·rw[Z.x9,he];by_cases q:v=i
     ·subst q;rw[<-Cc];simp[h']
     ·have:decide (v<i+1)=decide (v<i):=by rw[fu];simp;lia
      rw[this];simp[q]
   ·have h':¬d<k:=by intro q;apply h;apply decide_eq_true;lia
    refine fQ e _ _ rfl (s2.trans sT) λv=>?_;rw[he];by_cases q:v=i
    ·subst q;rw[<-Cc];simp[h']
    ·have:decide (v<i+1)=decide (v<i):=by rw[fu];simp;omega
     rw[this]
  rintro σ H2 ⟨e0,v7,v8,rfl,s2,Xh⟩;rw[aA,vf]at Xh;refine⟨by show 0<=sizeLine;decide,λoa jD=>?_⟩;have h_:H oa=none:=dY (s1.trans s2) jD
  have Xi:D≠oa:=bL (s2 _ _ Cb) jD;have so:=af.new (o:= .lst []) jD;refine⟨λm σ H3=>∃(left d8:Nat)(dU order:List Nat)(v7 v8 v10:Option V),σ=[some (.ref a),some (nI wk.own),some (nI k),some (.ref D),none,some (nI left),some (nI d8),v7,v8,some (.ref oa),v10]/\af H H3/\NL H3 D dU/\NL H3 oa order/\Z.Tk (jL wk.code) wk.vars wk.own k left d8 dU order/\left=m,⟨_,_,e0,Xg,[],v7,v8,none,rfl,(s1.trans s2).trans so,so _ _ (s2 _ _ Cb),ag,Z.Tk.start vf E8 Xh,rfl⟩,?_⟩;rintro m σ H3 ⟨left,d8,dU,order,v7,v8,v10,rfl,s3,bj,Nb,tk,rfl⟩;refine vI rfl (cg rfl _ rfl (bW (λh=>?_) λh=>?_))
  ·have rX:left≠0:=λq=>by subst q;simp at h
   refine aq (λ_ _ h=>h) ?_;refine vI rfl (cg rfl _ rfl (bW (λh=>?d8) λh=>?ana))
   case' d8=>
    have Ib:d8≠0:=λq=>by subst q;simp at h
    refine ar (Z.P5 Ib) λv pR jE=>?_;obtain⟨hv,ht⟩:=tk.pick pR jE;refine vI rfl (vI rfl (aq rfl (iI ⟨rfl,_,rfl,rfl,iI ?_⟩)));show p7 _ _ _ [some (.ref a),some (nI wk.own),some (nI k),some (.ref D),none,some (nI left),some (nI d8),some (V.int ((PH (gO (d8:Int) (-(d8:Int))):Int)-1)),v8,some (.ref oa),v10] H3;rw[Xb pR jE,Xc,show(((v+1:Nat):Int))-1=(v:Int) by lia]
   case' ana=>
    have Ib:d8=0:=by
     have:V.int (d8:Int)=V.int 0:=by simpa using h
     have:=V.int.inj this;lia
    obtain⟨v,wL⟩:∃v,xZ (jL wk.code) (Z.lst wk.vars left) (Z.lst wk.own left)=some v:=by
     cases wL:xZ (jL wk.code) (Z.lst wk.vars left) (Z.lst wk.own left)with
     |some v=>exact⟨v,rfl⟩
     |none=>
      exfalso;have e0:=Z.aa2 wL
      obtain⟨u,Ab,pQ⟩:=W.abu hk rX tk.hl λu hu bH=>by have:=tk.ez u;rw[Ib,hu]at this;simp at this;lia
      have:u∈Z.lst wk.own left:=Z.ve.mpr ⟨Ab,pQ⟩;rw[e0]at this;simp at this
    obtain⟨hv,ht⟩:=Z.Tk.aa4 (by rw[Ib]at tk;exact tk) how wL;refine vI rfl (vI rfl (vI rfl (kl D dU (jL wk.code) wk.vars left wk.own rfl bj (by lia) (λu _ hu=>tk.dg u hu) ?_)));rw[wL];show p7 _ _ _ [some (.ref a),some (nI wk.own),some (nI k),some (.ref D),none,some (nI left),some (nI d8),some (V.int (v:Int)),v8,some (.ref oa),v10] H3
   all_goals
    have pk:=tk.lt hv;have mB:=Xf tk.nd λu hu=>((tk.al u).mp hu).1;obtain⟨mv,zb⟩:=d_ (show v<met.length by lia);refine vI rfl ⟨.inl ⟨rfl,_,ah.of Nb⟩,vI rfl (gI Nb (by rw[aA];exact cI (by lia)) ?_)⟩;refine aq rfl (vI rfl (cC _ _ rfl rfl (qp (by lia)) (aq rfl (iI ?_))));show p7 _ _ _ [some (.ref a),some (nI wk.own),some (nI k),some (.ref D),none,some (V.int (gO (left:Int) (gP ((1:Int)*2^((v:Int)).toNat)))),some (nI d8),some (V.int (v:Int)),v8,some (.ref oa),v10] _;rw[HU];refine aq rfl (vI rfl (iI ?_));have wK:Z.cw left v<2^wk.vars:=uH (Z.P_ _ _) tk.hl;have Nc:NL (upd H3 oa (.lst (order.map nI++[V.int (v:Int)]))) oa (order++[v]):=by show upd _ _ _ _=_;rw[ag];simp
    have nL:NL (upd H3 oa (.lst (order.map nI++[V.int (v:Int)]))) D dU:=by show upd _ _ _ _=_;rw[aj Xi];exact bj
    have s4:af H (upd H3 oa (.lst (order.map nI++[V.int (v:Int)]))):=s3.upd h_;generalize upd H3 oa (.lst (order.map nI++[V.int (v:Int)]))=H4 at Nc nL s4⊢;refine vI rfl (vI rfl (br (nI mv) (ah.of (s4 _ _ ha)) (bw rfl (cF zb)) (vI rfl (iI (aW (mv&&&Z.cw left v) (by show [V.int _]=_;rw[y9]) (eP (uH at3 wK) (sq (by decide) (by lia))) λf H5 pW s5 hf=>aW f rfl ⟨_,ah.of hf⟩ ?_)))));have hfD:f≠D:=(bL nL pW).symm;have hfo:f≠oa:=(bL Nc pW).symm;generalize Nd:Z.bitsOf (mv&&&Z.cw left v)=bs at*;have lW:bs.Nodup:=by rw[<-Nd];exact Z.aaT _
    have M8:∀o∈bs,(Z.cw left v).testBit o=true/\(jL wk.code).contains (o,v)=true:=λo ho=>by rw[<-Nd,Z.Dp,jG,eW]at ho;exact⟨ho.2,by rw[G.sym,<-G.bit v mv zb];exact ho.1⟩
    refine rC (K:=K) (a:=f) (xs:=bs.map nI)
     (λt σ H6=>∃(gW:Nat)(iS:List Nat)(v10:Option V),σ=[some (.ref a),some (nI wk.own),some (nI k),some (.ref D),none,some (nI (Z.cw left v)),some (nI gW),some (nI v),v8,some (.ref oa),v10]/\af H H6/\NL H6 D iS/\NL H6 oa (order++[v])/\NL H6 f bs/\Z.Ti (jL wk.code) wk.vars k left v gW iS (bs.take t))
     ⟨d8&&&Z.cw left v,dU,v10,by show [_,_,_,_,_,_,some (V.int (gO (d8:Int) ((Z.cw left v:Nat):Int))),_,_,_,_]=_;rw[y9],s4.trans s5,s5 _ _ nL,s5 _ _ Nc,hf,Z.Ti.start tk λu=>jG _ _ _⟩ (λt σ H6 _ ⟨_,_,_,_,_,_,_,h,_⟩=>ah.of h) ?_ ?_
    ·rintro t x σ H6 hx ⟨gW,iS,v10,rfl,s6,Ic,Nf,Xj,ti⟩;refine ar (dk hx) λo ho ij=>?_;obtain rfl:=ij;obtain⟨Xk,qi⟩:=M8 o (cP ho);obtain⟨d,hd⟩:∃d,iS[o]?=some d:=⟨_,ti.dg o Xk⟩;have EJ:=cN hd
     have awO:=ti.dl;have jb:o∉bs.take t:=λhm=>by
      obtain⟨j,hj⟩:=zX hm;have wM:j<t:=by have:=cN hj;rw[fw]at this;lia
      rw[JM wM]at hj;have:=(xM lW).mp ((d0.mp hj).2.trans (d0.mp ho).2.symm)
      lia
     have step:=λ(e2:Nat)(he:∀x,e2.testBit x=(gW.testBit x||(decide (x=o)&&decide (d-1=k-1))))=>ti.step Xk qi pk hv jb hd (by lia) he;have hd1:1<=d:=by
      by_cases q:d-1=k-1
      ·exact(step (gW|||2^o) λx=>by rw[Z.x9];simp[q]).1
      ·exact(step gW λx=>by simp[q]).1
     refine vI rfl (vI rfl (br (nI d) (ah.of Ic) (bw rfl (cF hd)) (iI (iY Ic (by rw[aA];exact i3 (by lia)) ?_))));have e1:(iS.map nI).set o (V.int ((d:Int)-1))=(iS.set o (d-1)).map nI:=by rw[uX,show(d:Int)-1=((d-1:Nat):Int) by lia]
     have s7:af H (upd H6 D (.lst ((iS.map nI).set o (V.int ((d:Int)-1))))):=s6.upd hD;have Ng:NL (upd H6 D (.lst ((iS.map nI).set o (V.int ((d:Int)-1))))) D (iS.set o (d-1)):=by show upd _ _ _ _=_;rw[ag,e1]
     have Xl:NL (upd H6 D (.lst ((iS.map nI).set o (V.int ((d:Int)-1))))) oa (order++[v]):=by show upd _ _ _ _=_;rw[aj Xi.symm];exact Nf
     have Xm:NL (upd H6 D (.lst ((iS.map nI).set o (V.int ((d:Int)-1))))) f bs:=by show upd _ _ _ _=_;rw[aj hfD];exact Xj
     refine vI rfl (vI rfl (br (nI (d-1)) (ah.of Ng) (bw rfl (cF (i7 EJ))) (vI rfl (iI (cg rfl _ rfl (bW (λh=>?_) λh=>?_))))))
     ·have q:d-1=k-1:=by have:=V.int.inj (of_decide_eq_true h);lia
      refine aq rfl (vI rfl (cC _ _ rfl rfl (qp (by lia)) (iI ?_)));refine⟨gW|||2^o,_,some (nI o),?_,s7,Ng,Xl,Xm,?_⟩
      ·show [_,_,_,_,_,_,some (V.int (lO (gW:Int) ((1:Int)*2^((o:Int)).toNat))),_,_,_,_]=_;rw[BY]
      ·rw[ee ho];exact(step (gW|||2^o) λx=>by rw[Z.x9];simp[q]).2
     ·have q:¬d-1=k-1:=by intro q;apply h;apply decide_eq_true;show V.int ((d-1:Nat):Int)=V.int ((k:Int)-1);congr 1;lia
      refine⟨gW,_,_,rfl,s7,Ng,Xl,Xm,?_⟩;rw[ee ho];exact(step gW λx=>by simp[q]).2
    ·rintro σ H6 ⟨gW,iS,awQ,rfl,s6,Ic,Nf,Xj,ti⟩;rw[aA,eX (aX _)]at ti;obtain⟨q1,q2⟩:=Z.Ti.done G tk zb hv Nd.symm ti;exact aq (Z.aaY hv) ⟨Z.cw left v,gW,iS,order++[v],_,_,_,rfl,s6,Ic,Nf,tk.next hv ht ti.dl q1 q2,rfl⟩
  ·have h0:left=0:=by
    have:V.int (left:Int)=V.int 0:=by simpa using h
    have:=V.int.inj this;omega
   subst h0;refine cT tk.all λq1 q2 q3=>?_;exact vI rfl (kk oa order H3 h_ s3 Nb q1 q2 q3)
def HL(H:Hp)(a:Addr)(hs:List (Option Nat)):Prop:=H a=some (.lst (hs.map my))
def Ie(wk:fg)(k:Nat):List (Option Nat):=(bD wk.vars).map (Z.iT (uY wk k))
def anc(A:aO):Sp:=λvs H Q _=>∃(p:Addr)(lab:Nat->Str)(wk:fg)(k:Nat),vs=[.ref p,nI k]/\iu A H lab p wk/\g8 lab wk/\3<=k/\k<=1000/\
 ∀a H',H a=none->af H H'->HL H' a (Ie wk k)->(Z.orderOf wk k).Nodup->(∀v,v∈Z.orderOf wk k<->v<wk.vars)->Q (.ref a) H'
structure qw (H1:Hp) (ha ma oa:Addr) (holders:List Nat) (fA:List (Option Nat)) (order:List Nat) (H2:Hp):Prop where
 s:af H1 H2
 h:NL H2 ha holders
 m:HL H2 ma fA
 o:NL H2 oa order
def qw.same{H3:Hp}(h:qw H1 ha ma oa holders fA order H2)(s:af H2 H3):qw H1 ha ma oa holders fA order H3:=⟨h.s.trans s,s _ _ h.h,s _ _ h.m,s _ _ h.o⟩
def qw.ane{holders':List Nat}(h:qw H1 ha ma oa holders fA order H2)(n:H1 ha=none)(n1:ha≠ma)(n2:oa≠ha):qw H1 ha ma oa holders' fA order (upd H2 ha (.lst (holders'.map nI))):=
 ⟨h.s.upd n,ag,by show upd _ _ _ _=_;rw[aj n1.symm];exact h.m,by show upd _ _ _ _=_;rw[aj n2];exact h.o⟩
def qw.setM{homes':List (Option Nat)}(h:qw H1 ha ma oa holders fA order H2)(n:H1 ma=none)(n1:ha≠ma)(n2:oa≠ma):qw H1 ha ma oa holders homes' order (upd H2 ma (.lst (homes'.map my))):=
 ⟨h.s.upd n,by show upd _ _ _ _=_;rw[aj n1];exact h.h,ag,by show upd _ _ _ _=_;rw[aj n2];exact h.o⟩
def anf(T:Txt K mg A):aZ P w K mg base bu 5 A.FE A.FF ["program","k"] (anc A):=by
 refine T.Ve.F.bM V3 (λvs H Q E h=>?_) (λaK Ar outer s H vs Q E hr h=>?_)
 ·refine fR h λp lab wk k l5 _=>?_;obtain rfl:=l5;rfl
 ·refine ox h λp lab wk k kA hP ok hk Cd kk=>?_;obtain rfl:=kA;have nd:=V3.nd
  have wH:=ok.W.vb;intro X_ D_;refine aq (au (pS nd 2 (bF (amY T) T.U_ hr (ae (pv 0) az))) (au (pS nd 3 (b9 yH (cK (ae aS az)) (pv 1))) (au (pS nd 4 (b9 yH (cK (ae dW az)) (aD (pv 0) rfl))) (au (gj fP rfl (ahS rfl T.alq (ae (bF (am_ T) T.Vc hr (ae (pv 2) (ae (aD (pv 0) rfl) (ae (pv 1) az)))) az)) (pN nd 5) (au (pS nd 6 (bF (amR T) T.Vd hr (ae (pv 3) (ae (bK bU (pv 2) (pv 5) (λ_ _=>rfl)) az)))) (au (tO (pv 6) (tN (pv 4) (pv 5) nq)) (ax (bx (iV (Aw (pv 6))) (ax (Ee (pv 3) (pv 6) ET (b9 oN aS (pv 5)) vF nq)) bI))))) (ax (aQ (pv 4))))))) ?_;refine vI rfl (kj p lab wk rfl hP ok λta met H1 s1 Xn G=>?_);have ph:=G.len;refine bR (id (hP.same s1)) λdx sl ld h1 _ _=>?_;refine⟨by show 1<=sizeLine;decide,λz1 wI=>?_⟩;have jk:=af.new (o:= .lst [V.int 0]) wI;refine vI rfl (u6 z1 (k:Int) [V.int 0] rfl rfl ag (by lia) (by lia) (by show 1*((k:Int)).toNat<=2^24;lia) λha Xo=>?_);have eha:(cW (((k:Int)).toNat) [V.int 0]).flatten=(cW k 0).map nI:=by rw[wG,Dl,gR];rfl
  rw[eha];have sha:=af.new (o:= .lst ((cW k 0).map nI)) Xo
  refine⟨by show 1<=sizeLine;decide,λz2 Bq=>?_⟩;have qt:=af.new (o:= .lst [V.aL]) Bq
  have s2:=(jk.trans sha).trans qt;refine ai rfl (s2 _ _ h1) T.Program.c T.wB rfl (u6 z2 (wk.vars:Int) [V.aL] rfl rfl ag (by lia) (by lia) (by show 1*((wk.vars:Int)).toNat<=2^24;lia) λma j6=>?_);have Na:(cW (((wk.vars:Int)).toNat) [V.aL]).flatten=(cW wk.vars none).map my:=by rw[wG,Dl,gR];rfl
  rw[Na];have Ca:=af.new (o:= .lst ((cW wk.vars none).map my)) j6
  have s3:=s2.trans Ca;have Xp:H1 ha=none:=dY jk Xo;have Xq:H1 ma=none:=dY s2 j6;have Xr:ha≠ma:=bL (qt _ _ ag) j6;refine vI rfl (ai rfl (s3 _ _ h1) T.Program.c T.MI rfl (vI rfl (cO ta met wk k rfl (s3 _ _ Xn) G ok.W hk λoa order H4 Ig s4 jD eo um uo=>?_)));have no1:oa≠ha:=λe=>by subst e;rw[Ca _ _ (qt _ _ ag)]at Ig;cases Ig
  have no2:oa≠ma:=λe=>by subst e;rw[ag]at Ig;cases Ig
  have mB:=Xf um λv hv=>(uo v).mp hv;refine aB oa _ rfl (ah.of jD) (ajh (K:=K) (a:=oa) (xs:=order.map nI) (λt σ H5=>∃(holders:List Nat)(fA:List (Option Nat))(v5 v6:Option V),σ=[some (.ref p),some (nI k),some (.ref ta),some (.ref ha),some (.ref ma),v5,v6]/\qw H1 ha ma oa holders fA order H5/\Z.Gv wk.vars k holders fA ((order.reverse.take t).foldl (Z.jN (jL wk.code) k) [])) ⟨_,_,none,none,rfl,⟨s3.trans s4,s4 _ _ (Ca _ _ (qt _ _ ag)),s4 _ _ ag,jD⟩,Z.Gv.start _ _⟩ (λt σ H5 _ ⟨_,_,_,_,_,h,_⟩=>ah.of h.o) ?_ ?_)
  ·rintro t x σ H5 hx ⟨holders,fA,v5,v6,rfl,hh,gv⟩;rw[<-List.map_reverse]at hx;refine ar (dk hx) λv hv kB=>?_;obtain rfl:=kB;have hvo:v∈order:=by have:=cP hv;simpa using this
   have Xs:=(uo v).mp hvo;obtain⟨m,hm⟩:=d_ (show v<met.length by lia);have Xt:∀x,(v,x)∉(order.reverse.take t).foldl (Z.jN (jL wk.code) k) []:=λx hx=>by
    have:v∈((order.reverse.take t).foldl (Z.jN (jL wk.code) k) []).map (·.1):=kW.mpr (aq hx rfl);rw[Z.Dv]at this;have lq:v∈order.reverse.take t:=by simpa using this
    obtain⟨j,hj⟩:=zX lq;have wM:j<t:=by have:=cN hj;rw[fw]at this;lia
    rw[JM wM]at hj;have:=(xM (Z.DC um)).mp ((d0.mp hj).2.trans (d0.mp hv).2.symm)
    lia
   have tX:=gv.free G hm;have Ih:(order.reverse.take (t+1)).foldl (Z.jN (jL wk.code) k) []=(order.reverse.take t).foldl (Z.jN (jL wk.code) k) []++[(v,Z.jM holders m)]:=by rw[ee hv,lN,og,ZO,tX]
   refine vI rfl (vI rfl (vI rfl (br (nI m) (ah.of (hh.s _ _ Xn)) (bw rfl (cF hm)) (fQ ha holders m rfl hh.h λH6 s6=>?_))));have Xu:=hh.same s6
   have hhl:=gv.ml;refine vI rfl (vI rfl (vI rfl (iY Xu.m (by rw[aA];exact i3 (by lia)) ?_)));have e1:(fA.map my).set v (my (Z.jM holders m))=(fA.set v (Z.jM holders m)).map my:=by rw[uX]
   rw[e1];have zc:=Xu.setM (homes':=fA.set v (Z.jM holders m)) Xq Xr no2
   generalize upd H6 ma (.lst ((fA.set v (Z.jM holders m)).map my))=H7 at*;cases hf:Z.jM holders m with
   |none=>
    rw[hf]at zc Ih;refine vI rfl (jC ⟨holders,_,_,_,rfl,zc,?_⟩);rw[Ih];exact gv.none_ Xs Xt
   |some r=>
    rw[hf]at zc Ih;have r8:=Z.aa6 hf
    have hrk:r<k:=by rw[gv.hl]at r8;exact r8
    obtain⟨gf,Xv⟩:=d_ r8;refine vI rfl (jg (vI rfl (vI rfl (br (nI gf) (ah.of zc.h) (bw rfl (cF Xv)) (vI rfl (cC _ _ rfl rfl (qp (by lia)) (iI (iY zc.h (by rw[aA];exact i3 r8) ?_))))))));have e2:(holders.map nI).set r (V.int (lO (gf:Int) ((1:Int)*2^((v:Int)).toNat)))=(holders.set r (gf|||2^v)).map nI:=by rw[BY,uX]
    refine⟨holders.set r (gf|||2^v),fA.set v (some r),_,_,rfl,?_,?_⟩
    ·have:=zc.ane (holders':=holders.set r (gf|||2^v)) Xp Xr no1;rw[<-e2]at this;exact this
    ·rw[Ih];exact gv.J7 Xs Xt hrk Xv
  ·rintro σ H5 ⟨holders,fA,v5,v6,rfl,hh,gv⟩;rw[aA,eX (by simp),<-Z.Du]at gv;have Xw:=Z.Dw (jL wk.code) k order
   have:=gv.aa7 (by rw[Xw];exact Z.DC um) λv hv=>by rw[Xw];simpa using(uo v).mpr hv
   refine vI rfl (kk ma H5 (dY s1 Xq) (s1.trans hh.s) ?_ (by rw[<-eo];exact um) (by rw[<-eo];exact uo));have hm:=hh.m
   rw[this]at hm;unfold Ie;rw[Z.Af,<-eo];exact hm
end
end Rg
set_option exponentiation.threshold 2000
namespace Rg
open PySem L2
section
variable{wk:fg}
structure qx (c:d6) (wk:fg) (reg:Nat->Nat) (a_:Nat):Prop where
 ins:aH c=(aH wk.code).map λi=>oq reg (reg ((fO i).getD 0)) i
 aN:Z.aN c=Z.aN wk.code
 tf:∀l,bN c l=bN wk.code l
 lt:∀v,v<wk.vars->reg v<a_
 rb:a_<=1000
 sb:wk.slots<=1000
def zd(A:aO)(H:Hp)(lab:Nat->Str)(p:Addr)(wk:fg)(reg:Nat->Nat)(a_:Nat):Prop:=
 ∃dx q h,H p=some (.ins A.nF dx (HQ (.ref q) (.ref h) (nI a_)))/\iu A H lab q wk/\NL H h ((bD wk.vars).map reg)
theorem zd.same{A:aO}{H H':Hp}{lab:Nat->Str}{p:Addr}{wk:fg}{reg:Nat->Nat}{a_:Nat}(h:zd A H lab p wk reg a_)(s:af H H'):zd A H' lab p wk reg a_:=
 bR h λdx q hh h1 h2 h3=>(fQ dx q hh (s _ _ h1) (h2.same s) (s _ _ h3))
def lF(A:aO)(H:Hp)(lab:Nat->Str)(p:Addr)(c:d6):Prop:=∃wk reg a_,zd A H lab p wk reg a_/\qx c wk reg a_/\g8 lab wk
theorem lF.same{A:aO}{H H':Hp}{lab:Nat->Str}{p:Addr}{c:d6}(h:lF A H lab p c)(s:af H H'):lF A H' lab p c:=
 bR h λwk reg a_ h1 h2 h3=>(fQ wk reg a_ (h1.same s) h2 h3)
def qx.id_(W:Z.gD wk):qx wk.code wk (λv=>v) wk.vars where
 ins:=by
  have:∀i:ck,oq (λv=>v) ((fO i).getD 0) i=i:=λi=>by cases i<;>rfl
  simp only[this];simp
 aN:=rfl
 tf:=λ_=>rfl
 lt:=λ_ h=>h
 rb:=by have:=W.vb;lia
 sb:=by have:=W.sl;lia
def qx.done{k:Nat}(W:Z.gD wk)(hk:0<k)(Cd:k<=1000):qx (Z.tj wk k) wk (Z.oB wk k) k where
 ins:=Z.acm wk k
 aN:=Z.Q8 wk k
 tf:=Z.acn wk k
 lt:=λv _=>Z.acq hk
 rb:=Cd
 sb:=by have:=W.sl;lia
section
variable{P:Program}{w:a9}{K:aV}{mg:Str->Option Value}{A:aO}{base:Heap}
def ano(A:aO):Sp:=λvs H Q _=>∃(p:Addr)(lab:Nat->Str)(wk:fg),vs=[.ref p]/\iu A H lab p wk/\g8 lab wk/\∀x H',H x=none->af H H'->lF A H' lab x wk.code->Q (.ref x) H'
def anp(T:Txt K mg A):aZ P w K mg base bu 3 A.FG A.FH ["program"] (ano A):=by
 refine T.Vf.F.bM V4 (λvs H Q E h=>?_) (λaK Ar outer s H vs Q E hr h=>?_)
 ·refine gb h λp lab wk bp _=>?_;obtain rfl:=bp;rfl
 ·refine bR h λp lab wk bA hP c0=>?_;refine eA c0 λok k=>?_;obtain rfl:=bA;have nd:=V4.nd
  have wH:=ok.W.vb;refine bR (id hP) λdx sl ld h1 h2 h3=>?_;intro X_ D_;refine aq (ax (aQ (gk (WQ T) T.iK hr (ae (pv 0) (ae (qh (TR rfl) T.MN L4 (qh TQ T.y6 TN (aD (pv 0) rfl))) (ae (aD (pv 0) rfl) az)))))) ?_;refine vI rfl (ai rfl h1 T.Program.c T.wB rfl (aq rfl λr km=>?_));have s1:=af.new (o:= .rn 0 (wk.vars:Nat)) km;refine cC r wk.vars rfl ag (by lia) λl hl=>?_;have s2:=af.new (o:= .lst ((bD wk.vars).map nI)) hl;refine ai rfl (s2 _ _ (s1 _ _ h1)) T.Program.c T.wB rfl (alM λx H' hm=>?_);obtain⟨s3,hx,kH,jO⟩:=hm;refine k x H' (dY (s1.trans s2) hx) ((s1.trans s2).trans s3) (fQ wk (λv=>v) wk.vars (fQ kH p l jO (((hP.same s1).same s2).same s3) ?_) (qx.id_ ok.W) ok);have:NL H' l (bD wk.vars):=s3 _ _ ag;rw[List.map_id'];exact this
def anq(A:aO):Sp:=λvs H Q _=>∃(p dx:Addr)(a0 a1:V),vs=[.ref p,a0,a1]/\H p=some (.ins A.dE dx [])/\∀l,H l=none->Q .aL (upd (upd H l (.lst [])) p (.ins A.dE dx (fM a0 a1 (.ref l))))
def anr{H:Hp}{p l:Addr}{a b o:HO}(bh:l≠p):upd (upd (upd H p a) l b) p o=upd (upd H l b) p o:=by
 funext x;unfold upd;by_cases h:x=p
 ·simp[h]
 ·by_cases h2:x=l<;>simp[h,h2]
def ans(T:Txt K mg A):aZ P w K mg base bu 1 A.Hw A.Hx ["self","slot_of","helper"] (anq A):=by
 refine T.iZ.F.bM alv (λvs H Q E h=>?_) (λaK Ar outer s H vs Q E hr h=>?_)
 ·refine fR h λp dx a0 a1 bX _=>?_;obtain rfl:=bX;rfl
 ·refine fR h λp dx a0 a1 cA gF=>?_;refine eA gF λhp k=>?_;obtain rfl:=cA;intro X_ D_;refine aq (au (fj (pv 0) (pv 1) rfl) (au (fj (pv 0) (pv 2) rfl) (ax (fj (pv 0) (cK az) rfl)))) ?_;refine vI rfl (vI rfl (cO p _ dx _ rfl hp T.iZ.c T.BL (by show 0<1000;decide) ?_));refine vI rfl (vI rfl (cO p _ dx _ rfl ag T.iZ.c T.HM (by show 1<1000;decide) ?_));rw[ym];refine⟨by show 0<=sizeLine;decide,λl hl=>?_⟩;have cy:l≠p:=λe=>by subst e;rw[ag]at hl;cases hl
  rw[aj cy]at hl;refine vI rfl (cO p _ dx _ rfl (by rw[aj cy.symm,ag]) T.iZ.c T.ug (by show 2<1000;decide) ?_);rw[anr cy];exact k l hl
def ant(A:aO):Sp:=λvs H Q _=>∃(p dx:Addr)(a0 a2:V)(n:Nat),vs=[.ref p]/\H p=some (.ins A.dE dx (fM a0 (nI n) a2))/\Q (nI n) (upd H p (.ins A.dE dx (fM a0 (nI (n+1)) a2)))
def Xx(T:Txt K mg A):aZ P w K mg base bu 1 A.FP A.FQ ["rewriter"] (ant A):=by
 refine T.ME.F.bM V8 (λvs H Q E h=>?_) (λaK Ar outer s H vs Q E hr h=>?_)
 ·refine qY h λp dx a0 a2 n di _=>?_;obtain rfl:=di;rfl
 ·refine lT h λp dx a0 a2 n eS hp k=>?_;obtain rfl:=eS;have nd:=V8.nd
  intro X_ D_;refine aq (au (pS nd 1 (aD (pv 0) rfl)) (au (ae0 (pv 0) aS ae5) (ax (aQ (pv 1))))) ?_;refine ai rfl hp T.iZ.c T.HM rfl (vI rfl ⟨p,_,dx,_,_,rfl,hp,T.iZ.c,T.HM,rfl,aB _ _ rfl rfl (aB dx _ hp (by show 3<1000;decide) (vI rfl ?_))⟩);exact k
end
end
section
variable{us:List Nat}{v u n:Nat}{i:ck}{H H':Hp}{r p:Addr}{o:HO}{A:aO}{I:List ck}
theorem Nh(f:Nat->V)(v:Nat):∀us:List Nat,cx (us.map λ(v:Nat)=>((bT (v:Int):aT),f v)) (bT (v:Int))=if v∈us then some (f v)else none
 |[]=>rfl
 |u::r=>by
  rw[cM];by_cases e:u=v
  ·subst e;rw[jZ rfl,if_pos (by simp)]
  ·rw[jB (λq=>e (by have:=zJ q;lia)),Nh f v r];by_cases h:v∈r
   ·rw[if_pos h,if_pos (by simp[h])]
   ·rw[if_neg h,if_neg (by simp[h];exactλq=>e q.symm)]
def Xy(hu:u∈us):(us++[v]).findIdx? (λx=>x==u)=us.findIdx? λx=>x==u:=by refine ar (Z.J9 hu) λk e _=>?_;rw[av8,e];rfl
def Xz(hv:v∉us):(us++[v]).findIdx? (λx=>x==v)=some us.length:=by rw[av8,Z.Qi hv];simp[av9]
def lG(us:List Nat)(n:Nat):List (aT×V):=us.map λ(v:Nat)=>(bT (v:Int),nI (Z.cy us n v))
def kN(vs:List Nat)(from_:Nat):List (aT×V):=vs.map λ(v:Nat)=>(bT (v:Int),nI (Z.fG vs from_ v))
def Ii(us:List Nat)(n v:Nat):cx (lG us n) (bT (v:Int))=if v∈us then some (nI (Z.cy us n v))else none:=Nh (λv=>nI (Z.cy us n v)) v us
def Ce(vs:List Nat)(n v:Nat):cx (kN vs n) (bT (v:Int))=if v∈vs then some (nI (Z.fG vs n v))else none:=Nh (λv=>nI (Z.fG vs n v)) v vs
def Ni(h:v∉us):Z.cy (us++[v]) n v=n+us.length:=by unfold Z.cy;rw[Xz h]
def XA(h:u∈us):Z.cy (us++[v]) n u=Z.cy us n u:=by unfold Z.cy;rw[Xy h]
def anu(h:v∉us):dO (lG us n) (bT (v:Int)) (nI (n+us.length))=lG (us++[v]) n:=by rw[A8 _ (by rw[Ii,if_neg h])];unfold lG;rw[gA,cM,jH,Ni h];congr 1;apply ke;intro u hu;rw[XA hu]
def anv(h:v∉us):dO (kN us n) (bT (v:Int)) (nI (n+us.length))=kN (us++[v]) n:=by
 rw[A8 _ (by rw[Ce,if_neg h])];unfold kN;rw[gA,cM,jH];have e1:Z.fG (us++[v]) n v=n+us.length:=by unfold Z.fG;rw[Xz h];rfl
 rw[e1];congr 1;apply ke;intro u hu;have:Z.fG (us++[v]) n u=Z.fG us n u:=by unfold Z.fG;rw[Xy hu]
 rw[this]
def qy(vs us:List Nat)(v:Nat):List Nat:=if v∈vs/\v∉us then us++[v]else us
def mC(vs l:List Nat):List Nat:=l.foldl (qy vs) []
def anw(vs l:List Nat)(v:Nat):mC vs (l++[v])=qy vs (mC vs l) v:=by unfold mC;rw[lN];rfl
def anx(vs:List Nat)(i:ck):mC vs (cQ i)=(gS i).filter vs.contains:=by
 have one:∀a,mC vs [a]=[a].filter vs.contains:=λa=>by unfold mC qy;by_cases h:a∈vs<;>simp[h]
 have two:∀a b,mC vs [a,b]=(if a=b then [a]else [a,b]).filter vs.contains:=λa b=>by
  unfold mC qy;by_cases e:a=b
  ·subst e;by_cases h:a∈vs<;>simp[h]
  ·have e':¬b=a:=λq=>e q.symm;by_cases h:a∈vs<;>by_cases h2:b∈vs<;>simp[h,h2,e,e']
 cases i with
 |op k d a b=>exact two a b
 |copy d a=>exact one a
 |put a=>exact one a
 |cond a l=>exact one a
 |ret a=>exact one a
 |keep s a=>exact one a
 |num d z=>rfl
 |get d=>rfl
 |goto l=>rfl
 |fetch d s=>rfl
def nM(vs:List Nat)(from_:Nat)(us:List Nat)(n:Nat):List ck:=us.map λv=> .fetch (Z.cy us n v) (Z.fG vs from_ v)
def anz{vs:List Nat}{from_:Nat}(h:v∉us):nM vs from_ (us++[v]) n=nM vs from_ us n++[.fetch (n+us.length) (Z.fG vs from_ v)]:=by unfold nM;rw[gA,cM,jH,Ni h];congr 1;apply ke;intro u hu;rw[XA hu]
def XB(u:Nat->Nat)(d:Nat)(i:ck):cQ (oq u d i)=(cQ i).map u:=by cases i<;>rfl
def XC(u:Nat->Nat)(d:Nat)(i:ck):rT (oq u d i)=rT i:=by cases i<;>rfl
def XD(lab:Nat->Str)(u:Nat->Nat)(d:Nat)(i:ck):o_ lab (oq u d i)=o_ lab i:=by cases i<;>rfl
def anA{u:Nat->Nat}{d d':Nat}(h:fO i=some d'):gu (oq u d i)=nI d:=by cases i<;>first|rfl|cases h
def anB(u:Nat->Nat)(i:ck):gu (oq u ((fO i).getD 0) i)=gu i:=by cases i<;>rfl
def g_(H H':Hp)(r l:Addr):Prop:=∀b o,b≠r->b≠l->H b=some o->H' b=some o
def g_.of{l:Addr}(s:af H H'):g_ H H' r l:=λb o _ _ h=>s b o h
def g_.same{H2:Hp}{l:Addr}(s:g_ H H' r l)(t:af H' H2):g_ H H2 r l:=λb o h1 h2 h=>t b o (s b o h1 h2 h)
def g_.wN{l:Addr}(s:g_ H H' r l):g_ H (upd H' r o) r l:=λb u h1 h2 h=>by rw[aj h1];exact s b u h1 h2 h
def g_.ze{l:Addr}(s:g_ H H' r l):g_ H (upd H' l o) r l:=λb u h1 h2 h=>by rw[aj h2];exact s b u h1 h2 h
theorem g_.upd{H H':Hp}{r l p:Addr}{o:HO}(s:g_ H H' r l)(hp:H p=none):g_ H (L2.upd H' p o) r l:=λb u h1 h2 h=>by rw[aj (bL h hp)];exact s b u h1 h2 h
def jj.wN{lab:Nat->Str}{C dx:Addr}{a b c:V}(h:jj A H lab p i)(hr:H r=some (.ins C dx (fM a b c))):jj A (L2.upd H r o) lab p i:=by
 refine bZ h λkH u h1 h2=>?_;refine cD kH u ?_ ?_
 ·rw[aj];exact h1;intro e;subst e;rw[h1]at hr;cases hr
 ·rw[aj];exact h2;intro e;subst e;rw[h2]at hr;cases hr
def jj.Ij{lab:Nat->Str}{o':HO}(h:jj A H lab p i)(hr:H r=some o')(k1:∀C dx fs,o'≠ .ins C dx fs)(k2:∀xs,o'≠ .tup xs):jj A (L2.upd H r o) lab p i:=by
 refine bZ h λkH u h1 h2=>?_;refine cD kH u ?_ ?_
 ·rw[aj];exact h1;intro e;subst e;rw[h1]at hr;exact k1 _ _ _ (eB hr).symm
 ·rw[aj];exact h2;intro e;subst e;rw[h2]at hr;exact k2 _ (eB hr).symm
theorem dG.wN{A:aO}{H:Hp}{lab:Nat->Str}{l r:Addr}{I:List ck}{C dx:Addr}{a b c:V}{o:HO}(h:dG A H lab l I)(hr:H r=some (.ins C dx (fM a b c))):dG A (L2.upd H r o) lab l I:=by refine bc h λps h1 h2 h3=>?_;refine aW ps ?_ h2 λj p i hp hi=>(h3 j p i hp hi).wN hr;rw[aj];exact h1;intro e;subst e;rw[h1]at hr;cases hr
def dG.XE{lab:Nat->Str}{l:Addr}{kvs:List (aT×V)}(h:dG A H lab l I)(hr:H r=some (.dK kvs)):dG A (L2.upd H r o) lab l I:=by
 refine bc h λps h1 h2 h3=>?_;refine aW ps ?_ h2 λj p i hp hi=>(h3 j p i hp hi).Ij hr (λ_ _ _=>by simp) λ_=>by simp
 rw[aj];exact h1;intro e;subst e;rw[h1]at hr;cases hr
def dG.grow{lab:Nat->Str}{l x:Addr}{xs:List V}(h:dG A H lab l I)(hl:H l=some (.lst xs))(hx:jj A H lab x i):dG A (L2.upd H l (.lst (xs++[V.ref x]))) lab l (I++[i]):=by
 refine bc h λps h1 h2 h3=>?_;rw[hl]at h1;have e0:xs=ps.map V.ref:=by injection (eB h1)
 subst e0;have e:ps.map V.ref++[V.ref x]=(ps++[x]).map V.ref:=by simp
 rw[e];have kp:∀p i,jj A H lab p i->jj A (L2.upd H l (.lst ((ps++[x]).map V.ref))) lab p i:=λp i hp=>hp.Ij hl (λ_ _ _=>by simp) λ_=>by simp
 refine aW (ps++[x]) ag (by simp[h2]) λj p i' hp hi=>kp _ _ ?_;rcases lL j ps.length with bH|lU
 ·rw[qS bH]at hp;rw[qS (by lia)]at hi;exact h3 j p i' hp hi
 ·have hj:j=ps.length:=by have:=cN hp;rw[cj]at this;simp at this;lia
  subst hj;rw[uQ (aX _)]at hp;rw[uQ (by lia)]at hi;simp at hp;rw[h2]at hi;simp at hi;subst hp;subst hi;exact hx
def dG.len{lab:Nat->Str}{l:Addr}(h:dG A H lab l I):∃xs,H l=some (.lst xs)/\xs.length=I.length:=let⟨ps,h1,h2,_⟩:=h;⟨_,h1,by rw[aA];exact h2⟩
def Cf(A:aO)(H:Hp)(r sd l:Addr)(n:Nat):Prop:=∃dx,H r=some (.ins A.dE dx (fM (.ref sd) (nI n) (.ref l)))
end
section
section
variable{P:Program}{w:a9}{K:aV}{mg:Str->Option Value}{A:aO}{base:Heap}
def anC(A:aO):Sp:=λvs H Q _=>∃(r p sd l:Addr)(lab:Nat->Str)(i:ck)(n from_:Nat)(acc:List ck)(us:List Nat),vs=[.ref r, .ref p]/\Cf A H r sd l n/\dG A H lab l acc/\jj A H lab p i/\H sd=some (.dK (kN us from_))/\acc.length<=100000/\
 ∀H',g_ H H' r l->Cf A H' r sd l (Z.cH us i n)->dG A H' lab l (acc++Z.gc us from_ i n)->Q .aL H'
def cf{H:Hp}{a b:Addr}{o o':HO}(ha:H a=some o)(hb:H b=some o')(h:o≠o'):a≠b:=λe=>by subst e;rw[ha]at hb;exact h (eB hb)
def anD(T:Txt K mg A):aZ P w K mg base bu 3 A.FN A.FO ["rewriter","step"] (anC A):=by
 refine T.rewrite.F.bM V7 (λvs H Q E h=>?_) (λaK Ar outer s H vs Q E hr h=>?_)
 ·obtain⟨r,p,sd,l,lab,i,n,from_,acc,us,rfl,_⟩:=h;rfl
 ·obtain⟨r,p,sd,l,lab,ins,n,from_,acc,vs,rfl,hR,hS,hP,nN,qz,k⟩:=h;have nd:=V7.nd
  have hu:=nA hr;intro X_ D_;refine aq (au (pS nd 2 vP) (au (gj fP rfl (yA (aD (pv 1) rfl)) (pN nd 3) (ax (bx (PW.pt (rA (iV (SX hu (pv 3) (aD (pv 0) rfl))) (yx (iV (LH hu (pv 3) (pv 2)))))) (au (yP hu (pv 2) (pv 3) (bF (Xx T) T.ME hr (ae (pv 0) az)) rfl) (au (pS nd 4 (vO hu (aD (pv 0) rfl) (pv 3) (λ_ _=>rfl))) (ax (fJ (g6 (aD (pv 0) rfl) (gk (mw T) T.Step hr (ae bG (ae (vO hu (pv 2) (pv 3) (λ_ _=>rfl)) (ae (oP az) (ae (pv 4) az)))))))))) bI))) (au (pS nd 5 (qh Sk T.VL TJ (rH rfl nd (yA (aD (pv 1) rfl)) (kI (N:=["rewriter","step","helper_of","variable","slot","used","given"]) (sc:=aU Mp) (own:=[("variable",3)]) (by decide+kernel)) (λ_ _ _ _ _=>(pN nd 3)) (λ_ _ _ _ _=>mi) (λ_ _ _ _ _=>(LK hu (pv 2) (pv 3) (pv 3) ⟨rfl,rfl,rfl,rfl⟩))))) (au (bx (iV (ajr hu (aD (pv 1) rfl) (aD (pv 0) rfl))) (au (fJ (g6 (aD (pv 0) rfl) (gk (mw T) T.Step hr (ae (aD (pv 1) rfl) (ae (aD (pv 1) rfl) (ae (pv 5) (ae (aD (pv 1) rfl) az))))))) (ax ads)) bI) (au (pS nd 6 (bF (Xx T) T.ME hr (ae (pv 0) az))) (au (fJ (g6 (aD (pv 0) rfl) (gk (mw T) T.Step hr (ae (aD (pv 1) rfl) (ae (pv 6) (ae (pv 5) (ae (aD (pv 1) rfl) az))))))) (ax (fJ (g6 (aD (pv 0) rfl) (gk (mw T) T.Step hr (ae bG (ae dW (ae (oP (ae (pv 6) az)) (ae (vO hu (aD (pv 0) rfl) (aD (pv 1) rfl) (λ_ _=>rfl)) az)))))))))))))) ?_;refineλhd zf=>?_;have s0:af H (upd H hd (.dK [])):=af.new zf;refine bZ (id hP) λdx u h1 h2=>?_;have nu:u≠r:=cf h2 hR.choose_spec (by simp);refine bc (id hS) λps0 rX _ _=>?_;have nul:u≠l:=cf h2 rX (by simp);have Nj:p≠l:=cf h1 rX (by simp);have XF:p≠r:=cf h1 hR.choose_spec (by simp[g7,fM]);have zg:sd≠r:=cf nN hR.choose_spec (by simp);have nO:sd≠l:=cf nN rX (by simp);have XG:hd≠r:=λe=>by subst e;rw[hR.choose_spec]at zf;cases zf
  have nhl:hd≠l:=λe=>by subst e;rw[rX]at zf;cases zf
  have uq:r≠l:=cf hR.choose_spec rX (by simp);refine⟨_,rfl,gH (s0 _ _ h1) T.Step.c T.qm rfl ⟨u,rfl,⟨_,dm.of (s0 _ _ h2)⟩,RF (K:=K) (a:=u) (xs:=(cQ ins).map nI) (λt σ H2=>∃(v3 v4:Option V),σ=[some (.ref r),some (.ref p),some (.ref hd),v3,v4,none,none]/\g_ H H2 r l/\Cf A H2 r sd l (n+(mC vs ((cQ ins).take t)).length)/\dG A H2 lab l (acc++nM vs from_ (mC vs ((cQ ins).take t)) n)/\H2 hd=some (.dK (lG (mC vs ((cQ ins).take t)) n))/\(mC vs ((cQ ins).take t)).length<=t) ⟨none,none,rfl, .of s0,?_,?_,ag,aX _⟩ (λt σ H2 _ ⟨_,_,_,s2,_⟩=>dm.of (s2 _ _ nu nul h2)) ?_ ?_⟩⟩
  ·obtain⟨kH,hR'⟩:=hR;exact⟨kH,s0 _ _ hR'⟩
  ·have:=hS.same s0;show dG A _ lab l (acc++[]);rw[qR];exact this
  ·rintro t x σ H2 hx ⟨v3,v4,rfl,s2,mD,pq,hd2,hlen⟩;refine ar (dk hx) λv hv bp=>?_;obtain rfl:=bp;have qA:=s2 _ _ zg nO nN
   have wO:=cN hv;have r8:=BW ins;rw[ee hv,anw];generalize AS:mC vs ((cQ ins).take t)=us at*;obtain⟨dr,rO⟩:=id mD;refine vI rfl (ai rfl rO T.iZ.c T.BL rfl (aB sd _ rfl (dC.k (k:=bT (v:Int)) qA) (aq rfl ?_)));rw[Ce];by_cases cZ:v∈vs
   case neg=>
    rw[if_neg cZ];have e1:qy vs us v=us:=by unfold qy;rw[if_neg (λq=>cZ q.1)]
    rw[e1];exact bS (bS ⟨_,_,rfl,s2,mD,pq,hd2,by omega⟩)
   rw[if_pos cZ];refine bV (vI rfl (vI rfl (aB hd _ rfl (dC.k (k:=bT (v:Int)) hd2) (aq rfl ?_))));rw[Ii];by_cases wQ:v∈us
   case pos=>
    rw[if_pos wQ];have e1:qy vs us v=us:=by unfold qy;rw[if_neg (λq=>q.2 wQ)]
    rw[e1];exact bS ⟨_,_,rfl,s2,mD,pq,hd2,by omega⟩
   rw[if_neg wQ];have e1:qy vs us v=us++[v]:=by unfold qy;rw[if_pos ⟨cZ,wQ⟩]
   rw[e1];refine bV (vI rfl ⟨r,dr,_,_,_,rfl,rO,?_⟩);have hS3:=pq.wN (o:= .ins A.dE dr (fM (.ref sd) (nI (n+us.length+1)) (.ref l))) rO
   have s3:g_ H (upd H2 r (.ins A.dE dr (fM (.ref sd) (nI (n+us.length+1)) (.ref l)))) r l:=s2.wN;have ur:upd H2 r (.ins A.dE dr (fM (.ref sd) (nI (n+us.length+1)) (.ref l))) hd=some (.dK (lG us n)):=by rw[aj XG];exact hd2
   have Ik:upd H2 r (.ins A.dE dr (fM (.ref sd) (nI (n+us.length+1)) (.ref l))) r=some (.ins A.dE dr (fM (.ref sd) (nI (n+us.length+1)) (.ref l))):=ag;generalize upd H2 r (.ins A.dE dr (fM (.ref sd) (nI (n+us.length+1)) (.ref l)))=H3 at*;refine vI rfl (vI rfl (aB hd _ rfl (oU.k (k:=bT (v:Int)) ur (by unfold lG;rw[aA];exact cI (by lia))) ?_));rw[anu wQ];have kO:=hS3.XE (o:= .dK (lG (us++[v]) n)) ur;have s4:g_ H (upd H3 hd (.dK (lG (us++[v]) n))) r l:=s3.upd zf;have XH:upd H3 hd (.dK (lG (us++[v]) n)) hd=some (.dK (lG (us++[v]) n)):=ag;have qB:upd H3 hd (.dK (lG (us++[v]) n)) r=some (.ins A.dE dr (fM (.ref sd) (nI (n+us.length+1)) (.ref l))):=by rw[aj XG.symm];exact Ik
   generalize upd H3 hd (.dK (lG (us++[v]) n))=H4 at*;have Il:=s4 _ _ zg nO nN
   have zh:dC H4 sd (nI v) (some (nI (Z.fG vs from_ v))):=by have:=dC.k (k:=bT (v:Int)) Il;rw[Ce,if_pos cZ]at this;exact this
   have ghd:dC H4 hd (nI v) (some (nI (n+us.length))):=by have:=dC.k (k:=bT (v:Int)) XH;rw[Ii,if_pos (by simp),Ni wQ]at this;exact this
   refine ar kO.len λwR nJ Cg=>?_;refine ai rfl qB T.iZ.c T.BL rfl (vI rfl (aB sd _ rfl zh ?_));refine ai rfl qB T.iZ.c T.ug rfl ⟨.inl ⟨rfl,_,ah.of nJ⟩,vI rfl (vI rfl (cC hd _ rfl ghd (by show 0<=sizeLine;decide) λtu dz=>?_))⟩;have s5:=af.new (o:= .tup []) dz
   refine vI rfl λx dxx nx bO bQ=>jq x dxx _ _ _ _ rfl ag rfl ?_;have hm:=Made.of (C:=A.c_) (fs:=g7 (.str "fetch") (nI (n+us.length)) (.ref tu) (nI (Z.fG vs from_ v))) (gs:=[]) nx bO bQ
   obtain⟨s6,XJ,Ci,Cj⟩:=hm;have anI:(acc++nM vs from_ us n).length<=1000000:=by unfold nM;rw[cj,aA];lia
   have qC:=((kO.same s5).same s6).grow (s6 _ _ (s5 _ _ nJ)) (x:=x) (i:= .fetch (n+us.length) (Z.fG vs from_ v)) (cD Ci tu Cj (s6 _ _ ag));refine gI (s6 _ _ (s5 _ _ nJ)) (by rw[Cg];exact cI anI) ?_;refine⟨_,_,rfl,((s4.same s5).same s6).ze,⟨dr,?_⟩,?_,?_,by rw[cj];simp;omega⟩
   ·rw[aj uq,cj];exact s6 _ _ (s5 _ _ qB)
   ·rw[anz wQ,<-kf];exact qC
   ·rw[aj nhl];exact s6 _ _ (s5 _ _ XH)
  rintro σ H2 ⟨v3,v4,rfl,s2,mD,pq,hd2,hlen⟩;rw[aA,eX (aX _),anx]at mD pq hd2 hlen;have r8:=BW ins
  generalize AS:(gS ins).filter vs.contains=us at*;have eh:∀v:Nat,(cx (lG us n) (bT (v:Int))).getD (nI v)=nI (Z.cy us n v):=λv=>by
   rw[Ii];by_cases h:v∈us
   ·rw[if_pos h];rfl
   ·rw[if_neg h,Z.oz h];rfl
  have ig:=s2 _ _ XF Nj h1;have pQ:=s2 _ _ nu nul h2;refine ai rfl ig T.Step.c T.qm rfl (aW u rfl ⟨_,dm.of pQ⟩ λD hD=>?_);refine yN (K:=K) (a:=u) (xs:=(cQ ins).map nI) (λt H3=>af H2 H3/\NL H3 D (((cQ ins).take t).map (Z.cy us n))) ⟨af.new hD,ag⟩ (λt H3 _ h=>dm.of (h.1 _ _ pQ)) ?_ ?_
  ·rintro t x H3 hx ⟨s3,bj⟩;refine ar (dk hx) λv hv bA=>?_;obtain rfl:=bA;refine⟨rfl,vI rfl (aW hd rfl (.inl ⟨_, .inl (s3 _ _ hd2)⟩) (vI rfl (vI rfl (aq (dC.k (k:=bT (v:Int)) (s3 _ _ hd2)) (d7 _ bj (by rw[aA,aA,fw];exact cI (by lia)) (s3.upd hD) ?_)))))⟩;show upd _ D _ D=_;rw[ag,ee hv,eh];simp
  rintro H3 ⟨s3,bj⟩;rw[aA,eX (aX _)]at bj;refine cD D _ rfl (.inl ⟨ah.of bj,λtu dz=>?_⟩);have s4:=s3.trans (af.new (o:= .tup (((cQ ins).map (Z.cy us n)).map nI)) dz)
  have wU:upd H3 tu (.tup (((cQ ins).map (Z.cy us n)).map nI)) tu=some (.tup (((cQ ins).map (Z.cy us n)).map nI)):=ag;generalize upd H3 tu (.tup (((cQ ins).map (Z.cy us n)).map nI))=H4 at*;have qD:g_ H H4 r l:=s2.same s4;obtain⟨dr,rO⟩:=id mD;have qB:=s4 _ _ rO;have kO:=pq.same s4;have Ck:=s4 _ _ ig;have Il:=qD _ _ zg nO nN;have nH:(nM vs from_ us n).length<=2:=by unfold nM;rw[aA];lia
  obtain⟨wR,nJ,Cg⟩:=kO.len;have XM:Z.gc vs from_ ins n=nM vs from_ us n++(oq (Z.cy us n) (if Z.dI vs ins=true then n+us.length else(fO ins).getD 0) ins::(if Z.dI vs ins=true then [.keep (Z.fG vs from_ ((fO ins).getD 0)) (n+us.length)]else [])):=by unfold Z.gc nM;rw[AS]
  have XN:Z.cH vs ins n=n+us.length+(if Z.dI vs ins=true then 1 else 0):=by unfold Z.cH;rw[AS]
  have XQ:Z.dI vs ins=false->p7 (Rw (Ex K "list" AR (vJ K (pY 0) "steps") (l9 (AI A.c_ (WM A) [] E0 (l9 (vJ K (pY 1) "kind") (l9 (vJ K (pY 1) "given") (l9 (pY 5) (l9 (vJ K (pY 1) "extra") m_))))) m_))) Ry {nx:=λ_ _=>False,rt:=Q} [some (.ref r),some (.ref p),some (.ref hd),v3,v4,some (.ref tu),none] H4:=by
   intro ho;rw[XM,XN,ho]at k;refine ai rfl qB T.iZ.c T.ug rfl ⟨.inl ⟨rfl,_,ah.of nJ⟩,ai rfl Ck T.Step.c T.aP rfl (ai rfl Ck T.Step.c T.eU rfl (vI rfl (ai rfl Ck T.Step.c T.fY rfl (λx dxx nx bO bQ=>jq x dxx _ _ _ _ rfl ag rfl ?_))))⟩;have hm:=Made.of (C:=A.c_) (fs:=g7 (.str (rT ins)) (gu ins) (.ref tu) (o_ lab ins)) (gs:=[]) nx bO bQ
   obtain⟨s6,XJ,Ci,Cj⟩:=hm;have qC:=(kO.same s6).grow (s6 _ _ nJ) (x:=x) (i:=oq (Z.cy us n) ((fO ins).getD 0) ins) ⟨Ci,tu,by rw[XC,anB,XD];exact Cj,by rw[XB];exact s6 _ _ wU⟩
   refine gI (s6 _ _ nJ) (by rw[Cg,cj];exact cI (by lia)) ?_;refine k _ (qD.same s6).ze ⟨dr,by rw[aj uq];exact s6 _ _ qB⟩ ?_;rw[kf]at qC;exact qC
  refine ai rfl Ck T.Step.c T.eU rfl (ai rfl qB T.iZ.c T.BL rfl (aF sd rfl ?_));cases hg:fO ins with
  |none=>
   have e:gu ins= .aL:=by unfold gu;rw[hg]
   rw[e];exact .inl ⟨rfl,⟨_,Il⟩,_,rfl,bV (XQ (by unfold Z.dI;rw[hg]))⟩
  |some d=>
   have e:gu ins=nI d:=by unfold gu;rw[hg]
   rw[e];refine .inr (aq (dC.k (k:=bT (d:Int)) Il) (aq rfl ?_));rw[Ce];by_cases oA:d∈vs
   case neg=>rw[if_neg oA];exact bV (XQ (by unfold Z.dI;rw[hg];simpa using oA))
   rw[if_pos oA];have ho:Z.dI vs ins=true:=by unfold Z.dI;rw[hg];simpa using oA
   rw[XM,XN,ho,hg]at k;refine bS (vI rfl ⟨r,dr,_,_,_,rfl,qB,?_⟩);have mE:=kO.wN (o:= .ins A.dE dr (fM (.ref sd) (nI (n+us.length+1)) (.ref l))) qB
   have s5:g_ H (upd H4 r (.ins A.dE dr (fM (.ref sd) (nI (n+us.length+1)) (.ref l)))) r l:=qD.wN;have uu:upd H4 r (.ins A.dE dr (fM (.ref sd) (nI (n+us.length+1)) (.ref l))) r=some (.ins A.dE dr (fM (.ref sd) (nI (n+us.length+1)) (.ref l))):=ag;have Nk:upd H4 r (.ins A.dE dr (fM (.ref sd) (nI (n+us.length+1)) (.ref l))) p=some (.ins A.c_ dx (g7 (.str (rT ins)) (gu ins) (.ref u) (o_ lab ins))):=by rw[aj XF];exact Ck
   have anJ:upd H4 r (.ins A.dE dr (fM (.ref sd) (nI (n+us.length+1)) (.ref l))) tu=some (.tup (((cQ ins).map (Z.cy us n)).map nI)):=by rw[aj (cf wU qB (by simp))];exact wU
   have wV:upd H4 r (.ins A.dE dr (fM (.ref sd) (nI (n+us.length+1)) (.ref l))) l=some (.lst wR):=by rw[aj uq.symm];exact nJ
   generalize upd H4 r (.ins A.dE dr (fM (.ref sd) (nI (n+us.length+1)) (.ref l)))=H5 at*;refine ai rfl uu T.iZ.c T.ug rfl ⟨.inl ⟨rfl,_,ah.of wV⟩,ai rfl Nk T.Step.c T.aP rfl (vI rfl (vI rfl (ai rfl Nk T.Step.c T.fY rfl (λx dxx nx bO bQ=>jq x dxx _ _ _ _ rfl ag rfl ?_))))⟩;have hm:=Made.of (C:=A.c_) (fs:=g7 (.str (rT ins)) (nI (n+us.length)) (.ref tu) (o_ lab ins)) (gs:=[]) nx bO bQ
   obtain⟨s6,XJ,Ci,Cj⟩:=hm;have qC:=(mE.same s6).grow (s6 _ _ wV) (x:=x) (i:=oq (Z.cy us n) (n+us.length) ins) ⟨Ci,tu,by rw[XC,anA hg,XD];exact Cj,by rw[XB];exact s6 _ _ anJ⟩
   have hl6:=s6 _ _ wV;refine gI hl6 (by rw[Cg,cj];exact cI (by omega)) ?_;have s7:=(s5.same s6).ze (o:= .lst (wR++[V.ref x]));have Nl:=(aj (o:= .lst (wR++[V.ref x])) uq).trans (s6 _ _ uu);have wW:=(aj (o:= .lst (wR++[V.ref x])) Nj).trans (s6 _ _ Nk);have XR:=ag (H:=upd (upd (upd H5 dxx (.own x)) x (.ins A.c_ dxx [])) x (.ins A.c_ dxx (g7 (.str (rT ins)) (nI (n+us.length)) (.ref tu) (o_ lab ins)))) (a:=l) (o:= .lst (wR++[V.ref x]));generalize upd (upd (upd (upd H5 dxx (.own x)) x (.ins A.c_ dxx [])) x (.ins A.c_ dxx (g7 (.str (rT ins)) (nI (n+us.length)) (.ref tu) (o_ lab ins)))) l (.lst (wR++[V.ref x]))=H7 at*;refine ai rfl Nl T.iZ.c T.ug rfl ⟨.inl ⟨rfl,_,ah.of XR⟩,vI rfl ⟨by show 1<=sizeLine;decide,λt2 ht2=>?_⟩⟩;have s8:=af.new (o:= .tup [nI (n+us.length)]) ht2;have zh:dC (upd H7 t2 (.tup [nI (n+us.length)])) sd (gu ins) (some (nI (Z.fG vs from_ d))):=by have:=dC.k (k:=bT (d:Int)) (s8 _ _ (s7 _ _ zg nO nN));rw[Ce,if_pos oA]at this;rw[e];exact this
   refine ai rfl (s8 _ _ Nl) T.iZ.c T.BL rfl (ai rfl (s8 _ _ wW) T.Step.c T.eU rfl (aB sd _ rfl zh λy dyy ny ndy ney=>jq y dyy _ _ _ _ rfl ag rfl ?_));have W2:=Made.of (C:=A.c_) (fs:=g7 (.str "put") .aL (.ref t2) (nI (Z.fG vs from_ d))) (gs:=[]) ny ndy ney
   obtain⟨s9,hy9,dy9,anQ⟩:=W2;have XS:=s9 _ _ (s8 _ _ XR)
   have Nn:=((qC.same s8).same s9).grow XS (x:=y) (i:= .keep (Z.fG vs from_ d) (n+us.length)) (cD dy9 t2 anQ (s9 _ _ ag));refine gI XS (by rw[cj,Cg,cj];exact cI (by simp;lia)) ?_;refine k _ ((s7.same s8).same s9).ze ⟨dr,by rw[aj uq];exact s9 _ _ (s8 _ _ Nl)⟩ ?_;have ea:acc++(nM vs from_ us n++oq (Z.cy us n) (if true=true then n+us.length else(some d).getD 0) ins::(if true=true then [ayr (Z.fG vs from_ ((some d).getD 0)) (n+us.length)]else []))=acc++nM vs from_ us n++[oq (Z.cy us n) (n+us.length) ins]++[.keep (Z.fG vs from_ d) (n+us.length)]:=by simp
   rw[ea];exact Nn
end
end
section
variable{H:Hp}
def anR{H1 H2:Hp}{r l:Addr}(s:af H H1)(x:g_ H1 H2 r l)(hr:H r=none)(hl:H l=none):af H H2:=λb o h=>x b o (bL h hr) (bL h hl) (s b o h)
def anS{A:aO}{x dx l:Addr}{a0 a1:V}(nx:H x=none)(nd:H dx=none)(ne:dx≠x)(hl:upd (upd H dx (.own x)) x (.ins A.dE dx []) l=none):
  H l=none/\x≠l/\af H (upd (upd (upd (upd H dx (.own x)) x (.ins A.dE dx [])) l (.lst [])) x (.ins A.dE dx (fM a0 a1 (.ref l))))/\
  (upd (upd (upd (upd H dx (.own x)) x (.ins A.dE dx [])) l (.lst [])) x (.ins A.dE dx (fM a0 a1 (.ref l)))) l=some (.lst []):=by
 have Np:l≠x:=λe=>by subst e;rw[ag]at hl;cases hl
 rw[aj Np]at hl;have qE:l≠dx:=λe=>by subst e;rw[ag]at hl;cases hl
 rw[aj qE]at hl;exact⟨hl,Np.symm,(((af.new nd).upd nx).upd hl).upd nx,by rw[aj Np,ag]⟩
theorem Nq{lab:Nat->Str}{f:Nat->V}{x:Str}:∀{ls:List Nat},(∀m∈ls,lab m≠x)->cx (ls.map λm=>((aJ (lab m):aT),f m)) (aJ x:aT)=none
 |[],_=>rfl
 |m::r,h=>by
  rw[cM,jB (λq=>h m (by simp) (Jt q))];exact Nq λu hu=>h u (dn _ hu)
def anT(vs:List Nat)(from_:Nat)(I:List ck)(n t:Nat):(Z.dJ vs from_ (I.take t) n).length<=(Z.dJ vs from_ I n).length:=by have:=(Z.Ka vs from_ (I.take t) (I.drop t) n).1;rw[Jr]at this;rw[this,cj];lia
def anU(vs:List Nat)(from_:Nat){I:List ck}(n:Nat){t:Nat}{i:ck}(h:I[t]?=some i):
  Z.dJ vs from_ (I.take (t+1)) n=Z.dJ vs from_ (I.take t) n++Z.gc vs from_ i (Z.eR vs (I.take t) n)/\Z.eR vs (I.take (t+1)) n=Z.cH vs i (Z.eR vs (I.take t) n):=by
 rw[ee h];have:=Z.Ka vs from_ (I.take t) [i] n
 rw[this.1,this.2];simp[Z.dJ,Z.eR]
def Nr(wk:fg)(kept:List Nat):fg:=⟨(PJ kept wk.slots wk.code wk.vars).1,wk.own,(PJ kept wk.slots wk.code wk.vars).2,wk.slots+kept.length⟩
section
variable{P:Program}{w:a9}{K:aV}{mg:Str->Option Value}{A:aO}{base:Heap}
def anV(A:aO):Sp:=λvs H Q _=>∃(p ka:Addr)(lab:Nat->Str)(wk:fg)(kept:List Nat),vs=[.ref p, .ref ka]/\iu A H lab p wk/\g8 lab wk/\NL H ka kept/\kept.Nodup/\kept.length<=1000/\
 (Z.dJ kept wk.slots (aH wk.code) wk.vars).length<=100000/\∀x H',af H H'->iu A H' lab x (Nr wk kept)->Q (.ref x) H'
structure anW (A:aO) (H:Hp) (lab:Nat->Str) (r sd l ma:Addr) (wk:fg) (kept:List Nat) (t:Nat) (H2:Hp):Prop where
 s:af H H2
 r:Cf A H2 r sd l (Z.eR kept ((aH wk.code).take t) wk.vars)
 st:dG A H2 lab l (Z.dJ kept wk.slots ((aH wk.code).take t) wk.vars)
 sd:H2 sd=some (.dK (kN kept wk.slots))
def anY(T:Txt K mg A):aZ P w K mg base bu 4 A.FK A.FL ["program","kept"] (anV A):=by
 refine T.Vh.F.bM V6 (λvs H Q E h=>?_) (λaK Ar outer s H vs Q E hr h=>?_)
 ·refine qY h λp ka lab wk kept bp _=>?_;obtain rfl:=bp;rfl
 ·refine lT h λp ka lab wk kept bA hP c0=>?_;refine iR c0 λok XT lW zi hsz k=>?_;obtain rfl:=bA;have nd:=V6.nd
  have hu:=nA hr;have wH:=ok.W.vb;have Nt:=ok.W.sb;have HX:=ok.ll;refine bR (id hP) λdx sl ld h1 bX h5=>?_;obtain⟨ps,h2,h3,h4⟩:=bX;intro X_ D_;refine aq (au (pS nd 2 vP) (au (gj fP rfl (kG (pv 1)) (pN nd 3) (ax (yP hu (pv 2) (pv 3) (b9 jx (aD (pv 0) rfl) (cV Bm T.dF dQ (pv 2))) rfl))) (au (pS nd 4 (gk (ans T) T.iZ hr (ae (pv 2) (ae (aD (pv 0) rfl) az)))) (au (pS nd 5 (cK az)) (au (gj fP rfl (kG (aD (pv 0) rfl)) (pN nd 6) (au (fJ (g6 (pv 5) (cV fD T.dF dQ (aD (pv 4) rfl)))) (ax (fJ (bF (anD T) T.rewrite hr (ae (pv 4) (ae (pv 6) az))))))) (au (fJ (g6 (pv 5) (cV fD T.dF dQ (aD (pv 4) rfl)))) (au (pS nd 7 vP) (au (S6 (gj fP rfl (S9 (aD (pv 0) rfl)) (oK rfl (g5 (pN nd 8) (g5 (pN nd 9) oJ))) (ax (yP hu (pv 7) (pv 8) (bK bU (pv 5) (pv 9) (λ_ _=>rfl)) rfl)))) (au (pS nd 10 (b9 jx (aD (pv 0) rfl) (cV Bm T.dF dQ (pv 2)))) (ax (aQ (gk (WN T) T.Program hr (ae (aD (pv 4) rfl) (ae (pv 7) (ae (aD (pv 0) rfl) (ae (aD (pv 4) rfl) (ae (pv 10) az))))))))))))))))) ?_;refineλsd nN=>?_;have s0:af H (upd H sd (.dK [])):=af.new nN;refine vI rfl (aW ka rfl ⟨_,ah.of (s0 _ _ XT)⟩ (rC (K:=K) (a:=ka) (xs:=kept.map nI) (λt σ H2=>∃v3:Option V,σ=[some (.ref p),some (.ref ka),some (.ref sd),v3,none,none,none,none,none,none,none]/\af H H2/\H2 sd=some (.dK (kN (kept.take t) wk.slots))) (aW none rfl s0 ag) (λt σ H2 _ vX=>bc vX λ_ _ s2 _=>ah.of (s2 _ _ XT)) ?_ ?_))
  ·rintro t x σ H2 hx ⟨v3,rfl,s2,qA⟩;refine ar (dk hx) λv hv di=>?_;obtain rfl:=di;have wO:=cN hv
   have jb:v∉kept.take t:=λhm=>by
    obtain⟨j,hj⟩:=zX hm;have wM:j<t:=by have:=cN hj;rw[fw]at this;lia
    rw[JM wM]at hj;have:=(xM lW).mp ((d0.mp hj).2.trans (d0.mp hv).2.symm)
    lia
   have Im:(kN (kept.take t) wk.slots).length=(kept.take t).length:=by unfold kN;rw[aA]
   refine ai rfl (s2 _ _ h1) T.Program.c T.HJ rfl (vI rfl (aB sd _ rfl qA (iI (vI rfl (vI rfl (aB sd _ rfl (oU.k (k:=bT (v:Int)) qA (by rw[Im,fw];exact cI (by lia))) ?_))))));refine aW _ rfl (s2.upd nN) ?_;rw[ag,ee hv,<-anv jb];show some (HO.dK (dO _ _ (V.int ((wk.slots:Int)+((kN (kept.take t) wk.slots).length:Int)))))=_;rw[Im];rfl
  rintro σ H2 ⟨v3,rfl,s2,qA⟩;rw[aA,eX (aX _)]at qA;refine vI rfl (ai rfl (s2 _ _ h1) T.Program.c T.wB rfl (λr dr nr Nu XU=>⟨r,dr,_,_,rfl,ag,λl hl=>⟨rfl,?_⟩⟩));refine fz (anS (A:=A) (a0:= .ref sd) (a1:=nI wk.vars) nr Nu XU hl) λnl uq s3 gm=>?_;have Ik:=ag (H:=upd (upd (upd H2 dr (.own r)) r (.ins A.dE dr [])) l (.lst [])) (a:=r) (o:= .ins A.dE dr (fM (.ref sd) (nI wk.vars) (.ref l)))
  generalize upd (upd (upd (upd H2 dr (.own r)) r (.ins A.dE dr [])) l (.lst [])) r (.ins A.dE dr (fM (.ref sd) (nI wk.vars) (.ref l)))=H3 at*;refine⟨by show 0<=sizeLine;decide,λma j6=>?_⟩;have s4:=af.new (o:= .lst []) j6
  have pw:af H (upd H3 ma (.lst [])):=(s2.trans s3).trans s4;have nHr:H r=none:=dY s2 nr;have Nv:H l=none:=dY s2 nl;have Io:H ma=none:=dY (s2.trans s3) j6;have Nw:ma≠r:=λe=>by subst e;rw[Ik]at j6;cases j6
  have Ny:ma≠l:=λe=>by subst e;rw[gm]at j6;cases j6
  have XW:ma≠sd:=λe=>by subst e;rw[s3 _ _ qA]at j6;cases j6
  have zg:sd≠r:=λe=>by subst e;rw[qA]at nr;cases nr
  have nO:sd≠l:=λe=>by subst e;rw[qA]at nl;cases nl
  refine ai rfl (pw _ _ h1) T.Program.c T.rR rfl (aW sl rfl ⟨_,ah.of (pw _ _ h2)⟩ (rC (K:=K) (a:=sl) (xs:=ps.map V.ref) (λt σ H5=>∃v6:Option V,σ=[some (.ref p),some (.ref ka),some (.ref sd),v3,some (.ref r),some (.ref ma),v6,none,none,none,none]/\anW A H lab r sd l ma wk kept t H5/\NL H5 ma ((bD t).map (Z.moved kept wk.slots (aH wk.code) wk.vars))) (aW none rfl ⟨pw,⟨dr,s4 _ _ Ik⟩,aW [] (s4 _ _ gm) rfl λj q i hq _=>by simp at hq,s4 _ _ (s3 _ _ qA)⟩ ag) (λt σ H5 _ rL=>bc rL λ_ _ hh _=>ah.of (hh.s _ _ h2)) ?_ ?_))
  ·rintro t x σ H5 hx ⟨v6,rfl,hh,uv⟩;refine ar (dk hx) λq hq eT=>?_;obtain rfl:=eT;have hti:t<(aH wk.code).length:=by have:=cN hq;lia
   obtain⟨ins,eN⟩:=d_ hti;obtain⟨Nz,uu⟩:=id hh.r;refine ar hh.st.len λmF wV NA=>?_;have htk:=anT kept wk.slots (aH wk.code) wk.vars t
   refine vI rfl ⟨.inl ⟨rfl,_,ah.of uv⟩,ai rfl uu T.iZ.c T.ug rfl (aB l _ rfl (.inl (ah.of wV)) (gI uv (by simp;exact cI (by lia)) ?_))⟩;have s6:=hh.s.upd (o:= .lst (((bD t).map (Z.moved kept wk.slots (aH wk.code) wk.vars)).map nI++[V.int (mF.length:Int)])) Io
   have Cm:Cf A (upd H5 ma (.lst (((bD t).map (Z.moved kept wk.slots (aH wk.code) wk.vars)).map nI++[V.int (mF.length:Int)]))) r sd l (Z.eR kept ((aH wk.code).take t) wk.vars):=⟨Nz,by rw[aj Nw.symm];exact uu⟩;have Cn:dG A (upd H5 ma (.lst (((bD t).map (Z.moved kept wk.slots (aH wk.code) wk.vars)).map nI++[V.int (mF.length:Int)]))) lab l (Z.dJ kept wk.slots ((aH wk.code).take t) wk.vars):=by refine bc hh.st λqs q1 q2 q3=>?_;exact aW qs (by rw[aj Ny.symm];exact q1) q2 λj p' i' kJ gX=>(q3 j p' i' kJ gX).Ij uv (λ_ _ _=>by simp) λ_=>by simp
   have Co:upd H5 ma (.lst (((bD t).map (Z.moved kept wk.slots (aH wk.code) wk.vars)).map nI++[V.int (mF.length:Int)])) sd=some (.dK (kN kept wk.slots)):=by rw[aj XW.symm];exact hh.sd
   have Ip:NL (upd H5 ma (.lst (((bD t).map (Z.moved kept wk.slots (aH wk.code) wk.vars)).map nI++[V.int (mF.length:Int)]))) ma ((bD (t+1)).map (Z.moved kept wk.slots (aH wk.code) wk.vars)):=by show upd _ _ _ _=_;rw[ag,NA,sm];simp[Z.moved]
   generalize upd H5 ma (.lst (((bD t).map (Z.moved kept wk.slots (aH wk.code) wk.vars)).map nI++[V.int (mF.length:Int)]))=H6 at*;refine vI rfl (vI rfl ⟨r,q,sd,l,lab,ins,_,wk.slots,_,kept,rfl,Cm,Cn,(h4 t q ins hq eN).same s6,Co,by lia,λH7 sx Iq qC=>?_⟩);obtain⟨e1,e2⟩:=anU kept wk.slots wk.vars eN;exact aW _ rfl ⟨anR s6 sx nHr Nv,by rw[e2];exact Iq,by rw[e1];exact qC,sx _ _ zg nO Co⟩ (sx _ _ Nw Ny Ip)
  rintro σ H5 ⟨v6,rfl,hh,uv⟩;have fk:ps.length=(aH wk.code).length:=h3
  rw[aA,fk]at hh uv;obtain⟨s5,mG,mE,an1⟩:=hh;rw[eX (aX _)]at mG mE;obtain⟨Nz,uu⟩:=id mG;refine ar mE.len λmF wV NA=>?_;refine vI rfl ⟨.inl ⟨rfl,_,ah.of uv⟩,ai rfl uu T.iZ.c T.ug rfl (aB l _ rfl (.inl (ah.of wV)) (gI uv (by simp;exact cI (by lia)) ?_))⟩;generalize hmL:(bD (aH wk.code).length).map (Z.moved kept wk.slots (aH wk.code) wk.vars)=mL at*;have s6:=s5.upd (o:= .lst (mL.map nI++[V.int (mF.length:Int)])) Io
  have XX:upd H5 ma (.lst (mL.map nI++[V.int (mF.length:Int)])) r=some (.ins A.dE Nz (fM (.ref sd) (nI (Z.eR kept (aH wk.code) wk.vars)) (.ref l))):=by rw[aj Nw.symm];exact uu
  have Cn:dG A (upd H5 ma (.lst (mL.map nI++[V.int (mF.length:Int)]))) lab l (Z.dJ kept wk.slots (aH wk.code) wk.vars):=by refine bc mE λqs q1 q2 q3=>?_;exact aW qs (by rw[aj Ny.symm];exact q1) q2 λj p' i' kJ gX=>(q3 j p' i' kJ gX).Ij uv (λ_ _ _=>by simp) λ_=>by simp
  have Co:upd H5 ma (.lst (mL.map nI++[V.int (mF.length:Int)])) sd=some (.dK (kN kept wk.slots)):=by rw[aj XW.symm];exact an1
  have Ip:NL (upd H5 ma (.lst (mL.map nI++[V.int (mF.length:Int)]))) ma ((bD ((aH wk.code).length+1)).map (Z.moved kept wk.slots (aH wk.code) wk.vars)):=by show upd _ _ _ _=_;rw[ag,NA,sm,gA,hmL];simp[Z.moved]
  generalize upd H5 ma (.lst (mL.map nI++[V.int (mF.length:Int)]))=H6 at*;refineλna fm=>?_;have s7:af H6 (upd H6 na (.dK [])):=af.new fm
  have NB:H na=none:=dY s6 fm;have an3:=s7 _ _ (s6 _ _ h5);have NC:ld≠na:=bL h5 NB;refine aB ld _ an3 trivial λod=>?_;have hN7:upd H6 na (.dK []) na=some (.dK []):=ag;have XY:∀b o,b≠ld->b≠na->H6 b=some o->upd (upd H6 na (.dK [])) ld (.eG od (.dK (c8 lab wk.code))) b=some o:=λb o pj jh hq=>by rw[aj pj,aj jh];exact hq
  have h17:=XY _ _ (cf (s6 _ _ h1) (s6 _ _ h5) (by simp)) (bL h1 NB) (s6 _ _ h1);refine ai rfl h17 T.Program.c T.wA rfl (fQ ld od _ rfl ag (TK (K:=K) (d:=ld) (o:=od) (kvs:=c8 lab wk.code) (p:=8) (q:=9) (λt σ H8=>∃v8 v9:Option V,σ=[some (.ref p),some (.ref ka),some (.ref sd),v3,some (.ref r),some (.ref ma),v6,some (.ref na),v8,v9,none]/\H8 ld=some (.eG od (.dK (c8 lab wk.code)))/\(∀b o,b≠ld->b≠na->H6 b=some o->H8 b=some o)/\H8 na=some (.dK (((Z.aN wk.code).take t).map λl=>(aJ (lab l),nI (Z.moved kept wk.slots (aH wk.code) wk.vars (bN wk.code l)))))) ⟨none,none,rfl,ag,XY,by rw[aj NC.symm];exact hN7⟩ (λt σ H8 _ ⟨_,_,_,h,_⟩=>h) ?_ ?_))
  ·rintro t kk v Tu σ H8 yT ⟨v8,v9,rfl,mH,qF,Ir⟩ hT;refine ar (dk yT) λlb nP Cp=>?_;have ek:kk=aJ (lab lb):=congrArg av_ Cp
   have ev:v=nI (bN wk.code lb):=congrArg awa Cp;subst ek;subst ev;have an6:ma≠ld:=λe=>by subst e;rw[h5]at Io;cases Io
   have an7:ma≠na:=λe=>by subst e;rw[show H6 ma=_ from Ip]at fm;cases fm
   have hm8:=qF _ _ an6 an7 Ip;have sT:=af.new (o:= .tup [kV (aJ (lab lb)),nI (bN wk.code lb)]) hT;have htg:=Z.ya lb wk.code;have an9:((bD ((aH wk.code).length+1)).map (Z.moved kept wk.slots (aH wk.code) wk.vars))[bN wk.code lb]?=some (Z.moved kept wk.slots (aH wk.code) wk.vars (bN wk.code lb)):=cF (uI (by lia));have wO:=cN nP;refine vI rfl (vI rfl (br _ (ah.of (sT _ _ hm8)) (bw rfl (cF an9)) (vI rfl (vI rfl (aB na _ rfl (oU.k (k:=aJ (lab lb)) (sT _ _ Ir) (by rw[aA,fw];exact cI (by lia))) ?_)))));have nTl:ld≠Tu:=λe=>by subst e;rw[mH]at hT;cases hT
   refine cC _ _ rfl (by rw[aj NC];exact sT _ _ mH) (λb o pj jh hq=>by rw[aj jh];exact sT _ _ (qF b o pj jh hq)) ?_;rw[ag,ee nP,gA];rw[A8]
   ·rfl
   ·refine Nq λm hm e=>?_;have ph:m∈Z.aN wk.code:=List.mem_of_mem_take hm
    have:=ok.L m ph lb (cP nP) e;subst this;obtain⟨j,hj⟩:=zX hm;have wM:j<t:=by have:=cN hj;rw[fw]at this;lia
    rw[JM wM]at hj;have:=(xM ok.F.vq).mp ((d0.mp hj).2.trans (d0.mp nP).2.symm)
    lia
  rintro σ H8 ⟨v8,v9,rfl,mH,qF,Ir⟩;have ND:(c8 lab wk.code).length=(Z.aN wk.code).length:=by unfold c8;rw[aA]
  rw[ND,eX (aX _)]at Ir;refine⟨mH,?_⟩;have wX:∀b o,b≠na->H6 b=some o->upd H8 ld (.dK (c8 lab wk.code)) b=some o:=λb o hb hq=>by
   by_cases e:b=ld
   ·subst e;rw[ag,<-s6 _ _ h5];exact hq
   ·rw[aj e];exact qF b o e hb hq
  have an_:upd H8 ld (.dK (c8 lab wk.code)) na=some (.dK ((Z.aN wk.code).map λl=>(aJ (lab l),nI (Z.moved kept wk.slots (aH wk.code) wk.vars (bN wk.code l))))):=by rw[aj NC.symm];exact Ir
  generalize upd H8 ld (.dK (c8 lab wk.code))=H9 at*;have s69:g_ H6 H9 na na:=λb o h1 _ hq=>wX b o h1 hq
  have s9:af H H9:=λb o hq=>wX b o (bL hq NB) (s6 _ _ hq);have XZ:=wX _ _ (λe=>by subst e;rw[XX]at fm;cases fm) XX;have aoa:=wX _ _ (λe=>by subst e;rw[Co]at fm;cases fm) Co;have Nn:dG A H9 lab l (Z.dJ kept wk.slots (aH wk.code) wk.vars):=by refine bc Cn λqs q1 q2 q3=>?_;refine aW qs (wX _ _ (λe=>by subst e;rw[q1]at fm;cases fm) q1) q2 λj p' i' kJ gX=>?_;refine bZ (q3 j p' i' kJ gX) λd' u' w1 w2=>?_;exact cD d' u' (wX _ _ (λe=>by subst e;rw[w1]at fm;cases fm) w1) (wX _ _ (λe=>by subst e;rw[w2]at fm;cases fm) w2)
  refine ai rfl (s9 _ _ h1) T.Program.c T.HJ rfl (vI rfl (aB sd _ rfl aoa (iI ?_)));refine ai rfl XZ T.iZ.c T.ug rfl (vI rfl (ai rfl (s9 _ _ h1) T.Program.c T.MI rfl (ai rfl XZ T.iZ.c T.HM rfl (vI rfl λx dxx nx bO bQ=>lg x dxx _ _ _ _ _ rfl ag rfl ?_))));have Im:(kN kept wk.slots).length=kept.length:=by unfold kN;rw[aA]
  obtain⟨sA,j7,dH,dZ⟩:=Made.of (C:=A.lB) (fs:=BS (.ref l) (.ref na) (nI wk.own) (nI (Z.eR kept (aH wk.code) wk.vars)) (V.int ((wk.slots:Int)+((kN kept wk.slots).length:Int)))) (gs:=[]) nx bO bQ;refine k x _ (s9.trans sA) (fQ dH l na ?_ ?_ ?_)
  ·rw[dZ,Im];show _=some (HO.ins A.lB dH (BS (.ref l) (.ref na) (nI wk.own) (nI (PJ kept wk.slots wk.code wk.vars).2) (nI (wk.slots+kept.length))));rw[(Z.vg kept wk.slots wk.code wk.vars).2];rfl
  ·show dG A _ lab l (aH (PJ kept wk.slots wk.code wk.vars).1);rw[(Z.vg kept wk.slots wk.code wk.vars).1];exact Nn.same sA
  ·have e:c8 lab (Nr wk kept).code=(Z.aN wk.code).map λl=>(aJ (lab l),nI (Z.moved kept wk.slots (aH wk.code) wk.vars (bN wk.code l))):=by unfold c8 Nr;simp only[];rw[Z.vh];apply ke;intro m _;rw[Z.Kb]
   rw[e];exact sA _ _ an_
end
end
section
theorem g8.next{lab:Nat->Str}{wk:fg}(h:g8 lab wk){k:Nat}(W:Z.gD (Z.nextOf wk k)):g8 lab (Z.nextOf wk k):=by have e:Z.aN (Z.nextOf wk k).code=Z.aN wk.code:=Z.vh _ _ _ _;exact⟨W,h.F.next k,by unfold HR;rw[e];exact h.L,by rw[e];exact h.ll,by rw[e];exact h.ls⟩
section
variable{P:Program}{w:a9}{K:aV}{mg:Str->Option Value}{A:aO}{base:Heap}
def aob(A:aO):Sp:=λvs H Q _=>∃(p:Addr)(lab:Nat->Str)(wk:fg)(k f:Nat),vs=[.ref p,nI k]/\iu A H lab p wk/\g8 lab wk/\3<=k/\k<=1000/\Z.mu wk.own (aH wk.code)<f/\
 ∀x H',H x=none->af H H'->lF A H' lab x (PM k f wk)->Q (.ref x) H'
def aoc(T:Txt K mg A):aZ P w K mg base bu 6 A.FI A.FJ ["program","k"] (aob A):=by
 refine T.Vg.F.bM V5 (λvs H Q E h=>?_) (λaK Ar outer s H vs Q E hr h=>?_)
 ·refine qY h λp lab wk k f bp _=>?_;obtain rfl:=bp;rfl
 ·refine lT h λp lab wk k f bA hP c0=>?_;refine fi c0 λok hk Cd hf kk=>?_;obtain rfl:=bA;have nd:=V5.nd
  intro X_ D_;refine aq (ax (Az fP (je rq) (au (pS nd 2 (bF (anf T) T.Ve hr (ae (pv 0) (ae (pv 1) az)))) (au (yK (i:=3) rfl nd rfl rfl (yL rfl rfl rfl rfl) (Eg rfl T.y6 (ae (aD (pv 0) rfl) az)) (kI (N:=["program","k","homes","kept","variable"]) (sc:=aU Mo) (own:=[("variable",4)]) (by decide+kernel)) (λ_ _ _ _ _=>(pN nd 4)) (λ_ _ _ _ _=>(SA (iV (vB (bK (L7 (K:=K) rfl) (pv 2) (pv 4) (λ_ _=>rfl)))))) (λ_ _ _ _ _=>(pv 4))) (au (bx (bz b_ (cV fD T.dF dQ (pv 3)) aS (bt _)) (ax (aQ (gk (WQ T) T.iK hr (ae (pv 0) (ae (pv 2) (ae (pv 1) az)))))) bI) (ax (pS nd 0 (bF (anY T) T.Vh hr (ae (pv 0) (ae (pv 3) az)))))))))) ?_;refine⟨λm σ H2=>∃(p2:Addr)(dA:fg)(f2:Nat)(v2 v3 v4:Option V),σ=[some (.ref p2),some (nI k),v2,v3,v4]/\af H H2/\iu A H2 lab p2 dA/\g8 lab dA/\Z.mu dA.own (aH dA.code)<f2/\PM k f2 dA=PM k f wk/\f2=m,⟨f,p,wk,f,none,none,none,rfl,af.refl H,hP,ok,hf,rfl,rfl⟩,?_⟩;rintro m σ H2 ⟨p2,dA,f2,v2,v3,v4,rfl,s2,Iu,uw,zj,ec,rfl⟩;refine jg (aq (λ_ _ h=>h) ?_);have wH:=uw.W.vb
  refine vI rfl (vI rfl (cO p2 lab dA k rfl Iu uw hk Cd λha H3 Xp s3 hh um uo=>?_));refine bR (id (Iu.same s3)) λdx sl ld h1 _ _=>?_;refine ai rfl h1 T.Program.c T.wB rfl (d7 _ rfl (by lia) (by lia) λD hD=>?_);have hho:∀v,v<dA.vars->(Ie dA k)[v]?=some (Z.iT (uY dA k) v):=λv hv=>cF (uI hv)
  refine SN (lo:=0) (n:=dA.vars) (λi H4=>af H3 H4/\NL H4 D ((bD i).filter λv=>(Z.iT (uY dA k) v).isNone)) ⟨af.new hD,ag⟩ ?_ ?_
  ·rintro i H4 hi ⟨s4,nL⟩;show m7 4 (V.int ((0:Int)+(i:Int))) _ _ _;rw[show(0:Int)+(i:Int)=(i:Int) by lia];have hlen:((bD i).filter λv=>(Z.iT (uY dA k) v).isNone).length<=i:=by have:=uJ (λv=>(Z.iT (uY dA k) v).isNone) (bD i);simpa using this
   refine⟨rfl,vI rfl (vI rfl (br (my _) (ah.of (s4 _ _ hh)) (bw rfl (cF (hho i hi))) (aq rfl ?_)))⟩;cases hm:Z.iT (uY dA k) i with
   |none=>
    refine bV (vI rfl (d7 _ nL (by rw[aA];exact cI (by lia)) (s4.upd hD) ?_));show upd _ D _ D=_;rw[ag,sm,kU];simp[hm]
   |some r=>
    refine bS ⟨s4,?_⟩;rw[sm,kU];simp[hm];exact nL
  rintro H4 ⟨s4,nL⟩;rw[<-Z.Ko um uo]at nL;refine cT (uw.W.next hk um uo) λW' QD awY=>?_;have pw:=(s2.trans s3).trans s4
  refine vI rfl (cC D _ rfl (.inl (ah.of nL)) rfl (aq rfl (bW (λh=>?_) λh=>?_)))
  ·have h0:Z.dv dA k=[]:=by have:=V.int.inj (of_decide_eq_true h);rw[aA]at this;exact CU.mp (by lia)
   have fb:∀v,v<dA.vars->Z.iT (uY dA k) v=some (Z.oB dA k v):=λv hv=>by
    cases hm:Z.iT (uY dA k) v with
    |some r=>unfold Z.oB;rw[hm];rfl
    |none=>
     exfalso;have:v∈Z.dv dA k:=by rw[Z.Ko um uo,fq];exact⟨by simpa using hv,by rw[hm];rfl⟩
     rw[h0]at this;simp at this
   refine vI rfl (vI rfl (vI rfl λx dxx nx bO bQ=>sW x dxx _ _ _ rfl ag rfl ?_));obtain⟨sA,j7,dH,dZ⟩:=Made.of (C:=A.nF) (fs:=HQ (.ref p2) (.ref ha) (nI k)) (gs:=[]) nx bO bQ;refine kk x _ (dY pw nx) (pw.trans sA) (fQ dA (Z.oB dA k) k (fQ dH p2 ha dZ (((Iu.same s3).same s4).same sA) ?_) ?_ uw)
   ·have:=sA _ _ (s4 _ _ hh);unfold NL;rw[this];unfold Ie;rw[kY,kY];congr 2;apply ke;intro v hv;show my (Z.iT (uY dA k) v)=nI (Z.oB dA k v);rw[fb v (by simpa using hv)];rfl
   ·obtain⟨f3,rfl⟩:∃f3,f2=f3+1:=⟨f2-1,by lia⟩;rw[<-ec,Z.Kn,if_pos h0];exact qx.done uw.W (by lia) Cd
  ·have h0:Z.dv dA k≠[]:=λe=>h (by rw[e];rfl);have zi:1<=(Z.dv dA k).length:=Nat.pos_of_ne_zero λe=>h0 (CU.mp e);have awZ:=Z.Kk dA.own (aH dA.code);have how:=uw.W.q0;have aoe:=W'.sb;have e1:aH (Z.nextOf dA k).code=Z.dJ (Z.dv dA k) dA.slots (aH dA.code) dA.vars:=(Z.vg _ _ _ _).1;rw[e1]at aoe;refine vI rfl (vI rfl ⟨p2,D,lab,dA,Z.dv dA k,rfl,(Iu.same s3).same s4,uw,nL,xG.sublist su,by lia,by lia,λx H5 s5 hP5=>?_⟩);obtain⟨f3,rfl⟩:∃f3,f2=f3+1:=⟨f2-1,by omega⟩;refine aF f3 (by lia) ⟨x,Z.nextOf dA k,f3,_,_,_,rfl,pw.trans s5,hP5,uw.next W',by lia,?_,rfl⟩;rw[<-ec,Z.Kn,if_neg h0]
end
end
section
def Iv(A:aO):List Addr:=[A.we,A.wg,A.wj,A.wm,A.wo,A.f_both,A.wq,A.wt,A.wu,A.wx,A.wy,A.wz]
def lH(A:aO):List (aT×Value):=[(aJ "+", .ref A.we),(aJ "-", .ref A.wg),(aJ "*", .ref A.wj),(aJ "/", .ref A.wm),(aJ "@", .ref A.wo),(aJ "&", .ref A.f_both),(aJ "|", .ref A.wq),(aJ "^", .ref A.wt),(aJ "<<", .ref A.wu),(aJ ">>", .ref A.wx),(aJ "<", .ref A.wy),(aJ "==", .ref A.wz)]
def aog(A:aO){k:Nat}(h:k<12):lQ (lH A) (aJ (gK k))=some (.ref ((Iv A).getD k 0)):=by
 match k,h with
 |0,_=>rfl
 |1,_=>rfl
 |2,_=>rfl
 |3,_=>rfl
 |4,_=>rfl
 |5,_=>rfl
 |6,_=>rfl
 |7,_=>rfl
 |8,_=>rfl
 |9,_=>rfl
 |10,_=>rfl
 |11,_=>rfl
section
variable{P:Program}{w:a9}{K:aV}{mg:Str->Option Value}{A:aO}{base:Heap}
def nQ{x:Str}{st:Stmt}{ps:List Str}{f:Addr}{fd:bg}{sp:Sp}{j k:Nat}(h:j<=k)(F:aZ P w K mg base bu j f fd ps sp)(T:bP K mg x st ps f fd):Fv P w K mg base k f sp:=(aB fd ps (F.mono h) T.b T.F.kp)
def aoh(T:Txt K mg A){k:Nat}(h:k<12):Fv P w K mg base 2 ((Iv A).getD k 0) (kM k):=by
 match k,h with
 |0,_=>exact nQ (by decide) (alQ T) T.plus
 |1,_=>exact nQ (by decide) (alR T) T.minus
 |2,_=>exact nQ (by decide) (alS T) T.times
 |3,_=>exact nQ (by decide) (alT T) T.divided
 |4,_=>exact nQ (by decide) (alV T) T.remainder
 |5,_=>exact nQ (by decide) (alW T) T.both
 |6,_=>exact nQ (by decide) (alX T) T.either
 |7,_=>exact nQ (by decide) (alY T) T.Vi
 |8,_=>exact nQ (by decide) (alZ T) T.Vj
 |9,_=>exact nQ (by decide) (al1 T) T.Vk
 |10,_=>exact nQ (by decide) (al4 T) T.less
 |11,_=>exact nQ (by decide) (al7 T) T.equal
def X0:ck->Str
 | .num _ _=>"number"| .copy _ _=>"move"| .op _ _ _ _=>"operate"| .get _=>"in"| .put _=>"out"| .goto _=>"goto"| .cond _ _=>"if"| .ret _=>"ret"| .fetch _ _=>"move"| .keep _ _=>"move"
def aoi(a_:Nat):ck->V
 | .num d _=>nI d| .copy d _=>nI d| .op _ d _ _=>nI d| .get d=>nI d| .fetch d _=>nI d| .keep s _=>nI (a_+s)|_=> .aL
def aoj(a_:Nat):ck->V
 | .copy _ a=>nI a| .op _ _ a _=>nI a| .put a=>nI a| .cond a _=>nI a| .ret a=>nI a| .fetch _ s=>nI (a_+s)| .keep _ a=>nI a|_=> .aL
def aok:ck->V
 | .op _ _ _ b=>nI b|_=> .aL
def aol(A:aO)(c:d6):ck->V
 | .num _ z=> .int z| .op k _ _ _=> .ref ((Iv A).getD k 0)| .goto l=>nI (bN c l)| .cond _ l=>nI (bN c l)|_=> .aL
def ux(A:aO)(H:Hp)(c:d6)(a_:Nat)(p:Addr)(i:ck):Prop:=∃dx,H p=some (.ins A.fL dx (j3 (.str (X0 i)) (aoi a_ i) (aoj a_ i) (aok i) (aol A c i)))
def ux.same{A:aO}{H H':Hp}{c:d6}{a_:Nat}{p:Addr}{i:ck}(h:ux A H c a_ p i)(s:af H H'):ux A H' c a_ p i:=eE h λdx h1=>⟨dx,s _ _ h1⟩
def wY(reg:Nat->Nat)(i:ck):ck:=oq reg (reg ((fO i).getD 0)) i
def aom(A:aO):Sp:=λvs H Q _=>∃(q p:Addr)(lab:Nat->Str)(i:ck)(c:d6)(wk:fg)(reg:Nat->Nat)(a_:Nat),vs=[.ref q, .ref p]/\jj A H lab q i/\zd A H lab p wk reg a_/\qx c wk reg a_/\g8 lab wk/\i∈aH wk.code/\
 ∀x H',H x=none->af H H'->ux A H' c a_ x (wY reg i)->Q (.ref x) H'
def aon(T:Txt K mg A)(OD:lA P w K A.lC (lH A)):aZ P w K mg base bu 3 A.GK A.GL ["step","fit"] (aom A):=by
 refine T.Vv.F.bM Ww (λvs H Q E h=>?_) (λaK Ar outer s H vs Q E hr h=>?_)
 ·refine dS h λq p lab i c wk ib=>?_;refine bZ ib λreg a_ bp _=>?_;obtain rfl:=bp;rfl
 ·refine dS h λq p lab ins c wk c0=>?_;refine iE c0 λreg a_ bA hS hF fo rP=>?_;refine cT rP λok lV k=>?_;obtain rfl:=bA;have nd:=Ww.nd
  have hu:=nA hr;have jf:=ok.F.fit ins lV;have wH:=ok.W.vb;refine bZ (id hS) λdx u h1 h2=>?_;refine bR (id hF) λdf pr hh f1 wZ f3=>?_;refine bR (id wZ) λdp sl ld p1 _ p3=>?_;intro X_ D_;refine aq (au (pS nd 2 dW) (au (bx (iV (Aw (aD (pv 0) rfl))) (ax (pS nd 2 (bK bU (aD (pv 1) rfl) (aD (pv 0) rfl) (λ_ _=>rfl)))) bI) (au (yK (i:=3) rfl nd rfl rfl (yL rfl rfl rfl rfl) (yA (aD (pv 0) rfl)) (kI (N:=["step","fit","into","used","variable","first","extra"]) (sc:=aU My) (own:=[("variable",4)]) (by decide+kernel)) (λ_ _ _ _ _=>(pN nd 4)) (λ_ _ _ _ _=>mi) (λ_ _ _ _ _=>(bK (L7 (K:=K) rfl) (ajn (K:=K) rfl (pv 1) rfl) (pv 4) (λ_ _=>rfl)))) (au (bx (bz b_ (aD (pv 0) rfl) bG (bt _)) (ax (aQ (gk (y8 T) T.Order hr (ae bG (ae (pv 2) (ae (bK bU (pv 3) aS (λ_ _=>rfl)) (ae dW (ae dW az)))))))) bI) (au (bx (bz b_ (aD (pv 0) rfl) bG (bt _)) (ax (aQ (gk (y8 T) T.Order hr (ae bG (ae (pv 2) (ae (b9 jx (aD (pv 1) rfl) (aD (pv 0) rfl)) (ae dW (ae dW az)))))))) bI) (au (bx (bz b_ (aD (pv 0) rfl) bG (bt _)) (ax (aQ (gk (y8 T) T.Order hr (ae bG (ae (b9 jx (aD (pv 1) rfl) (aD (pv 0) rfl)) (ae (bK bU (pv 3) aS (λ_ _=>rfl)) (ae dW (ae dW az)))))))) bI) (au (bx (bz b_ (aD (pv 0) rfl) bG (bt _)) (ax (aQ (gk (y8 T) T.Order hr (ae bG (ae (pv 2) (ae (bK bU (pv 3) aS (λ_ _=>rfl)) (ae (bK bU (pv 3) aS (λ_ _=>rfl)) (ae (ajt OD (Bo rfl T.VJ) (aD (pv 0) rfl) (λ_ _=>rfl)) az)))))))) bI) (au (pS nd 5 (p6 (bz oO (cV fD T.dF dQ (pv 3)) aS (bt _)) (bK bU (pv 3) aS (λ_ _=>rfl)) dW)) (au (pS nd 6 (aD (pv 0) rfl)) (au (bx (PW.pt (l6 (bz b_ (aD (pv 0) rfl) bG (bt _)) (pZ (bz b_ (aD (pv 0) rfl) bG (bt _))))) (ax (pS nd 6 (vO hu (aD (aD (pv 1) rfl) rfl) (aD (pv 0) rfl) (λ_ _=>rfl)))) bI) (ax (aQ (gk (y8 T) T.Order hr (ae (aD (pv 0) rfl) (ae (pv 2) (ae (pv 5) (ae dW (ae (pv 6) az)))))))))))))))))) ?_;have qG:∀v,v<wk.vars->((bD wk.vars).map reg)[v]?=some (reg v):=λv hv=>cF (uI hv);have i4:=jf.vars;cases e1:fO ins with
  |some d=>
   have hd:d<wk.vars:=i4 d (by simp[Z.fF,e1]);have e2:gu ins=nI d:=by unfold gu;rw[e1]
   rw[e2]at h1;refine ai rfl h1 T.Step.c T.eU rfl (jg (ai rfl f1 T.iK.c T.BJ rfl (ai rfl h1 T.Step.c T.eU rfl (br (nI (reg d)) (ah.of f3) (bw rfl (cF (qG d hd))) ?_))));refine ai rfl h1 T.Step.c T.qm rfl (aW u rfl ⟨_,dm.of h2⟩ λD hD=>?_);refine yN (K:=K) (a:=u) (xs:=(cQ ins).map nI) (λt H3=>af H H3/\NL H3 D (((cQ ins).take t).map reg)) ⟨af.new hD,ag⟩ (λt H3 _ h=>dm.of (h.1 _ _ h2)) ?_ ?_
   ·rintro t x H3 hx ⟨s3,bj⟩;refine ar (dk hx) λv hv bX=>?_;obtain rfl:=bX;have pk:v<wk.vars:=i4 v (hZ _ (rV.mp (cP hv)))
    have r8:=BW ins;refine⟨rfl,ai rfl (s3 _ _ f1) T.iK.c T.BJ rfl (vI rfl (br (nI (reg v)) (ah.of (s3 _ _ f3)) (bw rfl (cF (qG v pk))) (d7 _ bj (by rw[aA,aA,fw];exact cI (by lia)) (s3.upd hD) ?_)))⟩;show upd _ D _ D=_;rw[ag,ee hv];simp
   rintro H3 ⟨s3,bj⟩;rw[aA,eX (aX _)]at bj;have k1:=s3 _ _ h1
   have g1:=s3 _ _ f1;cases ins with
   |num d' z=>
    cases(show some d'=some d from e1);refine ai rfl k1 T.Step.c T.aP rfl (aE rfl (ai rfl k1 T.Step.c T.aP rfl (aE rfl (ai rfl k1 T.Step.c T.aP rfl (aE rfl (ai rfl k1 T.Step.c T.aP rfl (aE rfl ?_)))))));refine vI rfl (aB D _ rfl (.inl (ah.of bj)) (iI (jC ?_)));refine ai rfl k1 T.Step.c T.fY rfl ?_;refine ai rfl k1 T.Step.c T.aP rfl (aE rfl (ai rfl k1 T.Step.c T.aP rfl (aE rfl ?_)));refine ai rfl k1 T.Step.c T.aP rfl (vI rfl (vI rfl (vI rfl λx dxx nx bO bQ=>lg x dxx _ _ _ _ _ rfl ag rfl ?_)));obtain⟨sA,j7,dH,dZ⟩:=Made.of (C:=A.fL) (fs:=j3 (.str "number") (nI (reg d)) .aL .aL (.int z)) (gs:=[]) nx bO bQ;exact k x _ (dY s3 nx) (s3.trans sA) ⟨dH,dZ⟩
   |copy d' a=>
    cases(show some d'=some d from e1);refine ai rfl k1 T.Step.c T.aP rfl (dP rfl (vI rfl (vI rfl (br (nI (reg a)) (ah.of bj) (bw (j:=0) rfl rfl) λx dxx nx bO bQ=>lg x dxx _ _ _ _ _ rfl ag rfl ?_))));obtain⟨sA,j7,dH,dZ⟩:=Made.of (C:=A.fL) (fs:=j3 (.str "move") (nI (reg d)) (nI (reg a)) .aL .aL) (gs:=[]) nx bO bQ;exact k x _ (dY s3 nx) (s3.trans sA) ⟨dH,dZ⟩
   |op o d' a b=>
    cases(show some d'=some d from e1);refine ai rfl k1 T.Step.c T.aP rfl (aE rfl (ai rfl k1 T.Step.c T.aP rfl (aE rfl (ai rfl k1 T.Step.c T.aP rfl (aE rfl (ai rfl k1 T.Step.c T.aP rfl (dP rfl (vI rfl (vI rfl (br (nI (reg a)) (ah.of bj) (bw (j:=0) rfl rfl) (vI rfl (br (nI (reg b)) (ah.of bj) (bw (j:=1) rfl rfl) (ai rfl k1 T.Step.c T.fY rfl (cC (aJ (gK o)) _ rfl rfl (aog A jf.1) λx dxx nx bO bQ=>lg x dxx _ _ _ _ _ rfl ag rfl ?_))))))))))))));obtain⟨sA,j7,dH,dZ⟩:=Made.of (C:=A.fL) (fs:=j3 (.str "operate") (nI (reg d)) (nI (reg a)) (nI (reg b)) (.ref ((Iv A).getD o 0))) (gs:=[]) nx bO bQ;exact k x _ (dY s3 nx) (s3.trans sA) ⟨dH,dZ⟩
   |get d'=>
    cases(show some d'=some d from e1);refine ai rfl k1 T.Step.c T.aP rfl (aE rfl (ai rfl k1 T.Step.c T.aP rfl (aE rfl (ai rfl k1 T.Step.c T.aP rfl (aE rfl (ai rfl k1 T.Step.c T.aP rfl (aE rfl ?_)))))));refine vI rfl (aB D _ rfl (.inl (ah.of bj)) (iI (jC ?_)));refine ai rfl k1 T.Step.c T.fY rfl ?_;refine ai rfl k1 T.Step.c T.aP rfl (aE rfl (ai rfl k1 T.Step.c T.aP rfl (aE rfl ?_)));refine ai rfl k1 T.Step.c T.aP rfl (vI rfl (vI rfl (vI rfl λx dxx nx bO bQ=>lg x dxx _ _ _ _ _ rfl ag rfl ?_)));obtain⟨sA,j7,dH,dZ⟩:=Made.of (C:=A.fL) (fs:=j3 (.str "in") (nI (reg d)) .aL .aL .aL) (gs:=[]) nx bO bQ;exact k x _ (dY s3 nx) (s3.trans sA) ⟨dH,dZ⟩
   |fetch d' z=>
    cases(show some d'=some d from e1);refine ai rfl k1 T.Step.c T.aP rfl (aE rfl (ai rfl k1 T.Step.c T.aP rfl (dP rfl (vI rfl (ai rfl g1 T.iK.c T.HK rfl (ai rfl k1 T.Step.c T.fY rfl (iI λx dxx nx bO bQ=>lg x dxx _ _ _ _ _ rfl ag rfl ?_)))))));obtain⟨sA,j7,dH,dZ⟩:=Made.of (C:=A.fL) (fs:=j3 (.str "move") (nI (reg d)) (nI (a_+z)) .aL .aL) (gs:=[]) nx bO bQ;exact k x _ (dY s3 nx) (s3.trans sA) ⟨dH,dZ⟩
   |_=>cases(show(none:Option Nat)=some d from e1)
  |none=>
   have e2:gu ins= .aL:=by unfold gu;rw[e1]
   rw[e2]at h1;refine ai rfl h1 T.Step.c T.eU rfl (jC ?_);refine ai rfl h1 T.Step.c T.qm rfl (aW u rfl ⟨_,dm.of h2⟩ λD hD=>?_);refine yN (K:=K) (a:=u) (xs:=(cQ ins).map nI) (λt H3=>af H H3/\NL H3 D (((cQ ins).take t).map reg)) ⟨af.new hD,ag⟩ (λt H3 _ h=>dm.of (h.1 _ _ h2)) ?_ ?_
   ·rintro t x H3 hx ⟨s3,bj⟩;refine ar (dk hx) λv hv cA=>?_;obtain rfl:=cA;have pk:v<wk.vars:=i4 v (hZ _ (rV.mp (cP hv)))
    have r8:=BW ins;refine⟨rfl,ai rfl (s3 _ _ f1) T.iK.c T.BJ rfl (vI rfl (br (nI (reg v)) (ah.of (s3 _ _ f3)) (bw rfl (cF (qG v pk))) (d7 _ bj (by rw[aA,aA,fw];exact cI (by lia)) (s3.upd hD) ?_)))⟩;show upd _ D _ D=_;rw[ag,ee hv];simp
   rintro H3 ⟨s3,bj⟩;rw[aA,eX (aX _)]at bj;have k1:=s3 _ _ h1
   have g1:=s3 _ _ f1;cases ins with
   |put a=>
    refine ai rfl k1 T.Step.c T.aP rfl (aE rfl (ai rfl k1 T.Step.c T.aP rfl (aE rfl (ai rfl k1 T.Step.c T.aP rfl (aE rfl (ai rfl k1 T.Step.c T.aP rfl (aE rfl ?_)))))));refine vI rfl (aB D _ rfl (.inl (ah.of bj)) (iI (jg (vI rfl (br (nI (reg a)) (ah.of bj) (bw (j:=0) rfl rfl) ?_)))));refine ai rfl k1 T.Step.c T.fY rfl ?_;refine ai rfl k1 T.Step.c T.aP rfl (aE rfl (ai rfl k1 T.Step.c T.aP rfl (aE rfl ?_)));refine ai rfl k1 T.Step.c T.aP rfl (vI rfl (vI rfl (vI rfl λx dxx nx bO bQ=>lg x dxx _ _ _ _ _ rfl ag rfl ?_)));obtain⟨sA,j7,dH,dZ⟩:=Made.of (C:=A.fL) (fs:=j3 (.str "out") .aL (nI (reg a)) .aL .aL) (gs:=[]) nx bO bQ;exact k x _ (dY s3 nx) (s3.trans sA) ⟨dH,dZ⟩
   |goto l=>
    refine ai rfl k1 T.Step.c T.aP rfl (aE rfl (ai rfl k1 T.Step.c T.aP rfl (aE rfl (ai rfl k1 T.Step.c T.aP rfl (aE rfl (ai rfl k1 T.Step.c T.aP rfl (aE rfl ?_)))))));refine vI rfl (aB D _ rfl (.inl (ah.of bj)) (iI (jC ?_)));refine ai rfl k1 T.Step.c T.fY rfl ?_;have dg:dC H3 ld (.str (lab l)) (some (nI (bN wk.code l))):=by have:=dC.k (k:=aJ (lab l)) (s3 _ _ p3);rw[HS ok.L (MY jf)]at this;exact this
    refine ai rfl k1 T.Step.c T.aP rfl (dP rfl (bV (ai rfl g1 T.iK.c T.uf rfl (gH (s3 _ _ p1) T.Program.c T.wA rfl (ai rfl k1 T.Step.c T.fY rfl (aB ld _ rfl dg ?_))))));refine ai rfl k1 T.Step.c T.aP rfl (vI rfl (vI rfl (vI rfl λx dxx nx bO bQ=>lg x dxx _ _ _ _ _ rfl ag rfl ?_)));obtain⟨sA,j7,dH,dZ⟩:=Made.of (C:=A.fL) (fs:=j3 (.str "goto") .aL .aL .aL (nI (bN wk.code l))) (gs:=[]) nx bO bQ;exact k x _ (dY s3 nx) (s3.trans sA) ⟨dH,by show _=some (HO.ins A.fL dH (j3 _ _ _ _ (nI (bN c l))));rw[fo.tf];exact dZ⟩
   |cond a l=>
    refine ai rfl k1 T.Step.c T.aP rfl (aE rfl (ai rfl k1 T.Step.c T.aP rfl (aE rfl (ai rfl k1 T.Step.c T.aP rfl (aE rfl (ai rfl k1 T.Step.c T.aP rfl (aE rfl ?_)))))));refine vI rfl (aB D _ rfl (.inl (ah.of bj)) (iI (jg (vI rfl (br (nI (reg a)) (ah.of bj) (bw (j:=0) rfl rfl) ?_)))));refine ai rfl k1 T.Step.c T.fY rfl ?_;have dg:dC H3 ld (.str (lab l)) (some (nI (bN wk.code l))):=by have:=dC.k (k:=aJ (lab l)) (s3 _ _ p3);rw[HS ok.L (MZ jf)]at this;exact this
    refine ai rfl k1 T.Step.c T.aP rfl (aE rfl (ai rfl k1 T.Step.c T.aP rfl (dP rfl (ai rfl g1 T.iK.c T.uf rfl (gH (s3 _ _ p1) T.Program.c T.wA rfl (ai rfl k1 T.Step.c T.fY rfl (aB ld _ rfl dg ?_)))))));refine ai rfl k1 T.Step.c T.aP rfl (vI rfl (vI rfl (vI rfl λx dxx nx bO bQ=>lg x dxx _ _ _ _ _ rfl ag rfl ?_)));obtain⟨sA,j7,dH,dZ⟩:=Made.of (C:=A.fL) (fs:=j3 (.str "if") .aL (nI (reg a)) .aL (nI (bN wk.code l))) (gs:=[]) nx bO bQ;exact k x _ (dY s3 nx) (s3.trans sA) ⟨dH,by show _=some (HO.ins A.fL dH (j3 _ _ _ _ (nI (bN c l))));rw[fo.tf];exact dZ⟩
   |ret a=>
    refine ai rfl k1 T.Step.c T.aP rfl (aE rfl (ai rfl k1 T.Step.c T.aP rfl (aE rfl (ai rfl k1 T.Step.c T.aP rfl (aE rfl (ai rfl k1 T.Step.c T.aP rfl (aE rfl ?_)))))));refine vI rfl (aB D _ rfl (.inl (ah.of bj)) (iI (jg (vI rfl (br (nI (reg a)) (ah.of bj) (bw (j:=0) rfl rfl) ?_)))));refine ai rfl k1 T.Step.c T.fY rfl ?_;refine ai rfl k1 T.Step.c T.aP rfl (aE rfl (ai rfl k1 T.Step.c T.aP rfl (aE rfl ?_)));refine ai rfl k1 T.Step.c T.aP rfl (vI rfl (vI rfl (vI rfl λx dxx nx bO bQ=>lg x dxx _ _ _ _ _ rfl ag rfl ?_)));obtain⟨sA,j7,dH,dZ⟩:=Made.of (C:=A.fL) (fs:=j3 (.str "ret") .aL (nI (reg a)) .aL .aL) (gs:=[]) nx bO bQ;exact k x _ (dY s3 nx) (s3.trans sA) ⟨dH,dZ⟩
   |keep z a=>
    refine ai rfl k1 T.Step.c T.aP rfl (aE rfl (ai rfl k1 T.Step.c T.aP rfl (aE rfl (ai rfl k1 T.Step.c T.aP rfl (dP rfl (ai rfl g1 T.iK.c T.HK rfl (ai rfl k1 T.Step.c T.fY rfl (iI (vI rfl (br (nI (reg a)) (ah.of bj) (bw (j:=0) rfl rfl) λx dxx nx bO bQ=>lg x dxx _ _ _ _ _ rfl ag rfl ?_))))))))));obtain⟨sA,j7,dH,dZ⟩:=Made.of (C:=A.fL) (fs:=j3 (.str "move") (nI (a_+z)) (nI (reg a)) .aL .aL) (gs:=[]) nx bO bQ;exact k x _ (dY s3 nx) (s3.trans sA) ⟨dH,dZ⟩
   |_=>cases(show some _=none from e1)
end
end
section
variable{a_ slots d r most steps i tk:Nat}{v s:Nat->Int}{zs nums:List Int}{z:Int}{c:d6}{m t:aaF}{x:ck}
def IL(H:Hp)(a:Addr)(zs:List Int):Prop:=H a=some (.lst (zs.map V.int))
structure kP (a_ slots:Nat) (v s:Nat->Int) (zs:List Int):Prop where
 len:zs.length=a_+slots
 reg:∀r,r<a_->zs[r]?=some (v r)
 slot:∀j,j<slots->zs[a_+j]?=some (s j)
 w6:∀z∈zs,Z.cz z
def kP.start(a_ slots:Nat):kP a_ slots (λ_=>0) (λ_=>0) (cW (a_+slots) 0)where
 len:=by simp
 reg:=λr h=>by rw[qO,if_pos (by lia)]
 slot:=λj h=>by rw[qO,if_pos (by lia)]
 w6:=λz h=>by rw[List.eq_of_mem_replicate h];unfold Z.cz;lia
def kP.zk(h:kP a_ slots v s zs)(hd:d<a_)(hz:Z.cz z):kP a_ slots (qW v d z) s (zs.set d z)where
 len:=by rw[mM];exact h.len
 reg:=λr hr=>by
  unfold qW;by_cases e:r=d
  ·subst e;rw[if_pos rfl,i7 (by rw[h.len];omega)]
  ·rw[if_neg e,hX (λq=>e q.symm)];exact h.reg r hr
 slot:=λj hj=>by rw[hX (by lia)];exact h.slot j hj
 w6:=λx hx=>by
  rcases awb hx with q|q
  ·exact h.w6 x q
  ·rw[q];exact hz
def kP.aoo(h:kP a_ slots v s zs)(hd:d<slots)(hz:Z.cz z):kP a_ slots v (qW s d z) (zs.set (a_+d) z)where
 len:=by rw[mM];exact h.len
 reg:=λr hr=>by rw[hX (by lia)];exact h.reg r hr
 slot:=λj hj=>by
  unfold qW;by_cases e:j=d
  ·subst e;rw[if_pos rfl,i7 (by rw[h.len];omega)]
  ·rw[if_neg e,hX (by lia)];exact h.slot j hj
 w6:=λx hx=>by
  rcases awb hx with q|q
  ·exact h.w6 x q
  ·rw[q];exact hz
def kP.nt(h:kP a_ slots v s zs)(hr:r<a_):Z.cz (v r):=h.w6 _ (cP (h.reg r hr))
def kP.inS(h:kP a_ slots v s zs)(hr:r<slots):Z.cz (s r):=h.w6 _ (cP (h.slot r hr))
structure RI (c:d6) (a_ slots most steps:Nat) (nums:List Int) (i:Nat) (m:aaF) (zs:List Int) (tk:Nat):Prop where
 cl:kP a_ slots m.v m.s zs
 inp:m.inp=nums.drop tk
 at_:m.at_<=(aH c).length
 ol:m.out.length<=most
 er:lR c most steps 0 (pF nums)=lR c most (steps-i) i m
theorem RI.start(c:d6)(a_ slots most steps:Nat)(nums:List Int):RI c a_ slots most steps nums 0 (pF nums) (cW (a_+slots) 0) 0:=
 ⟨kP.start _ _,rfl,iO _,iO _,rfl⟩
def NF(hx:(aH c)[m.at_]?=some x):¬PN c m=true:=by have:=cN hx;unfold PN;simp;lia
def RI.next{X1:List Int}{nD:Nat}(h:RI c a_ slots most steps nums i m zs tk)(hi:i<steps)(hx:(aH c)[m.at_]?=some x)(hs:k8 c m= .inl t)
  (cl:kP a_ slots t.v t.s X1) (inp:t.inp=nums.drop nD) (at_:t.at_<=(aH c).length) (ol:t.out.length<=most):RI c a_ slots most steps nums (i+1) t X1 nD where
 cl:=cl
 inp:=inp
 at_:=at_
 ol:=ol
 er:=by rw[h.er,show steps-i=(steps-(i+1))+1 by lia,lR,if_neg (NF hx),hs];simp only[];rw[if_neg (by lia)]
def RI.over(h:RI c a_ slots most steps nums i m zs tk)(hi:i<steps)(hx:(aH c)[m.at_]?=some x)(hs:k8 c m= .inl t)(ol:most<t.out.length):
  lR c most steps 0 (pF nums)=⟨-5,m.out,0,i⟩:=by
 rw[h.er,show steps-i=(steps-(i+1))+1 by lia,lR,if_neg (NF hx),hs];simp only[];rw[if_pos ol]
def RI.ret(h:RI c a_ slots most steps nums i m zs tk)(hi:i<steps)(hx:(aH c)[m.at_]?=some x)(hs:k8 c m= .inr z):
  lR c most steps 0 (pF nums)=⟨0,m.out,z,i+1⟩:=by
 rw[h.er,show steps-i=(steps-(i+1))+1 by lia,lR,if_neg (NF hx),hs]
def RI.aoq(h:RI c a_ slots most steps nums i m zs tk)(hi:i<steps)(hx:(aH c).length<=m.at_):
  lR c most steps 0 (pF nums)=⟨0,m.out,0,i⟩:=by
 rw[h.er,show steps-i=(steps-(i+1))+1 by lia,lR,if_pos (by unfold PN;simpa using hx)]
def RI.stop(h:RI c a_ slots most steps nums steps m zs tk):
  lR c most steps 0 (pF nums)=if(aH c).length<=m.at_ then⟨0,m.out,0,steps⟩else⟨1,m.out,0,steps⟩:=by
 rw[h.er,Nat.sub_self,lR];unfold PN;by_cases q:(aH c).length<=m.at_<;>simp[q]
def Iw(e:Ql59.End):List Int:=[e.how,(e.out.length:Int),e.value,(e.done:Int)]++e.out
def X2(A:aO)(H:Hp)(c:d6)(a_:Nat)(a:Addr):Prop:=∃(ps:List Addr)(e de:Addr),H a=some (.lst ((ps++[e]).map V.ref))/\ps.length=(aH c).length/\(∀(j:Nat)(p:Addr)(i:ck),ps[j]?=some p->(aH c)[j]?=some i->ux A H c a_ p i)/\H e=some (.ins A.fL de (j3 (.str "end") .aL .aL .aL .aL))
section
variable{P:Program}{w:a9}{K:aV}{mg:Str->Option Value}{A:aO}{base:Heap}
def aor:Sp:=λvs H Q _=>∃(a:Addr)(how z n:Int)(out:List Int),vs=[.int how, .ref a, .int z, .int n]/\IL H a out/\out.length<=100000/\∀b H',H b=none->af H H'->IL H' b ([how,(out.length:Int),z,n]++out)->Q (.ref b) H'
def Iy(T:Txt K mg A):aZ P w K mg base bu 1 A.GP A.GQ ["how","put_out","ended_with","done"] (aor):=by
 refine T.outcome.F.bM Wy (λvs H Q E h=>?_) (λaK Ar outer s H vs Q E hr h=>?_)
 ·refine qY h λa how z n out bp _=>?_;obtain rfl:=bp;rfl
 ·refine lT h λa how z n out bA ha c0=>?_;refine eA c0 λhl k=>?_;obtain rfl:=bA;have nd:=Wy.nd
  intro X_ D_;refine aq (ax (aQ (b9 Ln (cK (ae (pv 0) (ae (cV fD T.dF dQ (pv 1)) (ae (pv 2) (ae (pv 3) az))))) (pv 1)))) ?_;refine vI rfl (vI rfl (aB a _ rfl (.inl (ah.of ha)) (vI rfl (vI rfl ⟨by show 4<=sizeLine;decide,λl dM=>?_⟩))));have s1:=af.new (o:= .lst [.int how, .int ((out.map V.int).length:Nat), .int z, .int n]) dM
  refine vI rfl (cO l a _ _ rfl rfl ag (s1 _ _ ha) (by show 4+(out.map V.int).length<=sizeLine;rw[aA];exact g9 (by lia)) λb hb=>?_);refine k b _ (dY s1 hb) (s1.trans (af.new hb)) ?_;show upd _ b _ b=_;rw[ag,aA];rfl
def Iz{H H2:Hp}{ca q dq:Addr}{fs:List (Str×V)}{xs:List V}(px:H ca=some (.lst xs))(fr:∀b o,b≠ca->H b=some o->H2 b=some o)(h:H q=some (.ins A.fL dq fs)):H2 q=some (.ins A.fL dq fs):=fr _ _ (cf h px (by simp)) h
def aos(A:aO):Sp:=λvs H Q _=>∃(oa ca na:Addr)(c:d6)(a_ slots steps most:Nat)(Ls:List Nat)(nums:List Int),vs=[.ref oa, .ref ca, .ref na,nI steps,nI most]/\X2 A H c a_ oa/\IL H ca (cW (a_+slots) 0)/\IL H na nums/\na≠ca/\oa≠ca/\
 (∀z∈nums,Z.cz z)/\(∀i∈aH c,Z.e8 a_ slots Ls i)/\steps<=10000000/\most<=65536/\a_+slots<=100000/\
 ∀a H',H a=none->(∀b o,b≠ca->H b=some o->H' b=some o)->IL H' a (Iw (lR c most steps 0 (pF nums)))->Q (.ref a) H'
def aot(T:Txt K mg A):aZ P w K mg base bu 3 A.GN A.GO ["orders","cells","numbers","steps","most"] (aos A):=by
 refine T.Vw.F.bM Wx (λvs H Q E h=>?_) (λaK Ar outer s H vs Q E hr h=>?_)
 ·refine dS h λoa ca na c a_ slots kx=>?_;refine fR kx λsteps most Ls nums bX _=>?_;obtain rfl:=bX;rfl
 ·refine dS h λoa ca na c a_ slots gF=>?_;refine ox gF λsteps most Ls nums cA hO px fm NG NH=>?_;refine pJ NH λIA aou jf kD wL hrs k=>?_;obtain rfl:=cA;have nd:=Wx.nd
  refine bR (id hO) λps e de ho fk gF=>?_;refine eA gF λX3 EM=>?_;intro X_ D_;refine aq (au (pS nd 5 (cK az)) (au (pS nd 6 aS) (au (pS nd 7 aS) (au (gj fP rfl (Eg rfl T.y6 (ae (pv 3) az)) (pN nd 8) (au (pS nd 9 (bK bU (pv 0) (pv 7) (λ_ _=>rfl))) (au (pS nd 10 (aD (pv 9) rfl)) (au (pA nd 7 aS AF) (ax (bx (bz b_ (pv 10) bG (bt _)) (ax (tO (ajx hr (pv 9) (ae (bK bU (pv 1) (aD (pv 9) rfl) (λ_ _=>rfl)) (ae (bK bU (pv 1) (aD (pv 9) rfl) (λ_ _=>rfl)) az))) (tN (pv 1) (aD (pv 9) rfl) nq))) (ax (bx (bz b_ (pv 10) bG (bt _)) (ax (tO (bK bU (pv 1) (aD (pv 9) rfl) (λ_ _=>rfl)) (tN (pv 1) (aD (pv 9) rfl) nq))) (ax (bx (bz b_ (pv 10) bG (bt _)) (ax (bx (bz vG (bK bU (pv 1) (aD (pv 9) rfl) (λ_ _=>rfl)) aS (bt _)) (ax (pS nd 7 (aD (pv 9) rfl))) bI)) (ax (bx (bz b_ (pv 10) bG (bt _)) (ax (pS nd 7 (aD (pv 9) rfl))) (ax (bx (bz b_ (pv 10) bG (bt _)) (ax (tO (aD (pv 9) rfl) (tN (pv 1) (aD (pv 9) rfl) nq))) (ax (bx (bz b_ (pv 10) bG (bt _)) (au (tO (p6 (bz tT (pv 6) (cV fD T.dF dQ (pv 2)) (bt _)) (bK bU (pv 2) (pv 6) (λ_ _=>rfl)) aS) (tN (pv 1) (aD (pv 9) rfl) nq)) (ax (pA nd 6 aS AF))) (ax (bx (bz b_ (pv 10) bG (bt _)) (au (bx (bz b_ (cV fD T.dF dQ (pv 5)) (pv 4) (bt _)) (ax (aQ (bF (Iy T) T.outcome hr (ae (cU rfl T.ald) (ae (pv 5) (ae aS (ae (pv 8) az))))))) bI) (ax (fJ (g6 (pv 5) (bK bU (pv 1) (aD (pv 9) rfl) (λ_ _=>rfl)))))) (ax (bx (bz b_ (pv 10) bG (bt _)) (ax (aQ (bF (Iy T) T.outcome hr (ae (cU rfl T.MK) (ae (pv 5) (ae (bK bU (pv 1) (aD (pv 9) rfl) (λ_ _=>rfl)) (ae (b9 jx (pv 8) aS) az))))))) (ax (aQ (bF (Iy T) T.outcome hr (ae (cU rfl T.MK) (ae (pv 5) (ae aS (ae (pv 8) az))))))))))))))))))))))))))) (au (pS nd 11 (p6 (bz b_ (aD (bK bU (pv 0) (pv 7) (λ_ _=>rfl)) rfl) bG (bt _)) (cU rfl T.MK) (cU rfl T.ala))) (ax (aQ (bF (Iy T) T.outcome hr (ae (pv 11) (ae (pv 5) (ae aS (ae (pv 3) az)))))))))))) ?_;refine⟨by show 0<=sizeLine;decide,λpa rZ=>?_⟩;have NI:pa≠ca:=λe=>by subst e;rw[show H pa=_ from px]at rZ;cases rZ
  have Cq:∀b o,b≠ca->H b=some o->upd H pa (.lst []) b=some o:=λb o hb hq=>by rw[aj (bL hq rZ)];exact hq
  refine⟨_,rfl,_,rfl,by lia,by lia,RG (lo:=0) (n:=steps) (λi σ H2=>∃(m:aaF)(zs:List Int)(tk:Nat)(v8 v9 v10:Option V),σ=[some (.ref oa),some (.ref ca),some (.ref na),some (nI steps),some (nI most),some (.ref pa),some (nI tk),some (nI m.at_),v8,v9,v10,none]/\IL H2 pa m.out/\IL H2 ca zs/\(∀b o,b≠ca->H b=some o->H2 b=some o)/\RI c a_ slots most steps nums i m zs tk) (kl (pF nums) (cW (a_+slots) 0) 0 none none none rfl ag (by show upd _ _ _ _=_;rw[aj NI.symm];exact px) Cq (RI.start c a_ slots most steps nums)) ?_ ?_⟩
  ·rintro i σ H2 hi ⟨m,zs,tk,v8,v9,v10,rfl,ig,hG,fr,ri⟩;show m7 8 (V.int ((0:Int)+(i:Int))) _ _ _;rw[show(0:Int)+(i:Int)=(i:Int) by lia];have qi:=fr _ _ IA ho
   have oS:=ri.cl.len;have zl:=ri.at_;have mB:=ri.ol;have rd:∀{r:Nat}{z:Int},zs[r]?=some z->oQ (zs.map V.int) (r:Int)=some (.int z):=λh=>bw rfl (cF h);have zm:∀b,H2 b=none->H b=none:=λb hb=>by
    cases q:H b with
    |none=>rfl
    |some o=>
     by_cases Cr:b=ca
     ·subst Cr;rw[show H2 b=_ from hG]at hb;cases hb
     ·rw[fr b o Cr q]at hb;cases hb
   rcases lL m.at_ (aH c).length with bH|lU
   case inr=>have hq:((ps++[e]).map V.ref)[m.at_]?=some (V.ref e):=cF (by rw[uQ (by lia),show m.at_-ps.length=0 by lia];rfl);have g:=Iz px fr EM;refine vI rfl (vI rfl (br (V.ref e) (ah.of qi) (bw rfl hq) ?_));refine ai rfl g T.Order.c T.BN rfl (aq rfl (iI ?_));refine vI rfl (aE rfl (vI rfl (aE rfl (vI rfl (aE rfl (vI rfl (aE rfl (vI rfl (aE rfl (vI rfl (aE rfl (vI rfl (aE rfl (vI rfl (aE rfl ?_)))))))))))))));refine vI rfl (vI rfl (sW pa 0 0 (i:Int) m.out rfl ig (by lia) λb H3 hb s3 iM=>?_));have er:=ri.aoq hi lU;exact k b H3 (zm b hb) (λx o hx hq=>s3 _ _ (fr x o hx hq)) (by rw[er];exact iM)
   obtain⟨q,hq⟩:=d_ (show m.at_<ps.length by lia);obtain⟨x,hx⟩:=d_ bH;have NJ:((ps++[e]).map V.ref)[m.at_]?=some (V.ref q):=cF (by rw[qS (by omega)];exact hq)
   obtain⟨dq,g0⟩:=X3 m.at_ q x hq hx;have g:=Iz px fr g0
   have hf:=jf x (cP hx);have w8:∀xs b o,b≠ca->H b=some o->upd H2 ca (.lst xs) b=some o:=λxs b o hb hq=>by rw[aj hb];exact fr b o hb hq
   have w9:∀xs,IL (upd H2 ca (.lst xs)) pa m.out:=λxs=>by show upd _ _ _ _=_;rw[aj NI];exact ig
   have w_:∀(d:Nat)(z:Int),IL (upd H2 ca (.lst ((zs.map V.int).set d (.int z)))) ca (zs.set d z):=λd z=>by show upd _ _ _ _=_;rw[ag,uX]
   refine vI rfl (vI rfl (br (V.ref q) (ah.of qi) (bw rfl NJ) ?_));refine ai rfl g T.Order.c T.BN rfl (aq rfl (iI ?_));cases x with
   |op o d a b=>
    refine fz hf λhk hd ha hb=>?_;refine vI rfl (dP rfl ?_);refine vI rfl ⟨q,_,dq,_,_,kM o,rfl,g,T.Order.c,T.BO,rfl,aoh T hk,vI rfl (ai rfl g T.Order.c T.ui rfl (br (.int (m.v a)) (ah.of hG) (rd (ri.cl.reg a ha)) (vI rfl (ai rfl g T.Order.c T.VA rfl (br (.int (m.v b)) (ah.of hG) (rd (ri.cl.reg b hb)) (aB (m.v a) (m.v b) rfl ⟨ri.cl.nt ha,ri.cl.nt hb⟩ (vI rfl (ai rfl g T.Order.c T.uh rfl (iY hG (by rw[aA];exact i3 (by lia)) ?_)))))))))⟩;have hz:=Z.abM o (ri.cl.nt ha) (ri.cl.nt hb)
    exact kl ({m with v:=qW m.v d (av3 o (m.v a) (m.v b)),at_:=m.at_+1}) (zs.set d _) tk _ _ _ rfl (w9 _) (w_ d _) (w8 _) (ri.next hi hx (by unfold k8;rw[hx]) (ri.cl.zk hd hz) ri.inp (by show m.at_+1<=_;lia) mB)
   |copy d a=>
    obtain⟨hd,ha⟩:=hf;refine vI rfl (aE rfl (vI rfl (dP rfl (vI rfl (ai rfl g T.Order.c T.ui rfl (br (.int (m.v a)) (ah.of hG) (rd (ri.cl.reg a ha)) (vI rfl (ai rfl g T.Order.c T.uh rfl (iY hG (by rw[aA];exact i3 (by lia)) ?_)))))))));exact kl ({m with v:=qW m.v d (m.v a),at_:=m.at_+1}) (zs.set d _) tk _ _ _ rfl (w9 _) (w_ d _) (w8 _) (ri.next hi hx (by unfold k8;rw[hx]) (ri.cl.zk hd (ri.cl.nt ha)) ri.inp (by show m.at_+1<=_;lia) mB)
   |fetch d z=>
    obtain⟨hd,ha⟩:=hf;refine vI rfl (aE rfl (vI rfl (dP rfl (vI rfl (ai rfl g T.Order.c T.ui rfl (br (.int (m.s z)) (ah.of hG) (rd (ri.cl.slot z ha)) (vI rfl (ai rfl g T.Order.c T.uh rfl (iY hG (by rw[aA];exact i3 (by lia)) ?_)))))))));exact kl ({m with v:=qW m.v d (m.s z),at_:=m.at_+1}) (zs.set d _) tk _ _ _ rfl (w9 _) (w_ d _) (w8 _) (ri.next hi hx (by unfold k8;rw[hx]) (ri.cl.zk hd (ri.cl.inS ha)) ri.inp (by show m.at_+1<=_;omega) mB)
   |keep z a=>
    obtain⟨hd,ha⟩:=hf;refine vI rfl (aE rfl (vI rfl (dP rfl (vI rfl (ai rfl g T.Order.c T.ui rfl (br (.int (m.v a)) (ah.of hG) (rd (ri.cl.reg a ha)) (vI rfl (ai rfl g T.Order.c T.uh rfl (iY hG (by rw[aA];exact i3 (by lia)) ?_)))))))));exact kl ({m with s:=qW m.s z (m.v a),at_:=m.at_+1}) (zs.set (a_+z) _) tk _ _ _ rfl (w9 _) (w_ (a_+z) _) (w8 _) (ri.next hi hx (by unfold k8;rw[hx]) (ri.cl.aoo hd (ri.cl.nt ha)) ri.inp (by show m.at_+1<=_;omega) mB)
   |cond a l=>
    have ha:a<a_:=hf.1;refine vI rfl (aE rfl (vI rfl (aE rfl (vI rfl (dP rfl (vI rfl (ai rfl g T.Order.c T.ui rfl (br (.int (m.v a)) (ah.of hG) (rd (ri.cl.reg a ha)) (cg rfl _ rfl (bW (λh=>?_) λh=>?_))))))))))
    ·have h0:m.v a≠0:=λe=>by rw[e]at h;simp at h
     exact ai rfl g T.Order.c T.BO rfl (kl ({m with at_:=bN c l}) zs tk _ _ _ rfl ig hG fr (ri.next hi hx (by unfold k8;rw[hx];simp only[];rw[if_pos h0]) ri.cl ri.inp (Z.ya l c) mB))
    ·have h0:¬m.v a≠0:=λe=>h (by simpa using e);exact kl ({m with at_:=m.at_+1}) zs tk _ _ _ rfl ig hG fr (ri.next hi hx (by unfold k8;rw[hx];simp only[];rw[if_neg h0]) ri.cl ri.inp (by show m.at_+1<=_;lia) mB)
   |goto l=>
    refine vI rfl (aE rfl (vI rfl (aE rfl (vI rfl (aE rfl (vI rfl (dP rfl (ai rfl g T.Order.c T.BO rfl ?_))))))));exact kl ({m with at_:=bN c l}) zs tk _ _ _ rfl ig hG fr (ri.next hi hx (by unfold k8;rw[hx]) ri.cl ri.inp (Z.ya l c) mB)
   |num d z=>
    obtain⟨hd,hz⟩:=hf;refine vI rfl (aE rfl (vI rfl (aE rfl (vI rfl (aE rfl (vI rfl (aE rfl (vI rfl (dP rfl (ai rfl g T.Order.c T.BO rfl (vI rfl (ai rfl g T.Order.c T.uh rfl (iY hG (by rw[aA];exact i3 (by lia)) ?_)))))))))))));exact kl ({m with v:=qW m.v d z,at_:=m.at_+1}) (zs.set d _) tk _ _ _ rfl (w9 _) (w_ d _) (w8 _) (ri.next hi hx (by unfold k8;rw[hx]) (ri.cl.zk hd hz) ri.inp (by show m.at_+1<=_;lia) mB)
   |get d=>
    have hd:d<a_:=hf;have X4:=fr _ _ NG fm;have IB:=ri.inp;refine vI rfl (aE rfl (vI rfl (aE rfl (vI rfl (aE rfl (vI rfl (aE rfl (vI rfl (aE rfl (vI rfl (dP rfl (vI rfl (vI rfl (aB na _ rfl (.inl (ah.of X4)) (iI (aq rfl (bW (λh=>?_) λh=>?_)))))))))))))))))
    ·have ht:tk<nums.length:=by have:=of_decide_eq_true h;rw[aA]at this;lia
     obtain⟨z,hz⟩:=d_ ht;have aov:=aou z (cP hz)
     have NK:m.inp.headD 0=z:=by rw[IB,xY ht];exact(d0.mp hz).2
     refine vI rfl (vI rfl (br (.int z) (ah.of X4) (bw rfl (cF hz)) (vI rfl (ai rfl g T.Order.c T.uh rfl (iY hG (by rw[aA];exact i3 (by lia)) ?_)))));refine aq rfl (iI (kl ({m with v:=qW m.v d z,inp:=m.inp.drop 1,at_:=m.at_+1}) (zs.set d _) (tk+1) _ _ _ rfl (w9 _) (w_ d _) (w8 _) (ri.next hi hx (by unfold k8;rw[hx];simp only[];rw[NK]) (ri.cl.zk hd aov) (by show m.inp.drop 1=_;rw[IB,Dg]) (by show m.at_+1<=_;lia) mB)))
    ·have ht:nums.length<=tk:=by apply uK;intro q;apply h;apply decide_eq_true;rw[aA];lia
     have NK:m.inp.headD 0=0:=by rw[IB,PD ht];rfl
     refine vI rfl (ai rfl g T.Order.c T.uh rfl (iY hG (by rw[aA];exact i3 (by lia)) ?_));refine aq rfl (iI (kl ({m with v:=qW m.v d 0,inp:=m.inp.drop 1,at_:=m.at_+1}) (zs.set d _) (tk+1) _ _ _ rfl (w9 _) (w_ d _) (w8 _) (ri.next hi hx (by unfold k8;rw[hx];simp only[];rw[NK]) (ri.cl.zk hd (by unfold Z.cz;lia)) (by show m.inp.drop 1=_;rw[IB,Dg]) (by show m.at_+1<=_;lia) mB)))
   |put a=>
    have ha:a<a_:=hf;refine vI rfl (aE rfl (vI rfl (aE rfl (vI rfl (aE rfl (vI rfl (aE rfl (vI rfl (aE rfl (vI rfl (aE rfl (vI rfl (dP rfl (vI rfl (aB pa _ rfl (.inl (ah.of ig)) (vI rfl (cg rfl _ rfl (bW (λh=>?_) λh=>?_))))))))))))))))))
    ·have g4:m.out.length=most:=by have:=V.int.inj (of_decide_eq_true h);rw[aA]at this;lia
     refine vI rfl (vI rfl (sW pa (-5) 0 (i:Int) m.out rfl ig (by lia) λb H3 hb s3 iM=>?_));have er:=ri.over hi hx (t:={m with out:=m.out++[m.v a],at_:=m.at_+1}) (by unfold k8;rw[hx]) (by show most<(m.out++[m.v a]).length;rw[cj];simp;lia)
     exact k b H3 (zm b hb) (λx o hx hq=>s3 _ _ (fr x o hx hq)) (by rw[er];exact iM)
    ·have g4:m.out.length≠most:=λq=>h (by apply decide_eq_true;show V.int _=V.int _;rw[aA,q]);refine vI rfl ⟨.inl ⟨rfl,_,ah.of ig⟩,vI rfl (ai rfl g T.Order.c T.ui rfl (br (.int (m.v a)) (ah.of hG) (rd (ri.cl.reg a ha)) (gI ig (by rw[aA];exact cI (by lia)) ?_)))⟩;refine kl ({m with out:=m.out++[m.v a],at_:=m.at_+1}) zs tk _ _ _ rfl ?_ ?_ ?_ (ri.next hi hx (by unfold k8;rw[hx]) ri.cl ri.inp (by show m.at_+1<=_;omega) (by show(m.out++[m.v a]).length<=most;rw[cj];simp;lia))
     ·show upd _ _ _ _=_;rw[ag];simp
     ·show upd _ _ _ _=_;rw[aj NI.symm];exact hG
     ·intro b o hb hq;rw[aj (bL hq rZ)];exact fr b o hb hq
   |ret a=>
    have ha:a<a_:=hf;refine vI rfl (aE rfl (vI rfl (aE rfl (vI rfl (aE rfl (vI rfl (aE rfl (vI rfl (aE rfl (vI rfl (aE rfl (vI rfl (aE rfl (vI rfl (dP rfl (vI rfl (vI rfl (ai rfl g T.Order.c T.ui rfl (br (.int (m.v a)) (ah.of hG) (rd (ri.cl.reg a ha)) (vI rfl (iI (sW pa 0 (m.v a) ((i:Int)+1) m.out rfl ig (by lia) λb H3 hb s3 iM=>?_))))))))))))))))))))));have er:=ri.ret hi hx (z:=m.v a) (by unfold k8;rw[hx]);exact k b H3 (zm b hb) (λx o hx hq=>s3 _ _ (fr x o hx hq)) (by rw[er];exact iM)
  rintro σ H2 ⟨m,zs,tk,v8,v9,v10,rfl,ig,hG,fr,ri⟩;have zm:∀b,H2 b=none->H b=none:=λb hb=>by
   cases q:H b with
   |none=>rfl
   |some o=>
    by_cases Cr:b=ca
    ·subst Cr;rw[show H2 b=_ from hG]at hb;cases hb
    ·rw[fr b o Cr q]at hb;cases hb
  have qi:=fr _ _ IA ho;have zl:=ri.at_;have mB:=ri.ol;have er:=ri.stop;rcases lL m.at_ (aH c).length with bH|lU
  ·obtain⟨q,hq⟩:=d_ (show m.at_<ps.length by lia);obtain⟨x,hx⟩:=d_ bH;have NJ:((ps++[e]).map V.ref)[m.at_]?=some (V.ref q):=cF (by rw[qS (by omega)];exact hq)
   obtain⟨dq,g0⟩:=X3 m.at_ q x hq hx;have g:=Iz px fr g0
   rw[if_neg (by lia)]at er;refine vI rfl (vI rfl (br (V.ref q) (ah.of qi) (bw rfl NJ) (gH g T.Order.c T.BN rfl (cg rfl _ rfl ?_))));have bh:¬decide (V.str (X0 x)=V.str "end")=true:=by cases x<;>exact gq
   refine bW (λh=>absurd h bh) λ_=>?_;refine vI rfl (vI rfl (vI rfl (sW pa 1 0 (steps:Int) m.out rfl ig (by lia) λb H3 hb s3 iM=>?_)));exact k b H3 (zm b hb) (λx o hx hq=>s3 _ _ (fr x o hx hq)) (by rw[er];exact iM)
  ·have hq:((ps++[e]).map V.ref)[m.at_]?=some (V.ref e):=cF (by rw[uQ (by lia),show m.at_-ps.length=0 by lia];rfl);have g:=Iz px fr EM;rw[if_pos lU]at er;refine vI rfl (vI rfl (br (V.ref e) (ah.of qi) (bw rfl hq) (gH g T.Order.c T.BN rfl (dP rfl ?_))));refine vI rfl (vI rfl (vI rfl (sW pa 0 0 (steps:Int) m.out rfl ig (by omega) λb H3 hb s3 iM=>?_)));exact k b H3 (zm b hb) (λx o hx hq=>s3 _ _ (fr x o hx hq)) (by rw[er];exact iM)
def aow(A:aO):Sp:=λvs H Q _=>∃(p:Addr)(lab:Nat->Str)(c:d6)(wk:fg)(reg:Nat->Nat)(a_:Nat),vs=[.ref p]/\zd A H lab p wk reg a_/\qx c wk reg a_/\g8 lab wk/\
 ∀a H',H a=none->af H H'->X2 A H' c a_ a->Q (.ref a) H'
def aox(T:Txt K mg A)(OD:lA P w K A.lC (lH A)):aZ P w K mg base bu 4 A.GI A.GJ ["fit"] (aow A):=by
 refine T.Vu.F.bM Wv (λvs H Q E h=>?_) (λaK Ar outer s H vs Q E hr h=>?_)
 ·refine sY h λp lab c wk reg a_ di _=>?_;obtain rfl:=di;rfl
 ·refine sY h λp lab c wk reg a_ eS wd=>?_;refine fz wd λhF fo ok k=>?_;obtain rfl:=eS;have nd:=Wv.nd
  have Nt:=ok.W.sb;refine bR (id hF) λdf pr hh f1 wZ f3=>?_;refine bR (id wZ) λdp sl ld p1 eT p3=>?_;obtain⟨st,h2,h3,h4⟩:=eT;intro X_ D_;refine aq (au (yK (i:=1) rfl nd rfl rfl (yL rfl rfl rfl rfl) (kG (aD (aD (pv 0) rfl) rfl)) (kI (N:=["fit","orders","step"]) (sc:=aU Mx) (own:=[("step",2)]) (by decide+kernel)) (λ_ _ _ _ _=>(pN nd 2)) (λ_ _ _ _ _=>mi) (λ_ _ _ _ _=>(bF (aon T OD) T.Vv hr (ae (pv 2) (ae (pv 0) az))))) (au (fJ (g6 (pv 1) (gk (y8 T) T.Order hr (ae bG (ae dW (ae dW (ae dW (ae dW az)))))))) (ax (aQ (pv 1))))) ?_;refine ai rfl f1 T.iK.c T.uf rfl (gH p1 T.Program.c T.rR rfl (aW sl rfl ⟨_,ah.of h2⟩ λD hD=>?_));have eN:∀(j:Nat)(i:ck),(aH wk.code)[j]?=some i->(aH c)[j]?=some (wY reg i):=λj i hi=>by rw[fo.ins];exact cF hi
  have iJ:(aH c).length=(aH wk.code).length:=by rw[fo.ins,aA]
  refine yM (K:=K) (a:=sl) (xs:=st.map V.ref) (λt H3=>af H H3/\∃qs:List Addr,H3 D=some (.lst (qs.map V.ref))/\qs.length=t/\∀(j:Nat)(q:Addr)(i:ck),qs[j]?=some q->(aH c)[j]?=some i->ux A H3 c a_ q i) ⟨af.new hD,[],ag,rfl,λj q i hq _=>by simp at hq⟩ (λt H3 _ h=>ah.of (h.1 _ _ h2)) ?_ ?_
  ·rintro t x H3 hx ⟨s3,qs,fZ,nR,Cs⟩;refine ar (dk hx) λq hq ij=>?_;obtain rfl:=ij;have wO:=cN hq
   obtain⟨ins,hi⟩:=d_ (show t<(aH wk.code).length by lia);refine⟨rfl,vI rfl (vI rfl ⟨q,p,lab,ins,c,wk,reg,a_,rfl,(h4 t q ins hq hi).same s3,hF.same s3,fo,ok,cP hi,λx H4 hx4 s4 hO=>?_⟩)⟩;refine d7 _ (s4 _ _ fZ) (by rw[aA];exact cI (by lia)) ((s3.trans s4).upd hD) (aW (qs++[x]) (by rw[ag];simp) (by simp[nR]) λj q' i hj gX=>?_);have X5:∀{q':Addr}{i:ck},ux A H4 c a_ q' i->ux A (upd H4 D (.lst (qs.map V.ref++[V.ref x]))) c a_ q' i:=λvV=>eE vV λdq h=>⟨dq,by rw[aj (cf h (s4 _ _ fZ) (by simp))];exact h⟩
   rcases lL j qs.length with bH|lU
   ·rw[qS bH]at hj;exact X5 ((Cs j q' i hj gX).same s4)
   ·have MU:j=qs.length:=by have:=cN hj;rw[cj]at this;simp at this;lia
    subst MU;rw[uQ (aX _)]at hj;simp at hj;subst hj;rw[nR,eN t ins hi]at gX;cases gX;exact X5 hO
  rintro H3 ⟨s3,qs,fZ,nR,Cs⟩;rw[aA,h3]at nR;refine vI rfl ⟨.inl ⟨rfl,_,ah.of fZ⟩,λx dxx nx bO bQ=>lg x dxx _ _ _ _ _ rfl ag rfl ?_⟩;obtain⟨sA,j7,dH,dZ⟩:=Made.of (C:=A.fL) (fs:=j3 (.str "end") .aL .aL .aL .aL) (gs:=[]) nx bO bQ;refine gI (sA _ _ fZ) (by rw[aA];exact cI (by lia)) (vI rfl ?_);refine k D _ hD ((s3.trans sA).upd hD) (kj qs x dH (by rw[ag];simp) (by lia) (λj q i hj hi=>?_) ?_)
  ·obtain⟨dq,h⟩:=(Cs j q i hj hi).same sA;exact⟨dq,by rw[aj (cf h (sA _ _ fZ) (by simp))];exact h⟩
  ·rw[aj (cf dZ (sA _ _ fZ) (by simp))];exact dZ
def aoy(A:aO):Sp:=λvs H Q _=>∃(p na:Addr)(lab:Nat->Str)(c:d6)(steps most:Nat)(nums:List Int),vs=[.ref p, .ref na,nI steps,nI most]/\lF A H lab p c/\IL H na nums/\
 (∀z∈nums,Z.cz z)/\steps<=10000000/\most<=65536/\∀a H',H a=none->af H H'->IL H' a (Iw (lR c most steps 0 (pF nums)))->Q (.ref a) H'
def X6{wk:fg}{reg:Nat->Nat}{lab:Nat->Str}(fo:qx c wk reg a_)(ok:g8 lab wk):∀i∈aH c,Z.e8 a_ wk.slots (Z.aN wk.code) i:=by
 intro i hi;rw[fo.ins,kW]at hi;refine ar hi λx hx kA=>?_;obtain rfl:=kA;have hf:=ok.F.fit x hx
 have hv:=hf.vars;exact hf.changed (λa ha=>fo.lt a (hv a (hZ _ ha))) λd hd=>by rw[hd];exact fo.lt d (hv d (iz _ (by simp[hd])))
def aoz(T:Txt K mg A)(OD:lA P w K A.lC (lH A)):aZ P w K mg base bu 5 A.GG A.GH ["fit","numbers","steps","most"] (aoy A):=by
 refine T.run.F.bM Wu (λvs H Q E h=>?_) (λaK Ar outer s H vs Q E hr h=>?_)
 ·refine oy h λp na lab c steps most nums kB _=>?_;obtain rfl:=kB;rfl
 ·refine oy h λp na lab c steps most nums vW aoA=>?_;refine iR aoA λMP fm hn kD wL k=>?_;obtain rfl:=vW;obtain⟨wk,reg,a_,hF,fo,ok⟩:=MP;have nd:=Wu.nd
  have gL:=fo.rb;have Nt:=fo.sb;refine bR (id hF) λdf pr hh f1 wZ f3=>?_;refine bR (id wZ) λdp sl ld p1 _ p3=>?_;intro X_ D_;refine aq (au (pS nd 4 (b9 yH (cK (ae aS az)) (b9 jx (aD (pv 0) rfl) (aD (aD (pv 0) rfl) rfl)))) (ax (aQ (bF (aot T) T.Vw hr (ae (bF (aox T OD) T.Vu hr (ae (pv 0) az)) (ae (pv 4) (ae (pv 1) (ae (pv 2) (ae (pv 3) az))))))))) ?_;refine⟨by show 1<=sizeLine;decide,λz1 wI=>?_⟩;have jk:=af.new (o:= .lst [V.int 0]) wI;refine ai rfl (jk _ _ f1) T.iK.c T.HK rfl (ai rfl (jk _ _ f1) T.iK.c T.uf rfl (gH (jk _ _ p1) T.Program.c T.HJ rfl (iI (u6 z1 ((a_+wk.slots:Nat):Int) [V.int 0] rfl rfl ag (by lia) (by lia) (by show 1*(((a_+wk.slots:Nat):Int)).toNat<=2^24;lia) λca px=>?_))));have eca:(cW ((((a_+wk.slots:Nat):Int)).toNat) [V.int 0]).flatten=(cW (a_+wk.slots) (0:Int)).map V.int:=by rw[wG,Dl,gR]
  rw[eca];have sca:=af.new (o:= .lst ((cW (a_+wk.slots) (0:Int)).map V.int)) px
  have s2:=jk.trans sca;refine vI rfl (kl p lab c wk reg a_ rfl (hF.same s2) fo ok λoa H3 jD s3 hO=>?_);have hc3:=s3 _ _ (ag (H:=upd H z1 (.lst [V.int 0])) (a:=ca) (o:= .lst ((cW (a_+wk.slots) (0:Int)).map V.int)));have X7:H ca=none:=dY jk px;have IA:oa≠ca:=λe=>by subst e;rw[ag]at jD;cases jD
  have NG:na≠ca:=bL fm X7;refine vI rfl (vI rfl (vI rfl (vI rfl ⟨oa,ca,na,c,a_,wk.slots,steps,most,Z.aN wk.code,nums,rfl,hO,hc3,s3 _ _ (s2 _ _ fm),NG,IA,hn,X6 fo ok,kD,wL,by lia,λa H4 ha fr hI=>?_⟩)));exact k a H4 (dY (s2.trans s3) ha) (λb o hq=>fr b o (bL hq X7) (s3 _ _ (s2 _ _ hq))) hI
end
end
section
def j8(c:Nat):Int:=if c=64 then 37 else(c:Int)
def cb(x:Str):List Int:=(TL.tl x).map j8
def aoE(x y:Str):cb (x++y)=cb x++cb y:=by unfold cb;rw[TL.yX,gA]
def SL(H:Hp)(a:Addr)(xs:List Str):Prop:=H a=some (.lst (xs.map V.str))
def gn(xs:List Str):List Int:=xs.flatMap λx=>cb x++[10]
def aoF(xs:List Str)(x:Str):gn (xs++[x])=gn xs++(cb x++[10]):=by unfold gn;rw[aaE];simp
def NM(xs ys:List Str):gn (xs++ys)=gn xs++gn ys:=by unfold gn;rw[aaE]
theorem Bi:∀d n:Nat,n<10^(d+1)->(TL.oX n).length<=d+1
 |0,n,h=>by rw[TL.LR (by simpa using h)];simp
 |d+1,n,h=>by
  by_cases q:n<10
  ·rw[TL.LR q];simp
  ·rw[TL.Tj (by lia),cj];have:=Bi d (n/10) (by rw[CQ]at h;lia)
   simp;lia
def X8{z:Int}(h:z.natAbs<2^64):z.natAbs.log2<1920:=by
 by_cases h0:z.natAbs=0
 ·rw[h0];decide
 ·have:z.natAbs.log2<64:=(avL h0).mpr h;lia
section
variable{P:Program}{w:a9}{K:aV}{mg:Str->Option Value}{A:aO}{base:Heap}
def aoG:Sp:=λvs H Q _=>∃(a:Addr)(xs:List Str),vs=[.ref a]/\SL H a xs/\(gn xs).length<=1000000/\∀b H',H b=none->af H H'->IL H' b (gn xs)->Q (.ref b) H'
def aoH{xs:List Str}{t:Nat}:(gn (xs.take t)).length<=(gn xs).length:=by have:=NM (xs.take t) (xs.drop t);rw[Jr]at this;rw[this,cj];lia
def aoI(T:Txt K mg A):aZ P w K mg base bu 1 A.Ge A.Gf ["lines"] (aoG):=by
 refine T.Vm.F.bM Wh (λvs H Q E h=>?_) (λaK Ar outer s H vs Q E hr h=>?_)
 ·refine bZ h λa xs bp _=>?_;obtain rfl:=bp;rfl
 ·obtain⟨a,xs,rfl,ha,hz,k⟩:=h;have nd:=Wh.nd
  intro X_ D_;refine aq (au (pS nd 1 (cK az)) (au (gj fP rfl (kG (pv 0)) (pN nd 2) (au (fJ (EU (pv 1) (rH rfl nd (EI (pv 2)) (kI (N:=["lines","found","line","sign"]) (sc:=aU Ms) (own:=[("sign",3)]) (by decide+kernel)) (λ_ _ _ _ _=>(pN nd 3)) (λ_ _ _ _ _=>mi) (λ_ _ _ _ _=>(p6 (bz b_ (pv 3) (ud rfl T.VI) (bt _)) (cU rfl T.VE) (cV RW T.VN TC (pv 3))))))) (ax (fJ (g6 (pv 1) (cU rfl T.VD)))))) (ax (aQ (pv 1))))) ?_;refine⟨by show 0<=sizeLine;decide,λfa zo=>?_⟩;have s0:=af.new (o:= .lst []) zo
  refine⟨_,rfl,a,rfl,⟨_,ah.of (s0 _ _ ha)⟩,rC (K:=K) (a:=a) (xs:=xs.map V.str) (λt σ H2=>∃v2:Option V,σ=[some (.ref a),some (.ref fa),v2,none]/\af H H2/\IL H2 fa (gn (xs.take t))) ⟨none,rfl,s0,ag⟩ (λt σ H2 _ ⟨_,_,s2,_⟩=>ah.of (s2 _ _ ha)) ?_ ?_⟩
  ·rintro t v σ H2 hx ⟨v2,rfl,s2,zj⟩;refine ar (dk hx) λx hxx bA=>?_;obtain rfl:=bA;have nS:gn (xs.take (t+1))=gn (xs.take t)++(cb x++[10]):=by rw[ee hxx,aoF]
   have hle:=aoH (xs:=xs) (t:=t+1);rw[nS]at hle;simp only[cj,cG,sP]at hle;have oS:(cb x).length=(TL.tl x).length:=by unfold cb;rw[aA]
   refine vI rfl ⟨.inl ⟨rfl,_,ah.of zj⟩,vI rfl (aF x rfl λD hD=>?_)⟩;refine EW (x:=x) (λi H3=>af H2 H3/\IL H3 D (((TL.tl x).take i).map j8)) ⟨af.new hD,ag⟩ ?_ ?_
   ·rintro i c H3 hc ⟨s3,bj⟩;have iJ:=cN hc
    have fin:∀z:Int,z=j8 c->∃acc,H3 D=some (.lst acc)/\acc.length<sizeLine/\(af H2 (upd H3 D (.lst (acc++[.int z])))/\IL (upd H3 D (.lst (acc++[.int z]))) D (((TL.tl x).take (i+1)).map j8)):=λz q_=>⟨_,bj,by rw[aA,aA,fw];exact cI (by omega),s3.upd hD,by show upd _ _ _ _=_;rw[ag,ee hc,q_];simp⟩;refine⟨rfl,vI rfl (cg rfl _ rfl (bW (λh=>?_) λh=>?_))⟩
    ·have uy:c=64:=by have:=of_decide_eq_true h;have:=V.str.inj this;have:=congrArg TL.tl this;exact(mT this).1
     exact fin 37 (by unfold j8;rw[if_pos uy])
    ·have uy:c≠64:=λe=>h (by subst e;rfl);refine vI rfl (aW _ rfl rfl ?_);exact fin (c:Int) (by unfold j8;rw[if_neg uy])
   rintro H3 ⟨s3,bj⟩;rw[eX (aX _)]at bj;have aoK:IL H3 D (cb x):=bj
   refine cO fa D _ _ rfl rfl (s3 _ _ zj) aoK (by rw[aA,aA];exact g9 (by lia)) ?_;have B_:upd H3 fa (.lst ((gn (xs.take t)).map V.int++(cb x).map V.int)) fa=some (.lst ((gn (xs.take t)).map V.int++(cb x).map V.int)):=ag
   refine vI rfl ⟨.inl ⟨rfl,_,ah.of B_⟩,gI B_ (by rw[cj,aA,aA];exact cI (by omega)) ?_⟩;refine aW _ rfl (((s2.trans s3).upd zo).upd zo) ?_;show upd _ _ _ _=_;rw[ag,nS];simp
  ·rintro σ H2 ⟨v2,rfl,s2,zj⟩;rw[aA,eX (aX _)]at zj;exact vI rfl (k fa H2 zo s2 zj)
def aoL:Sp:=λvs H Q _=>∃(x:Str)(n:Nat),vs=[.str x,nI n]/\x.length<=1000/\n<=1000000/\Q (.str (x++(toString (n:Int):String))) H
def IC(T:Txt K mg A):aZ P w K mg base bu 1 A.G5 A.G6 ["letter","number"] (aoL):=by
 refine T.BH.F.bM WD (λvs H Q E h=>?_) (λaK Ar outer s H vs Q E hr h=>?_)
 ·refine bZ h λx n bX _=>?_;obtain rfl:=bX;rfl
 ·refine lj h λx n cA hx hn k=>?_;obtain rfl:=cA;have nd:=WD.nd
  intro X_ D_;refine aq (ax (aQ (L1 (L0 (pv 0)) (aje (pv 1))))) ?_;have hl:(cY (toString ((n:Nat):Int))).length<=7:=by rw[TL.mj,TL.Bh];exact Bi 6 n (by lia)
  exact vI rfl (aW x rfl (g9 (by lia)) (aW x rfl (g9 (by omega)) (vI rfl (aW (n:Int) rfl (X8 (by omega)) (aW _ rfl (g9 (by lia)) k)))))
end
end
section
def pl(x:Str)(n:Nat):Str:=x++cY (toString (n:Int))
def X9{x:Str}{n:Nat}(h:n<=1000000):(pl x n).length<=x.length+7:=by
 unfold pl;rw[avQ];have:(cY (toString ((n:Nat):Int))).length<=7:=by rw[TL.mj,TL.Bh];exact Bi 6 n (by lia)
 lia
def Ya(z:Int):TL.tl (cY (toString z))=if 0<=z then TL.oX z.natAbs else 45::TL.oX z.natAbs:=by
 cases z with
 |ofNat n=>rw[if_pos (show 0<=Int.ofNat n from auO n)];exact TL.Bh n
 |negSucc n=>
  rw[if_neg (by lia)];have e:toString (Int.negSucc n)="-"++toString (((n+1:Nat):Nat):Int):=rfl
  have e2:(toString (((n+1:Nat):Nat):Int)).toList.map JT=TL.oX (n+1):=by rw[<-TL.EN,TL.Bh]
  rw[e,TL.EN,String.toList_append,gA,e2];rfl
def Yb{z:Int}(h:Z.cz z):(cY (toString z)).length<=21:=by
 unfold Z.cz at h;rw[TL.mj,Ya];have:=Bi 19 z.natAbs (by omega)
 split<;>simp<;>lia
def aoM(z:Int):∀c∈TL.tl (cY (toString z)),45<=c/\c<=57:=by
 intro c hc;have hd:=TL.aiF z.natAbs
 rw[Ya]at hc;split at hc
 ·have:=hd c hc;lia
 ·rcases cu.mp hc with h|h
  ·lia
  ·have:=hd c h;omega
def fE(lab:Nat->Str):ck->List Str
 | .num d z=>[pl "r" d,"=",cY (toString z)]
 | .copy d a=>[pl "r" d,"=",pl "r" a]
 | .op k d a b=>[pl "r" d,"=",pl "r" a,gK k,pl "r" b]
 | .get d=>[pl "r" d,"=","in"]
 | .put a=>["out",pl "r" a]
 | .goto l=>["goto",lab l]
 | .cond a l=>["if",pl "r" a,"goto",lab l]
 | .ret a=>["ret",pl "r" a]
 | .fetch d s=>[pl "r" d,"=",pl "s" s]
 | .keep s a=>[pl "s" s,"=",pl "r" a]
def nU(lab:Nat->Str)(i:ck):Str:=Txt.join " " (fE lab i)
def aoN(lab:Nat->Str)(l:Nat):("goto ":Str)++lab l=nU lab (.goto l):=by apply TL.vT;unfold nU;rw[TL.join_eq,TL.Bg,TL.yX];show _=TL.tl ("goto":Str)++(TL.tl (" ":Str)++TL.tl (lab l));rw[<-kf];rfl
def r9{ys:List Str}(h:∀y∈ys,y.length<=100)(hl:ys.length<=5):(ys.map (·.length)).sum+ys.length*(cY " ").length<=16777216:=by
 have e:(cY " ").length=1:=rfl;rw[e];have:(ys.map (·.length)).sum<=ys.length*100:=by
  clear hl;induction ys with
  |nil=>simp
  |cons y r ih=>
   have h1:=h y (by simp);have h2:=ih λz hz=>h z (dn _ hz);simp only[cM,qL,cG];lia
 lia
def Yc:∀k,k<12->(gK k).length<=2:=by decide+kernel
section
variable{P:Program}{w:a9}{K:aV}{mg:Str->Option Value}{A:aO}{base:Heap}
def aoO(lab:Nat->Str)(i:ck):List Str:=(fE lab i).drop 2
def aoP(A:aO):Sp:=λvs H Q _=>∃(q ua:Addr)(lab:Nat->Str)(i:ck)(reg:Nat->Nat)(d V0 S:Nat)(Ls:List Nat),vs=[.ref q, .ref ua]/\jj A H lab q i/\SL H ua ((cQ i).map λv=>pl "r" (reg v))/\fO i=some d/\Z.e8 V0 S Ls i/\S<=1000000/\
 ∀b H',H b=none->af H H'->SL H' b (aoO lab (wY reg i))->Q (.ref b) H'
def aoQ(T:Txt K mg A):aZ P w K mg base bu 2 A.GY A.GZ ["step","used"] (aoP A):=by
 refine T.Vy.F.bM WC (λvs H Q E h=>?_) (λaK Ar outer s H vs Q E hr h=>?_)
 ·refine dS h λq ua lab i reg d ib=>?_;refine gb ib λV0 S Ls bp _=>?_;obtain rfl:=bp;rfl
 ·refine dS h λq ua lab ins reg d kx=>?_;refine bR kx λV0 S Ls bA bX aoR=>?_;refine fi aoR λNN hg hf hS k=>?_;obtain rfl:=bA;obtain⟨dx,u,h1,h2⟩:=bX;have nd:=WC.nd
  intro X_ D_;refine aq (au (bx (bz b_ (aD (pv 0) rfl) bG (bt _)) (ax (aQ (cK (ae (bK bU (pv 1) aS (λ_ _=>rfl)) (ae (aD (pv 0) rfl) (ae (bK bU (pv 1) aS (λ_ _=>rfl)) az)))))) bI) (au (bx (bz b_ (aD (pv 0) rfl) bG (bt _)) (ax (aQ (cK (ae (bK bU (pv 1) aS (λ_ _=>rfl)) az)))) bI) (au (bx (bz b_ (aD (pv 0) rfl) bG (bt _)) (ax (aQ (cK (ae (qh aeH T.alo ajf (aD (pv 0) rfl)) az)))) bI) (au (bx (bz b_ (aD (pv 0) rfl) bG (bt _)) (ax (aQ (cK (ae (bF (IC T) T.BH hr (ae bG (ae (aD (pv 0) rfl) az))) az)))) bI) (ax (aQ (cK (ae bG az)))))))) ?_;cases ins with
  |op o e a b=>
   exact ai rfl h1 T.Step.c T.aP rfl (dP rfl (vI rfl (br (.str (pl "r" (reg a))) (ah.of NN) (bw (j:=0) rfl rfl) (ai rfl h1 T.Step.c T.fY rfl (vI rfl (br (.str (pl "r" (reg b))) (ah.of NN) (bw (j:=1) rfl rfl) ⟨by show 3<=sizeLine;decide,λb hb=>k b _ hb (af.new hb) ag⟩))))))
  |copy e a=>
   exact ai rfl h1 T.Step.c T.aP rfl (aE rfl (ai rfl h1 T.Step.c T.aP rfl (dP rfl (vI rfl (br (.str (pl "r" (reg a))) (ah.of NN) (bw (j:=0) rfl rfl) ⟨by show 1<=sizeLine;decide,λb hb=>k b _ hb (af.new hb) ag⟩)))))
  |num e z=>
   exact ai rfl h1 T.Step.c T.aP rfl (aE rfl (ai rfl h1 T.Step.c T.aP rfl (aE rfl (ai rfl h1 T.Step.c T.aP rfl (dP rfl (ai rfl h1 T.Step.c T.fY rfl (d7 z rfl (X8 (by have:=hf.2;omega)) (by show 1<=sizeLine;decide) λb hb=>k b _ hb (af.new hb) ag)))))))
  |fetch e z=>
   exact ai rfl h1 T.Step.c T.aP rfl (aE rfl (ai rfl h1 T.Step.c T.aP rfl (aE rfl (ai rfl h1 T.Step.c T.aP rfl (aE rfl (ai rfl h1 T.Step.c T.aP rfl (dP rfl (ai rfl h1 T.Step.c T.fY rfl (gU ("s") z rfl (by decide) (by have:=hf.2;lia) (by show 1<=sizeLine;decide) λb hb=>k b _ hb (af.new hb) ag)))))))))
  |get e=>
   exact ai rfl h1 T.Step.c T.aP rfl (aE rfl (ai rfl h1 T.Step.c T.aP rfl (aE rfl (ai rfl h1 T.Step.c T.aP rfl (aE rfl (ai rfl h1 T.Step.c T.aP rfl (aE rfl ⟨by show 1<=sizeLine;decide,λb hb=>k b _ hb (af.new hb) ag⟩)))))))
  |put a=>cases hg
  |goto l=>cases hg
  |cond a l=>cases hg
  |ret a=>cases hg
  |keep z a=>cases hg
end
end
section
section
variable{P:Program}{w:a9}{K:aV}{mg:Str->Option Value}{A:aO}{base:Heap}
def aoS(A:aO):Sp:=λvs H Q _=>∃(q h:Addr)(lab:Nat->Str)(i:ck)(reg:Nat->Nat)(V0 S:Nat)(Ls:List Nat),vs=[.ref q, .ref h]/\jj A H lab q i/\NL H h ((bD V0).map reg)/\Z.e8 V0 S Ls i/\S<=1000000/\(∀v,v<V0->reg v<=1000000)/\(∀l∈Ls,(lab l).length<=8)/\
 ∀H',af H H'->Q (.str (nU lab (wY reg i))) H'
def aoT(T:Txt K mg A):aZ P w K mg base bu 3 A.GW A.GX ["step","homes"] (aoS A):=by
 refine T.Vx.F.bM WB (λvs H Q E h=>?_) (λaK Ar outer s H vs Q E hr h=>?_)
 ·refine dS h λq h lab i reg V0 ib=>?_;refine bZ ib λS Ls bp _=>?_;obtain rfl:=bp;rfl
 ·refine dS h λq hh lab ins reg V0 c0=>?_;refine iE c0 λS Ls bA zp f3 hf rP=>?_;refine fz rP λhS gL nP k=>?_;obtain rfl:=bA;have nd:=WB.nd
  refine bZ (id zp) λdx u h1 h2=>?_;intro X_ D_;refine aq (au (yK (i:=2) rfl nd rfl rfl (yL rfl rfl rfl rfl) (yA (aD (pv 0) rfl)) (kI (N:=["step","homes","used","variable","extra","given"]) (sc:=aU MA) (own:=[("variable",3)]) (by decide+kernel)) (λ_ _ _ _ _=>(pN nd 3)) (λ_ _ _ _ _=>mi) (λ_ _ _ _ _=>(bF (IC T) T.BH hr (ae bG (ae (bK (L7 (K:=K) rfl) (pv 1) (pv 3) (λ_ _=>rfl)) az))))) (au (pS nd 4 (aD (pv 0) rfl)) (au (bx (bz b_ (aD (pv 0) rfl) bG (bt _)) (ax (aQ (L1 bG (L0 (pv 4))))) bI) (au (bx (bz b_ (aD (pv 0) rfl) bG (bt _)) (ax (aQ (Bj bG (cK (ae (bF (IC T) T.BH hr (ae bG (ae (pv 4) az))) (ae bG (ae (bK bU (pv 2) aS (λ_ _=>rfl)) az))))))) bI) (au (bx (iV (Aw (aD (pv 0) rfl))) (au (pS nd 5 (bF (IC T) T.BH hr (ae bG (ae (bK bU (pv 1) (aD (pv 0) rfl) (λ_ _=>rfl)) az)))) (ax (aQ (Bj bG (b9 Ln (cK (ae (pv 5) (ae bG az))) (bF (aoQ T) T.Vy hr (ae (pv 0) (ae (pv 2) az)))))))) bI) (au (bx (bz b_ (aD (pv 0) rfl) bG (bt _)) (ax (aQ (Bj bG (cK (ae bG (ae (bK bU (pv 2) aS (λ_ _=>rfl)) (ae bG (ae (pv 4) az)))))))) bI) (ax (aQ (Bj bG (cK (ae (aD (pv 0) rfl) (ae (bK bU (pv 2) aS (λ_ _=>rfl)) az)))))))))))) ?_;have qG:∀v,v<V0->((bD V0).map reg)[v]?=some (reg v):=λv hv=>cF (uI hv)
  have i4:=hf.vars;have r8:=BW ins;have wl:∀{x:Str}{n:Nat},x.length<=10->n<=1000000->(pl x n).length<=100:=λ{x n} hx hn=>by have:=X9 (x:=x) hn;lia
  refine ai rfl h1 T.Step.c T.qm rfl (aW u rfl ⟨_,dm.of h2⟩ λD hD=>?_);refine yN (K:=K) (a:=u) (xs:=(cQ ins).map nI) (λt H3=>af H H3/\SL H3 D (((cQ ins).take t).map λv=>pl "r" (reg v))) ⟨af.new hD,ag⟩ (λt H3 _ h=>dm.of (h.1 _ _ h2)) ?_ ?_
  ·rintro t x H3 hx ⟨s3,bj⟩;refine ar (dk hx) λv hv bX=>?_;obtain rfl:=bX;have pk:v<V0:=i4 v (hZ _ (rV.mp (cP hv)))
   refine⟨rfl,vI rfl (vI rfl (br (nI (reg v)) (ah.of (s3 _ _ f3)) (bw rfl (cF (qG v pk))) (cC ("r") (reg v) rfl (by decide) (gL v pk) (d7 _ bj (by rw[aA,aA,fw];exact cI (by lia)) (s3.upd hD) ?_))))⟩;show upd _ D _ D=_;rw[ag,ee hv];simp;rfl
  rintro H3 ⟨s3,bj⟩;rw[aA,eX (aX _)]at bj;have k1:=s3 _ _ h1
  refine ai rfl k1 T.Step.c T.fY rfl ?_;cases ins with
  |goto l=>
   have hl8:=nP l (MY hf);refine ai rfl k1 T.Step.c T.aP rfl (dP rfl (aW ("goto ") rfl (by decide) (vI rfl (aW (lab l) rfl (g9 (by lia)) (aW (lab l) rfl ?_ ?_)))))
   ·show 5+(lab l).length<=sizeLine;exact g9 (by lia)
   ·have:=k H3 s3;rw[show wY reg (.goto l)= .goto l from rfl,<-aoN]at this;exact this
  |keep z a=>
   have ha:a<V0:=i4 a (by simp[Z.fF,gS]);have hz:z<S:=hf.1;refine ai rfl k1 T.Step.c T.aP rfl (aE rfl (ai rfl k1 T.Step.c T.aP rfl (dP rfl ⟨⟨_,rfl⟩,vI rfl (cC ("s") z rfl (by decide) (by lia) (vI rfl (br (.str (pl "r" (reg a))) (ah.of bj) (bw (j:=0) rfl rfl) ⟨by show 3<=sizeLine;decide,λl hl=>?_⟩)))⟩)));refine iC _ l [pl "s" z,"=",pl "r" (reg a)] rfl rfl (.inl (ah.of ag)) (r9 (λy hy=>?_) (by simp)) (k _ (s3.trans (af.new hl)));simp only[cu,hU,or_false]at hy;rcases hy with rfl|rfl|rfl
   ·exact wl (by decide) (by omega)
   ·decide
   ·exact wl (by decide) (gL a ha)
  |cond a l=>
   have ha:a<V0:=hf.1;have hl8:=nP l (MZ hf);refine ai rfl k1 T.Step.c T.aP rfl (aE rfl (ai rfl k1 T.Step.c T.aP rfl (aE rfl (ai rfl k1 T.Step.c T.eU rfl (jC (ai rfl k1 T.Step.c T.aP rfl (dP rfl ⟨⟨_,rfl⟩,vI rfl (br (.str (pl "r" (reg a))) (ah.of bj) (bw (j:=0) rfl rfl) (vI rfl ⟨by show 4<=sizeLine;decide,λl' hl=>?_⟩))⟩)))))));refine iC _ l' ["if",pl "r" (reg a),"goto",lab l] rfl rfl (.inl (ah.of ag)) (r9 (λy hy=>?_) (by simp)) (k _ (s3.trans (af.new hl)));simp only[cu,hU,or_false]at hy;rcases hy with rfl|rfl|rfl|rfl
   ·decide
   ·exact wl (by decide) (gL a ha)
   ·decide
   ·lia
  |put a=>
   have ha:a<V0:=hf;refine ai rfl k1 T.Step.c T.aP rfl (aE rfl (ai rfl k1 T.Step.c T.aP rfl (aE rfl (ai rfl k1 T.Step.c T.eU rfl (jC (ai rfl k1 T.Step.c T.aP rfl (aE rfl ⟨⟨_,rfl⟩,ai rfl k1 T.Step.c T.aP rfl (vI rfl (br (.str (pl "r" (reg a))) (ah.of bj) (bw (j:=0) rfl rfl) ⟨by show 2<=sizeLine;decide,λl hl=>?_⟩))⟩)))))));refine iC _ l ["out",pl "r" (reg a)] rfl rfl (.inl (ah.of ag)) (r9 (λy hy=>?_) (by simp)) (k _ (s3.trans (af.new hl)));simp only[cu,hU,or_false]at hy;rcases hy with rfl|rfl
   ·decide
   ·exact wl (by decide) (gL a ha)
  |ret a=>
   have ha:a<V0:=hf;refine ai rfl k1 T.Step.c T.aP rfl (aE rfl (ai rfl k1 T.Step.c T.aP rfl (aE rfl (ai rfl k1 T.Step.c T.eU rfl (jC (ai rfl k1 T.Step.c T.aP rfl (aE rfl ⟨⟨_,rfl⟩,ai rfl k1 T.Step.c T.aP rfl (vI rfl (br (.str (pl "r" (reg a))) (ah.of bj) (bw (j:=0) rfl rfl) ⟨by show 2<=sizeLine;decide,λl hl=>?_⟩))⟩)))))));refine iC _ l ["ret",pl "r" (reg a)] rfl rfl (.inl (ah.of ag)) (r9 (λy hy=>?_) (by simp)) (k _ (s3.trans (af.new hl)));simp only[cu,hU,or_false]at hy;rcases hy with rfl|rfl
   ·decide
   ·exact wl (by decide) (gL a ha)
  |num d z=>
   have hd:d<V0:=i4 d (by simp[Z.fF,gS,fO]);refine ai rfl k1 T.Step.c T.aP rfl (aE rfl (ai rfl k1 T.Step.c T.aP rfl (aE rfl (ai rfl k1 T.Step.c T.eU rfl (jg (vI rfl (ai rfl k1 T.Step.c T.eU rfl (br (nI (reg d)) (ah.of (s3 _ _ f3)) (bw rfl (cF (qG d hd))) (cC ("r") (reg d) rfl (by decide) (gL d hd) ?_)))))))));refine⟨⟨_,rfl⟩,vI rfl ⟨by show 2<=sizeLine;decide,λl hl=>?_⟩⟩;have s4:=af.new (o:= .lst [V.str (pl "r" (reg d)),V.str "="]) hl;refine vI rfl (vI rfl ⟨q,D,lab, .num d z,reg,d,V0,S,Ls,rfl,(zp.same s3).same s4,s4 _ _ bj,rfl,hf,hS,λb' H5 nb s5 r_=>?_⟩);refine cO l b' _ _ rfl rfl (s5 _ _ ag) r_ (by show 2+1<=sizeLine;decide) λj hj=>?_;refine iC _ j [pl "r" (reg d),"=",cY (toString z)] rfl rfl (.inl (ah.of ag)) (r9 (λy hy=>?_) (by simp)) (k _ (((s3.trans s4).trans s5).trans (af.new hj)));simp only[cu,hU,or_false]at hy;rcases hy with rfl|rfl|rfl
   ·exact wl (by decide) (gL d hd)
   ·decide
   ·have:=Yb (z:=z) hf.2;lia
  |copy d a=>
   have hd:d<V0:=i4 d (by simp[Z.fF,gS,fO]);have yd:a<V0:=i4 a (hZ _ (rV.mp (by simp[cQ,gS])));refine ai rfl k1 T.Step.c T.aP rfl (aE rfl (ai rfl k1 T.Step.c T.aP rfl (aE rfl (ai rfl k1 T.Step.c T.eU rfl (jg (vI rfl (ai rfl k1 T.Step.c T.eU rfl (br (nI (reg d)) (ah.of (s3 _ _ f3)) (bw rfl (cF (qG d hd))) (cC ("r") (reg d) rfl (by decide) (gL d hd) ?_)))))))));refine⟨⟨_,rfl⟩,vI rfl ⟨by show 2<=sizeLine;decide,λl hl=>?_⟩⟩;have s4:=af.new (o:= .lst [V.str (pl "r" (reg d)),V.str "="]) hl;refine vI rfl (vI rfl ⟨q,D,lab, .copy d a,reg,d,V0,S,Ls,rfl,(zp.same s3).same s4,s4 _ _ bj,rfl,hf,hS,λb' H5 nb s5 r_=>?_⟩);refine cO l b' _ _ rfl rfl (s5 _ _ ag) r_ (by show 2+1<=sizeLine;decide) λj hj=>?_;refine iC _ j [pl "r" (reg d),"=",pl "r" (reg a)] rfl rfl (.inl (ah.of ag)) (r9 (λy hy=>?_) (by simp)) (k _ (((s3.trans s4).trans s5).trans (af.new hj)));simp only[cu,hU,or_false]at hy;rcases hy with rfl|rfl|rfl
   ·exact wl (by decide) (gL d hd)
   ·decide
   ·exact wl (by decide) (gL a yd)
  |op o d a b=>
   have hd:d<V0:=i4 d (by simp[Z.fF,gS,fO]);have yd:a<V0:=i4 a (hZ _ (rV.mp (by simp[cQ,gS])));have B9:b<V0:=i4 b (hZ _ (rV.mp (by simp[cQ,gS])));refine ai rfl k1 T.Step.c T.aP rfl (aE rfl (ai rfl k1 T.Step.c T.aP rfl (aE rfl (ai rfl k1 T.Step.c T.eU rfl (jg (vI rfl (ai rfl k1 T.Step.c T.eU rfl (br (nI (reg d)) (ah.of (s3 _ _ f3)) (bw rfl (cF (qG d hd))) (cC ("r") (reg d) rfl (by decide) (gL d hd) ?_)))))))));refine⟨⟨_,rfl⟩,vI rfl ⟨by show 2<=sizeLine;decide,λl hl=>?_⟩⟩;have s4:=af.new (o:= .lst [V.str (pl "r" (reg d)),V.str "="]) hl;refine vI rfl (vI rfl ⟨q,D,lab, .op o d a b,reg,d,V0,S,Ls,rfl,(zp.same s3).same s4,s4 _ _ bj,rfl,hf,hS,λb' H5 nb s5 r_=>?_⟩);refine cO l b' _ _ rfl rfl (s5 _ _ ag) r_ (by show 2+3<=sizeLine;decide) λj hj=>?_;refine iC _ j [pl "r" (reg d),"=",pl "r" (reg a),gK o,pl "r" (reg b)] rfl rfl (.inl (ah.of ag)) (r9 (λy hy=>?_) (by simp)) (k _ (((s3.trans s4).trans s5).trans (af.new hj)));simp only[cu,hU,or_false]at hy;rcases hy with rfl|rfl|rfl|rfl|rfl
   ·exact wl (by decide) (gL d hd)
   ·decide
   ·exact wl (by decide) (gL a yd)
   ·have:=Yc o hf.1;lia
   ·exact wl (by decide) (gL b B9)
  |get d=>
   have hd:d<V0:=i4 d (by simp[Z.fF,gS,fO]);refine ai rfl k1 T.Step.c T.aP rfl (aE rfl (ai rfl k1 T.Step.c T.aP rfl (aE rfl (ai rfl k1 T.Step.c T.eU rfl (jg (vI rfl (ai rfl k1 T.Step.c T.eU rfl (br (nI (reg d)) (ah.of (s3 _ _ f3)) (bw rfl (cF (qG d hd))) (cC ("r") (reg d) rfl (by decide) (gL d hd) ?_)))))))));refine⟨⟨_,rfl⟩,vI rfl ⟨by show 2<=sizeLine;decide,λl hl=>?_⟩⟩;have s4:=af.new (o:= .lst [V.str (pl "r" (reg d)),V.str "="]) hl;refine vI rfl (vI rfl ⟨q,D,lab, .get d,reg,d,V0,S,Ls,rfl,(zp.same s3).same s4,s4 _ _ bj,rfl,hf,hS,λb' H5 nb s5 r_=>?_⟩);refine cO l b' _ _ rfl rfl (s5 _ _ ag) r_ (by show 2+1<=sizeLine;decide) λj hj=>?_;refine iC _ j [pl "r" (reg d),"=","in"] rfl rfl (.inl (ah.of ag)) (r9 (λy hy=>?_) (by simp)) (k _ (((s3.trans s4).trans s5).trans (af.new hj)));simp only[cu,hU,or_false]at hy;rcases hy with rfl|rfl|rfl
   ·exact wl (by decide) (gL d hd)
   ·decide
   ·decide
  |fetch d z=>
   have hd:d<V0:=i4 d (by simp[Z.fF,gS,fO]);refine ai rfl k1 T.Step.c T.aP rfl (aE rfl (ai rfl k1 T.Step.c T.aP rfl (aE rfl (ai rfl k1 T.Step.c T.eU rfl (jg (vI rfl (ai rfl k1 T.Step.c T.eU rfl (br (nI (reg d)) (ah.of (s3 _ _ f3)) (bw rfl (cF (qG d hd))) (cC ("r") (reg d) rfl (by decide) (gL d hd) ?_)))))))));refine⟨⟨_,rfl⟩,vI rfl ⟨by show 2<=sizeLine;decide,λl hl=>?_⟩⟩;have s4:=af.new (o:= .lst [V.str (pl "r" (reg d)),V.str "="]) hl;refine vI rfl (vI rfl ⟨q,D,lab, .fetch d z,reg,d,V0,S,Ls,rfl,(zp.same s3).same s4,s4 _ _ bj,rfl,hf,hS,λb' H5 nb s5 r_=>?_⟩);refine cO l b' _ _ rfl rfl (s5 _ _ ag) r_ (by show 2+1<=sizeLine;decide) λj hj=>?_;refine iC _ j [pl "r" (reg d),"=",pl "s" z] rfl rfl (.inl (ah.of ag)) (r9 (λy hy=>?_) (by simp)) (k _ (((s3.trans s4).trans s5).trans (af.new hj)));simp only[cu,hU,or_false]at hy;rcases hy with rfl|rfl|rfl
   ·exact wl (by decide) (gL d hd)
   ·decide
   ·exact wl (by decide) (by have:=hf.2;lia)
end
end
section
variable{labels:List bo}{Ls:List Nat}
def BI(b:bo):List Int:=b.map λx=>((x.toNat:Nat):Int)
def xa(a b:bo):BI (a++b)=BI a++BI b:=gA
def TB(x:Str)(b:bo):Prop:=cb x=BI b
def hJ{s:String}(h:∀c∈s.toList,c.toNat<256/\c.toNat≠64):TB (cY s) (du s):=by unfold TB cb BI du;rw[TL.EN,kY,kY];apply ke;intro c hc;obtain⟨h1,h2⟩:=h c hc;show j8 c.toNat=(((aaG c.toNat).toNat:Nat):Int);unfold j8;rw[if_neg h2,UInt8.toNat_ofNat_of_lt' (by omega)]
def NO(z:Int):TB (cY (toString z)) (Ql59.decimal z):=hJ λc hc=>by have:=aoM z c.toNat (by rw[TL.EN];exact awc hc);lia
def NP{x y:Str}{a b:bo}(h1:TB x a)(h2:TB y b):TB (x++y) (a++b):=by unfold TB at*;rw[aoE,xa,h1,h2]
def nV(n:Nat):TB (pl "r" n) (Ql59.reg n):=NP (hJ (by decide)) (NO _)
def Yd(n:Nat):TB (pl "s" n) (Ql59.slot n):=NP (hJ (by decide)) (NO _)
def aoV:∀k,k<12->TB (gK k) (du (PQ.getD k "")):=by
 intro k h
 match k,h with
 |0,_=>exact hJ (by decide)
 |1,_=>exact hJ (by decide)
 |2,_=>exact hJ (by decide)
 |3,_=>exact hJ (by decide)
 |4,_=>rfl
 |5,_=>exact hJ (by decide)
 |6,_=>exact hJ (by decide)
 |7,_=>exact hJ (by decide)
 |8,_=>exact hJ (by decide)
 |9,_=>exact hJ (by decide)
 |10,_=>exact hJ (by decide)
 |11,_=>exact hJ (by decide)
inductive zq:List Str->List bo->Prop
 |nil:zq [] []
 |cons {x:Str} {b:bo} {xs:List Str} {bs:List bo}:TB x b->zq xs bs->zq (x::xs) (b::bs)
def aoW:∀{xs:List Str}{bs:List bo},zq xs bs->TB (Txt.join " " xs) (sS [32] bs):=by
 have key:∀{xs:List Str}{bs:List bo},zq xs bs->(TL.oW [32] (xs.map TL.tl)).map j8=BI (sS [32] bs):=by
  intro xs bs h;induction h with
  |nil=>rfl
  |@cons x b xs bs h1 h2 ih=>
   cases h2 with
   |nil=>show(TL.tl x).map j8=BI (sS [32] [b]);rw[show sS [32] [b]=b by simp[sS]];exact h1
   |@cons y c ys cs h3 h4=>
    show(TL.tl x++([32]++TL.oW [32] (TL.tl y::ys.map TL.tl))).map j8=_;rw[gA,gA];have e:sS [32] (b::c::cs)=b++([32]++sS [32] (c::cs)):=by simp[sS]
    rw[e,xa,xa,<-ih];have rJ:(TL.tl x).map j8=BI b:=h1
    rw[rJ];rfl
 intro xs bs h;show(TL.tl (Txt.join " " xs)).map j8=_;rw[TL.join_eq,TL.Bg];exact key h
structure zr (labels:List bo) (lab:Nat->Str) (Ls:List Nat):Prop where
 tb:∀l∈Ls,TB (lab l) (labels.getD l [])
def Ye{lab:Nat->Str}{V0 S:Nat}{i:ck}(W:zr labels lab Ls)(hf:Z.e8 V0 S Ls i):cb (nU lab i)++[10]=BI (iB labels (.ins i)):=by
 have fin:∀{bs:List bo},zq (fE lab i) bs->cb (nU lab i)++[10]=BI (sS [32] bs++[10]):=λh=>by rw[xa];have:=aoW h;unfold TB at this;unfold nU;rw[this];rfl
 have e:TB "=" (du "="):=hJ (by decide);cases i with
 |num d z=>exact fin (.cons (nV d) (.cons e (.cons (NO z) .nil)))
 |copy d a=>exact fin (.cons (nV d) (.cons e (.cons (nV a) .nil)))
 |op k d a b=>exact fin (.cons (nV d) (.cons e (.cons (nV a) (.cons (aoV k hf.1) (.cons (nV b) .nil)))))
 |get d=>exact fin (.cons (nV d) (.cons e (.cons (hJ (by decide)) .nil)))
 |put a=>exact fin (.cons (hJ (by decide)) (.cons (nV a) .nil))
 |goto l=>exact fin (.cons (hJ (by decide)) (.cons (W.tb l hf) .nil))
 |cond a l=>exact fin (.cons (hJ (by decide)) (.cons (nV a) (.cons (hJ (by decide)) (.cons (W.tb l hf.2) .nil))))
 |ret a=>exact fin (.cons (hJ (by decide)) (.cons (nV a) .nil))
 |fetch d s=>exact fin (.cons (nV d) (.cons e (.cons (Yd s) .nil)))
 |keep s a=>exact fin (.cons (Yd s) (.cons e (.cons (nV a) .nil)))
def qH(x:Str):Str:=x++" :"
def Yf{lab:Nat->Str}{l:Nat}(W:zr labels lab Ls)(hl:l∈Ls):cb (qH (lab l))++[10]=BI (iB labels (.label l)):=by
 have h:=NP (W.tb l hl) (hJ (s:=" :") (by decide));have e:iB labels (.label l)=labels.getD l []++du " :"++[10]:=by simp[iB,sS,du]
 rw[e,xa];unfold TB at h;unfold qH;rw[h];rfl
def iy(lab:Nat->Str)(lp:List (Nat×Nat))(p:Nat):List Str:=(lp.filter λx=>decide (x.2=p)).map λx=>qH (lab x.1)
def nW(lab:Nat->Str)(lp:List (Nat×Nat)):List ck->Nat->List Str
 |[],p=>iy lab lp p
 |i::I,p=>iy lab lp p++(nU lab i::nW lab lp I (p+1))
def Yg{lab:Nat->Str}(W:zr labels lab Ls):∀(lp:List (Nat×Nat))(p:Nat),(∀x∈lp,x.1∈Ls)->gn (iy lab lp p)=BI (Z.at_ (iB labels) lp p):=by
 intro lp p h;unfold iy Z.at_ gn BI;rw[List.flatMap_map,List.map_flatMap];have:∀l:List (Nat×Nat),(∀x∈l,x.1∈Ls)->(l.flatMap λx=>cb (qH (lab x.1))++[10])=l.flatMap λx=>(iB labels (.label x.1)).map λx=>((x.toNat:Nat):Int):=by
  intro l;induction l with
  |nil=>intro _;rfl
  |cons x r ih=>
   intro hl;rw[xP,xP,ih λy hy=>hl y (dn _ hy)];rw[Yf W (hl x (by simp))];rfl
 exact this _ λx hx=>h x (fq.mp hx).1
theorem Yh{labels:List bo}{lab:Nat->Str}{Ls:List Nat}{V0 S:Nat}(W:zr labels lab Ls){lp:List (Nat×Nat)}(cy:∀x∈lp,x.1∈Ls):∀(I:List ck)(p:Nat),(∀i∈I,Z.e8 V0 S Ls i)->gn (nW lab lp I p)=BI (Z.wr (iB labels) lp I p)
 |[],p,_=>Yg W lp p cy
 |i::I,p,h=>by
  have ih:=Yh W cy I (p+1) λx hx=>h x (dn _ hx);have e1:=Yg W lp p cy;have e2:=Ye W (h i (by simp));show gn (iy lab lp p++([nU lab i]++nW lab lp I (p+1)))=BI (Z.at_ (iB labels) lp p++(iB labels (.ins i)++Z.wr (iB labels) lp I (p+1)));rw[NM,NM,xa,xa,e1,ih,<-e2];simp[gn]
theorem Yi(S:List Nat):∀ps:List (List Nat),(TL.oW S ps).length<=(ps.map sN).sum+ps.length*S.length
 |[]=>by simp[TL.oW]
 |[p]=>by simp[TL.oW]
 |p::q::r=>by
  have:=Yi S (q::r);show(p++(S++TL.oW S (q::r))).length<=_;simp only[cj,cM,qL,cG,PF]at*;lia
end
section
variable{i:ck}
def aoX{lab:Nat->Str}{V0 S:Nat}{Ls:List Nat}(hf:Z.e8 V0 S Ls i)(hV:V0<=1000000)(hS:S<=1000000)(hl:∀l∈Ls,(lab l).length<=8):(∀y∈fE lab i,y.length<=100)/\(fE lab i).length<=5:=by
 have wl:∀{x:Str}{n:Nat},x.length<=10->n<=1000000->(pl x n).length<=100:=λ{x n} hx hn=>by have:=X9 (x:=x) hn;lia
 have r1:∀{n:Nat},n<V0->(pl "r" n).length<=100:=λh=>wl (by decide) (by lia);have s1:∀{n:Nat},n<S->(pl "s" n).length<=100:=λh=>wl (by decide) (by lia);have e:(cY "=").length<=100:=by decide
 cases i with
 |num d z=>
  refine⟨λy hy=>?_,by simp[fE]⟩;simp only[fE,cu,hU,or_false]at hy;rcases hy with rfl|rfl|rfl
  ·exact r1 hf.1
  ·exact e
  ·have:=Yb (z:=z) hf.2;lia
 |copy d a=>
  refine⟨λy hy=>?_,by simp[fE]⟩;simp only[fE,cu,hU,or_false]at hy;rcases hy with rfl|rfl|rfl
  ·exact r1 hf.1
  ·exact e
  ·exact r1 hf.2
 |op k d a b=>
  refine⟨λy hy=>?_,by simp[fE]⟩;simp only[fE,cu,hU,or_false]at hy;rcases hy with rfl|rfl|rfl|rfl|rfl
  ·exact r1 hf.2.1
  ·exact e
  ·exact r1 hf.2.2.1
  ·have:=Yc k hf.1;lia
  ·exact r1 hf.2.2.2
 |get d=>
  refine⟨λy hy=>?_,by simp[fE]⟩;simp only[fE,cu,hU,or_false]at hy;rcases hy with rfl|rfl|rfl
  ·exact r1 hf
  ·exact e
  ·decide
 |put a=>
  refine⟨λy hy=>?_,by simp[fE]⟩;simp only[fE,cu,hU,or_false]at hy;rcases hy with rfl|rfl
  ·decide
  ·exact r1 hf
 |goto l=>
  refine⟨λy hy=>?_,by simp[fE]⟩;simp only[fE,cu,hU,or_false]at hy;rcases hy with rfl|rfl
  ·decide
  ·have:=hl l hf;lia
 |cond a l=>
  refine⟨λy hy=>?_,by simp[fE]⟩;simp only[fE,cu,hU,or_false]at hy;rcases hy with rfl|rfl|rfl|rfl
  ·decide
  ·exact r1 hf.1
  ·decide
  ·have:=hl l hf.2;omega
 |ret a=>
  refine⟨λy hy=>?_,by simp[fE]⟩;simp only[fE,cu,hU,or_false]at hy;rcases hy with rfl|rfl
  ·decide
  ·exact r1 hf
 |fetch d s=>
  refine⟨λy hy=>?_,by simp[fE]⟩;simp only[fE,cu,hU,or_false]at hy;rcases hy with rfl|rfl|rfl
  ·exact r1 hf.1
  ·exact e
  ·exact s1 hf.2
 |keep s a=>
  refine⟨λy hy=>?_,by simp[fE]⟩;simp only[fE,cu,hU,or_false]at hy;rcases hy with rfl|rfl|rfl
  ·exact s1 hf.1
  ·exact e
  ·exact r1 hf.2
def aoY{lab:Nat->Str}(h:(∀y∈fE lab i,y.length<=100)/\(fE lab i).length<=5):(cb (nU lab i)).length<=505:=by
 unfold cb nU;rw[aA,TL.join_eq,TL.Bg];have h1:=Yi (TL.tl (" ":Str)) ((fE lab i).map TL.tl)
 have e:(TL.tl (" ":Str)).length=1:=rfl;rw[e,aA,kY]at h1;have h2:∀ys:List Str,(∀y∈ys,y.length<=100)->(ys.map (sN∘TL.tl)).sum<=ys.length*100:=by
  intro ys;induction ys with
  |nil=>intro _;simp
  |cons y r ih=>
   intro hy;have q1:=hy y (by simp)
   rw[TL.mj]at q1;have q2:=ih λz hz=>hy z (dn _ hz)
   simp only[cM,qL,cG,ays];lia
 have:=h2 _ h.1;lia
theorem NQ{f:Ql59.Item->bo}{a b:Nat}:∀{c:d6},(∀l∈Z.aN c,(f (.label l)).length<=a)->(∀i∈aH c,(f (.ins i)).length<=b)->(c.flatMap f).length<=a*(Z.aN c).length+b*(aH c).length
 |[],_,_=>by simp
 | .label l::r,h1,h2=>by
   have ih:=NQ (c:=r) (λx hx=>h1 x (dn _ hx)) h2;have q:=h1 l (pE ..);rw[xP,cj,Z.pL];show _<=a*((Z.aN r).length+1)+_;rw[awd];lia
 | .ins i::r,h1,h2=>by
   have ih:=NQ (c:=r) h1 (λx hx=>h2 x (dn _ hx));have q:=h2 i (pE ..);rw[xP,cj,Z.jt,cG];show _<=a*(Z.aN r).length+b*((aH r).length+1);rw[awd];lia
section
variable{P:Program}{w:a9}{K:aV}{mg:Str->Option Value}{A:aO}{base:Heap}
def Yj(H:Hp)(da:Addr)(p:Nat)(ls:List Str):Prop:=∃kvs:List (aT×V),H da=some (.dK kvs)/\((cx kvs (bT (p:Int))=none/\ls=[])\/∃a,cx kvs (bT (p:Int))=some (.ref a)/\SL H a ls)
def aoZ:Sp:=λvs H Q _=>∃(da:Addr)(p:Nat)(ls:List Str),vs=[.ref da,nI p]/\Yj H da p ls/\(∀x∈ls,x.length<=8)/\ls.length<=100000/\∀b H',H b=none->af H H'->SL H' b (ls.map qH)->Q (.ref b) H'
def Yk(T:Txt K mg A):aZ P w K mg base bu 1 A.GU A.GV ["labels_at","place"] (aoZ):=by
 refine T.MF.F.bM WA (λvs H Q E h=>?_) (λaK Ar outer s H vs Q E hr h=>?_)
 ·refine gb h λda p ls bp _=>?_;obtain rfl:=bp;rfl
 ·refine bR h λda p ls bA bX kx=>?_;refine cT kx λh8 hz k=>?_;obtain rfl:=bA;obtain⟨kvs,hd,hv⟩:=bX;have nd:=WA.nd
  have hu:=nA hr;intro X_ D_;refine aq (ax (aQ (rH rfl nd (kG (LK hu (pv 0) (pv 1) (cK az) ⟨rfl,rfl,rfl,rfl⟩)) (kI (N:=["labels_at","place","label"]) (sc:=aU Mz) (own:=[("label",2)]) (by decide+kernel)) (λ_ _ _ _ _=>(pN nd 2)) (λ_ _ _ _ _=>mi) (λ_ _ _ _ _=>(ajB (ajA (pv 2)) bG))))) ?_;refine vI rfl (aW da rfl (.inl ⟨_, .inl hd⟩) (vI rfl ⟨by show 0<=sizeLine;decide,λe he=>?_⟩));have s1:=af.new (o:= .lst []) he;refine aq (dC.k (k:=bT (p:Int)) (s1 _ _ hd)) ?_;obtain⟨a,ea,ha⟩:∃a,(cx kvs (bT (p:Int))).getD (V.ref e)= .ref a/\SL (upd H e (.lst [])) a ls:=by
   rcases hv with⟨h0,rfl⟩|⟨a,h0,ha⟩
   ·exact aF e (by rw[h0];rfl) ag
   ·exact aF a (by rw[h0];rfl) (s1 _ _ ha)
  rw[ea];refine aW a rfl ⟨_,ah.of ha⟩ λD hD=>?_;refine yM (K:=K) (a:=a) (xs:=ls.map V.str) (λi H3=>af (upd H e (.lst [])) H3/\SL H3 D ((ls.take i).map qH)) ⟨af.new hD,ag⟩ (λi H3 _ h=>ah.of (h.1 _ _ ha)) ?_ ?_
  ·rintro i x H3 hx ⟨s3,bj⟩;refine ar (dk hx) λy hy cA=>?_;obtain rfl:=cA;have qb:=h8 y (cP hy)
   have iJ:=cN hy;refine⟨rfl,vI rfl (aW y rfl (g9 (by lia)) (aW y rfl (g9 (by omega)) (aW (" :") rfl (by show y.length+2<=sizeLine;exact g9 (by lia)) (d7 _ bj (by rw[aA,aA,fw];exact cI (by omega)) (s3.upd hD) ?_))))⟩;show upd _ D _ D=_;rw[ag,ee hy];simp[qH]
  ·rintro H3 ⟨s3,bj⟩;rw[aA,eX (aX _)]at bj;exact k D H3 (dY s1 hD) (s1.trans s3) bj
end
end
section
variable{H H8 H9:Hp}{kvs:List (aT×V)}{c:d6}{ls:List Nat}{ad:Nat->Option Addr}
structure LA (H H8:Hp) (kvs:List (aT×V)) (lab:Nat->Str) (c:d6) (ls:List Nat) (ad:Nat->Option Addr):Prop where
 val:∀p:Nat,cx kvs (bT (p:Int))=(ad p).map V.ref
 no:∀p,ad p=none->ls.filter (λl=>decide (bN c l=p))=[]
 at_:∀p a,ad p=some a->SL H8 a ((ls.filter λl=>decide (bN c l=p)).map lab)
 inj:∀p q a,ad p=some a->ad q=some a->p=q
 fresh:∀p a,ad p=some a->H a=none
 len:kvs.length<=ls.length
def LA.start(H H8:Hp)(lab:Nat->Str)(c:d6):LA H H8 [] lab c [] (λ_=>none):=
 ⟨λ_=>rfl,λ_ _=>rfl,λ_ _ h=>by simp at h,λ_ _ _ h=>by simp at h,λ_ _ h=>by simp at h,aX _⟩
def LA.same{lab:Nat->Str}(h:LA H H8 kvs lab c ls ad)(k:∀p a o,ad p=some a->H8 a=some o->H9 a=some o):LA H H9 kvs lab c ls ad:=
 ⟨h.val,h.no,λp a e=>k p a _ e (h.at_ p a e),h.inj,h.fresh,h.len⟩
def LA.old{lab:Nat->Str}{l a:Nat}{xs:List V}(h:LA H H8 kvs lab c ls ad)(ha:ad (bN c l)=some a)(hx:H8 a=some (.lst xs)):LA H (upd H8 a (.lst (xs++[V.str (lab l)]))) kvs lab c (ls++[l]) ad where
 val:=h.val
 no:=λp hp=>by
  have:bN c l≠p:=λe=>by subst e;rw[ha]at hp;cases hp
  rw[kU,h.no p hp];simp[this]
 at_:=λp b hb=>by
  show upd _ _ _ _=_;by_cases e:bN c l=p
  ·subst e;rw[ha]at hb;cases hb;have:=h.at_ _ _ ha
   unfold SL at this;rw[hx]at this;have:=(HO.lst.inj (eB this))
   rw[ag,this,kU];simp
  ·have bh:b≠a:=λq=>by subst q;exact e (h.inj _ _ _ ha hb)
   rw[aj bh,kU];have e0:[l].filter (λl=>decide (bN c l=p))=[]:=by simp[e]
   rw[e0,qR];exact h.at_ p b hb
 inj:=h.inj
 fresh:=h.fresh
 len:=by rw[cj];have:=h.len;lia
def LA.new{lab:Nat->Str}{l z:Nat}(h:LA H H8 kvs lab c ls ad)(ha:ad (bN c l)=none)(hz:H z=none)(ID:H8 z=none)(hn:H9 z=some (.lst [V.str (lab l)]))(k:∀p a o,ad p=some a->H8 a=some o->H9 a=some o):
  LA H H9 (dO kvs (bT ((bN c l:Nat):Int)) (.ref z)) lab c (ls++[l]) (λp=>if p=bN c l then some z else ad p)where
 val:=λp=>by
  rw[A7];by_cases e:p=bN c l
  ·subst e;rw[if_pos rfl,if_pos rfl];rfl
  ·rw[if_neg (λq=>e (by have:=zJ q;lia)),if_neg e];exact h.val p
 no:=λp hp=>by
  by_cases e:p=bN c l
  ·rw[if_pos e]at hp;cases hp
  ·rw[if_neg e]at hp;rw[kU,h.no p hp];have e':¬bN c l=p:=λq=>e q.symm
   simp[e']
 at_:=λp b hb=>by
  by_cases e:p=bN c l
  ·subst e;rw[if_pos rfl]at hb;cases hb;show H9 z=_;rw[hn,kU,h.no _ ha];simp
  ·rw[if_neg e]at hb;show H9 b=_;rw[k p b _ hb (h.at_ p b hb),kU];have e':¬bN c l=p:=λq=>e q.symm
   simp[e']
 inj:=λp q a h1 h2=>by
  by_cases e1:p=bN c l
  ·rw[if_pos e1]at h1;by_cases e2:q=bN c l
   ·rw[e1,e2]
   ·rw[if_neg e2]at h2;cases h1;rw[h.at_ q z h2]at ID;cases ID
  ·rw[if_neg e1]at h1;by_cases e2:q=bN c l
   ·rw[if_pos e2]at h2;cases h2;rw[h.at_ p z h1]at ID;cases ID
   ·rw[if_neg e2]at h2;exact h.inj p q a h1 h2
 fresh:=λp a hp=>by
  by_cases e:p=bN c l
  ·rw[if_pos e]at hp;cases hp;exact hz
  ·rw[if_neg e]at hp;exact h.fresh p a hp
 len:=by have:=vM kvs (bT ((bN c l:Nat):Int)) (V.ref z);have:=h.len;rw[cj];simp;lia
def LA.Yl{da:Addr}{lab:Nat->Str}(h:LA H H8 kvs lab c ls ad)(hd:H8 da=some (.dK kvs))(p:Nat):Yj H8 da p ((ls.filter λl=>decide (bN c l=p)).map lab):=by
 refine aF kvs hd ?_;cases e:ad p with
 |none=>exact .inl ⟨by rw[h.val,e];rfl,by rw[h.no p e];rfl⟩
 |some a=>exact .inr (aF a (by rw[h.val,e];rfl) (h.at_ p a e))
def ao0(lab:Nat->Str)(c:d6)(ls:List Nat)(p:Nat):((ls.filter λl=>decide (bN c l=p)).map lab).map qH=iy lab (ls.map λl=>(l,bN c l)) p:=by unfold iy;rw[List.filter_map,kY,kY];rfl
def ao1(xs:List Str):xs.length<=(gn xs).length:=by
 induction xs with
 |nil=>simp[gn]
 |cons x r ih=>
  unfold gn at*;rw[xP,cj,cj];simp only[cG,sP];lia
def ao2(lab:Nat->Str)(lp:List (Nat×Nat)){I:List ck}{t:Nat}{i:ck}(h:I[t]?=some i):nW lab lp (I.drop t) t=iy lab lp t++(nU lab i::nW lab lp (I.drop (t+1)) (t+1)):=by rw[xY (cN h),(d0.mp h).2];rfl
section
variable{P:Program}{w:a9}{K:aV}{mg:Str->Option Value}{A:aO}{base:Heap}
def ao3(A:aO):Sp:=λvs H Q _=>∃(p:Addr)(lab:Nat->Str)(c:d6)(labels:List bo),vs=[.ref p]/\lF A H lab p c/\zr labels lab (Z.aN c)/\
 ∀b H',H b=none->af H H'->IL H' b (BI (c.flatMap (iB labels)))->(c.flatMap (iB labels)).length<=1000000->Q (.ref b) H'
def ao4(T:Txt K mg A):aZ P w K mg base bu 4 A.GR A.GS ["fit"] (ao3 A):=by
 refine T.written.F.bM Wz (λvs H Q E h=>?_) (λaK Ar outer s H vs Q E hr h=>?_)
 ·refine fR h λp lab c labels bp _=>?_;obtain rfl:=bp;rfl
 ·refine fR h λp lab c labels bA kx=>?_;refine cT kx λbX WL k=>?_;obtain rfl:=bA;obtain⟨wk,reg,a_,hF,fo,ok⟩:=bX;have nd:=Wz.nd
  have hu:=nA hr;have gL:=fo.rb;have Nt:=fo.sb;have hsz:=ok.W.sb;have HX:=ok.ll;have IE:=ok.ls;have NR:=X6 fo ok;have xb:=fo.aN;rw[xb]at WL;have iJ:(aH c).length=(aH wk.code).length:=by rw[fo.ins,aA]
  have ao5:(Z.aN c).Nodup:=by rw[xb];exact ok.F.vq
  have Ym:=Z.acr (iB labels) (c:=c) ao5;generalize cy:(Z.aN c).map (λl=>(l,bN c l))=lp at Ym;have ao6:∀x∈lp,x.1∈Z.aN wk.code:=λx hx=>by rw[<-cy,kW]at hx;refine ar hx λl hl cA=>?_;obtain rfl:=cA;rw[<-xb];exact hl
  have ao7:lp=(Z.aN wk.code).map λl=>(l,bN wk.code l):=by rw[<-cy,xb];apply ke;intro l _;rw[fo.tf]
  have NS:=Yh WL ao6 (aH c) 0 NR;rw[Ym]at NS;have Yn:(c.flatMap (iB labels)).length<=1000000:=by
   have:=NQ (c:=c) (f:=iB labels) (a:=11) (b:=506) (λl hl=>?_) (λi hi=>?_)
   ·rw[xb,iJ]at this;lia
   ·have h1:=congrArg sN (Yf WL (by rw[<-xb];exact hl:l∈Z.aN wk.code));have h2:=IE l (by rw[<-xb];exact hl);unfold BI qH cb at h1;rw[cj,aA,aA,TL.yX,cj,<-TL.mj]at h1;have e2:(TL.tl (" :":Str)).length=2:=rfl;simp only[cG,sP]at h1;lia
   ·have h1:=congrArg sN (Ye WL (NR i hi));have h2:=aoY (aoX (lab:=lab) (NR i hi) (by lia) (by lia) IE);unfold BI at h1;rw[cj,aA]at h1;simp only[cG,sP]at h1;lia
  have ao8:(gn (nW lab lp (aH c) 0)).length<=1000000:=by rw[NS];unfold BI;rw[aA];exact Yn
  refine bR (id hF) λdf pr hh f1 wZ f3=>?_;refine bR (id wZ) λdp sl ld p1 di p3=>?_;obtain⟨st,h2,h3,h4⟩:=di;intro X_ D_;refine aq (au (pS nd 1 vP) (au (S6 (gj fP rfl (S9 (aD (aD (pv 0) rfl) rfl)) (oK rfl (g5 (pN nd 2) (g5 (pN nd 3) oJ))) (ax (fJ (g6 (Tx (pv 1) (pv 3) (cK az) ⟨rfl,rfl,rfl,rfl⟩) (pv 2)))))) (au (pS nd 4 (cK az)) (au (gj fP rfl (yU rfl T.wF (ae (aD (aD (pv 0) rfl) rfl) az)) (oK rfl (g5 (pN nd 3) (g5 (pN nd 5) oJ))) (au (fJ (EU (pv 4) (bF (Yk T) T.MF hr (ae (pv 1) (ae (pv 3) az))))) (ax (fJ (g6 (pv 4) (bF (aoT T) T.Vx hr (ae (pv 5) (ae (aD (pv 0) rfl) az)))))))) (au (fJ (EU (pv 4) (bF (Yk T) T.MF hr (ae (pv 1) (ae (cV fD T.dF dQ (aD (aD (pv 0) rfl) rfl)) az))))) (ax (aQ (bF (aoI T) T.Vm hr (ae (pv 4) az))))))))) ?_;refineλda NT=>?_;have s0:af H (upd H da (.dK [])):=af.new NT
  have ao9:=s0 _ _ p3;have NU:da≠ld:=(bL p3 NT).symm;refine aB ld _ ao9 trivial λod=>?_;have Cq:∀b o,b≠ld->H b=some o->upd (upd H da (.dK [])) ld (.eG od (.dK (c8 lab wk.code))) b=some o:=λb o hb hq=>by rw[aj hb];exact s0 _ _ hq
  refine ai rfl (Cq _ _ (cf f1 p3 (by simp)) f1) T.iK.c T.uf rfl (gH (Cq _ _ (cf p1 p3 (by simp)) p1) T.Program.c T.wA rfl (fQ ld od _ rfl ag (TK (K:=K) (d:=ld) (o:=od) (kvs:=c8 lab wk.code) (p:=2) (q:=3) (λt σ H8=>∃(v2 v3:Option V)(kvs:List (aT×V))(ad:Nat->Option Addr),σ=[some (.ref p),some (.ref da),v2,v3,none,none]/\H8 ld=some (.eG od (.dK (c8 lab wk.code)))/\(∀b o,b≠ld->H b=some o->H8 b=some o)/\H8 da=some (.dK kvs)/\LA H H8 kvs lab wk.code ((Z.aN wk.code).take t) ad) (gC none none [] (λ_=>none) rfl ag Cq (by rw[aj NU];exact ag) (LA.start _ _ _ _)) (λt σ H8 _ ⟨_,_,_,_,_,h,_⟩=>h) ?_ ?_)))
  ·rintro t kk v Tu σ H8 yT ⟨v2,v3,kvs,ad,rfl,mH,qF,uz,la⟩ hT;refine ar (dk yT) λlb nP Cp=>?_;have ek:kk=aJ (lab lb):=congrArg av_ Cp
   have ev:v=nI (bN wk.code lb):=congrArg awa Cp;subst ek;subst ev;have sT:=af.new (o:= .tup [kV (aJ (lab lb)),nI (bN wk.code lb)]) hT;have wO:=cN nP;have zi:=la.len;rw[fw]at zi;rw[ee nP];refine vI rfl (aW da rfl (.inl ⟨_, .inl (sT _ _ uz)⟩) (vI rfl ⟨by show 0<=sizeLine;decide,λz hz=>?_⟩));have sz:=af.new (o:= .lst []) hz;have se:=sT.trans sz;have Yo:H z=none:=by
    cases q:H z with
    |none=>rfl
    |some o=>
     by_cases e:z=ld
     ·subst e;rw[sT _ _ mH]at hz;cases hz
     ·rw[sT _ _ (qF z o e q)]at hz;cases hz
   have Yp:z≠da:=λe=>by subst e;rw[sT _ _ uz]at hz;cases hz
   have nzl:z≠ld:=λe=>by subst e;rw[sT _ _ mH]at hz;cases hz
   refine gU kvs (bT ((bN wk.code lb:Nat):Int)) (se _ _ uz) rfl (cI (by lia)) (λx hx=>?_) λhx=>?_
   ·rw[la.val]at hx;cases xc:ad (bN wk.code lb)with
    |none=>rw[xc]at hx;cases hx
    |some a=>
     rw[xc]at hx;cases hx;have zl:=la.at_ _ _ xc
     have NV:=se _ _ zl;have nH:(((Z.aN wk.code).take t).filter λl=>decide (bN wk.code l=bN wk.code lb)).length<=17000:=by have:=uJ (λl=>decide (bN wk.code l=bN wk.code lb)) ((Z.aN wk.code).take t);rw[fw]at this;lia
     refine⟨.inl ⟨rfl,_,ah.of NV⟩,vI rfl (gI NV (by rw[aA,aA];exact cI (by lia)) ?_)⟩;have nad:da≠a:=cf uz zl (by simp)
     have nal:ld≠a:=cf mH zl (by simp);have nHa:=la.fresh _ _ xc;exact gC _ _ kvs ad rfl (by rw[aj nal];exact se _ _ mH) (λb o hb hq=>by rw[aj (bL hq nHa)];exact se _ _ (qF b o hb hq)) (by rw[aj nad];exact se _ _ uz) ((la.same λ_ _ o _ h=>se _ o h).old xc NV)
   ·rw[la.val]at hx;have xc:ad (bN wk.code lb)=none:=by
     cases q:ad (bN wk.code lb)with
     |none=>rfl
     |some a=>rw[q]at hx;cases hx
    have Yq:upd (upd (upd H8 Tu (.tup [kV (aJ (lab lb)),nI (bN wk.code lb)])) z (.lst [])) da (.dK (dO kvs (bT ((bN wk.code lb:Nat):Int)) (.ref z))) z=some (.lst []):=by rw[aj Yp,ag]
    refine⟨.inl ⟨rfl,_,ah.of Yq⟩,vI rfl (gI Yq (by show 0<sizeLine;decide) ?_)⟩;refine gC _ _ _ _ rfl ?_ ?_ ?_ (la.new xc Yo ?_ ?_ ?_)
    ·rw[aj nzl.symm,aj NU.symm];exact se _ _ mH
    ·intro b o hb hq;rw[aj (bL hq Yo),aj (bL hq NT)];exact se _ _ (qF b o hb hq)
    ·rw[aj Yp.symm,ag]
    ·exact dY sT hz
    ·rw[ag];rfl
    ·intro q a o hq ha;have n1:a≠z:=λe=>by subst e;rw[sT _ _ ha]at hz;cases hz
     have n2:a≠da:=cf (la.at_ q a hq) uz (by simp);rw[aj n1,aj n2];exact se _ _ ha
  rintro σ H8 ⟨v2,v3,kvs,ad,rfl,mH,qF,uz,la⟩;have ND:(c8 lab wk.code).length=(Z.aN wk.code).length:=by unfold c8;rw[aA]
  rw[ND,eX (aX _)]at la;refine⟨mH,?_⟩;have s9:af H (upd H8 ld (.dK (c8 lab wk.code))):=λb o hq=>by
   by_cases e:b=ld
   ·subst e;rw[ag,<-p3];exact hq
   ·rw[aj e];exact qF b o e hq
  have Yr:upd H8 ld (.dK (c8 lab wk.code)) da=some (.dK kvs):=by rw[aj NU];exact uz
  have Ys:LA H (upd H8 ld (.dK (c8 lab wk.code))) kvs lab wk.code (Z.aN wk.code) ad:=la.same λq a o hq ha=>by rw[aj (cf (la.at_ q a hq) mH (by simp))];exact ha
  generalize upd H8 ld (.dK (c8 lab wk.code))=H9 at*;have BX:∀q,((((Z.aN wk.code).filter λl=>decide (bN wk.code l=q)).map lab).map qH)=iy lab lp q:=λq=>by rw[ao0,ao7]
  have Yt:∀q,∀x∈((Z.aN wk.code).filter λl=>decide (bN wk.code l=q)).map lab,x.length<=8:=λq x hx=>by refine ar (kW.mp hx) λl hl eS=>?_;obtain rfl:=eS;exact IE l (fq.mp hl).1
  have Yu:∀q,(((Z.aN wk.code).filter λl=>decide (bN wk.code l=q)).map lab).length<=100000:=λq=>by
   rw[aA];have:=uJ (λl=>decide (bN wk.code l=q)) (Z.aN wk.code)
   lia
  have NW:=ao1 (nW lab lp (aH c) 0);refine⟨by show 0<=sizeLine;decide,λlI iw=>?_⟩;have IF:=af.new (o:= .lst []) iw;have Nv:H lI=none:=dY s9 iw;refine ai rfl (IF _ _ (s9 _ _ f1)) T.iK.c T.uf rfl (gH (IF _ _ (s9 _ _ p1)) T.Program.c T.rR rfl (aB sl _ rfl (ah.of (IF _ _ (s9 _ _ h2))) (y1 (K:=K) (a:=sl) (xs:=st.map V.ref) (p:=3) (q:=5) (λt σ H2=>∃(Ct v5:Option V)(Lt:List Str),σ=[some (.ref p),some (.ref da),v2,Ct,some (.ref lI),v5]/\af H9 H2/\SL H2 lI Lt/\Lt++nW lab lp ((aH c).drop t) t=nW lab lp (aH c) 0) (kj v3 none [] rfl IF ag rfl) (λt σ H2 _ Bp=>bR Bp λ_ _ _ _ s2 _=>ah.of (s2 _ _ (s9 _ _ h2))) ?_ ?_)))
  ·rintro t x Tu σ H2 hx ⟨Ct,v5,Lt,rfl,s2,nK,eL⟩ hT;refine ar (dk hx) λq hq ij=>?_;obtain rfl:=ij;have wO:=cN hq
   obtain⟨ins,eN⟩:=d_ (show t<(aH wk.code).length by lia);have apd:(aH c)[t]?=some (wY reg ins):=by rw[fo.ins];exact cF eN
   have eD:=ao2 lab lp apd;rw[eD]at eL;have NX:=congrArg sN eL;simp only[cj,cG]at NX;have sT:=af.new (o:= .tup [.int (t:Nat), .ref q]) hT;have NY:=s2.trans sT;have Yv:=sT _ _ nK;have pf:(iy lab lp t).length<=(nW lab lp (aH c) 0).length:=by lia
   refine vI rfl ⟨.inl ⟨rfl,_,ah.of Yv⟩,vI rfl (vI rfl (iC da t _ rfl ((Ys.same λ_ _ o _ h=>NY _ o h).Yl (NY _ _ Yr) t) (Yt t) (Yu t) λb H3 hb s3 iM=>?_))⟩;rw[BX t]at iM;have NZ:(Lt.map V.str).length+((iy lab lp t).map V.str).length<=sizeLine:=by rw[aA,aA];exact g9 (by lia)
   refine cO lI b _ _ rfl rfl (s3 _ _ Yv) iM NZ ?_;have s4:af H9 (upd H3 lI (.lst (Lt.map V.str++(iy lab lp t).map V.str))):=(NY.trans s3).upd iw
   have pz:SL (upd H3 lI (.lst (Lt.map V.str++(iy lab lp t).map V.str))) lI (Lt++iy lab lp t):=by show upd _ _ _ _=_;rw[ag,gA]
   generalize upd H3 lI (.lst (Lt.map V.str++(iy lab lp t).map V.str))=H4 at*;have pw:=s9.trans s4
   refine vI rfl ⟨.inl ⟨rfl,_,ah.of pz⟩,vI rfl (ai rfl (pw _ _ f1) T.iK.c T.BJ rfl ⟨q,hh,lab,ins,reg,wk.vars,wk.slots,Z.aN wk.code,rfl,(h4 t q ins hq eN).same pw,pw _ _ f3,ok.F.fit ins (cP eN),by lia,λv hv=>by have:=fo.lt v hv;lia,IE,λH5 s5=>?_⟩)⟩;refine gI (s5 _ _ pz) (by rw[aA,cj];exact cI (by omega)) ?_;refine kj _ _ (Lt++iy lab lp t++[nU lab (wY reg ins)]) rfl ((s4.trans s5).upd iw) ?_ ?_
   ·show upd _ _ _ _=_;rw[ag];simp
   ·rw[<-eL];simp
  rintro σ H2 ⟨Ct,v5,Lt,rfl,s2,nK,eL⟩;rw[aA,h3,<-iJ,PD (aX _)]at eL;have Yw:Lt++iy lab lp (aH c).length=nW lab lp (aH c) 0:=eL
  have NX:=congrArg sN Yw;simp only[cj]at NX;have xf:=s9.trans s2;have e9:(st.map V.ref).length=(aH c).length:=by rw[aA,h3,iJ]
  refine vI rfl ⟨.inl ⟨rfl,_,ah.of nK⟩,vI rfl (ai rfl (xf _ _ f1) T.iK.c T.uf rfl (gH (xf _ _ p1) T.Program.c T.rR rfl (aB sl _ rfl (.inl (ah.of (xf _ _ h2))) (iC da ((aH c).length) _ (by rw[e9];rfl) ((Ys.same λ_ _ o _ h=>s2 _ o h).Yl (s2 _ _ Yr) _) (Yt _) (Yu _) λb H3 hb s3 iM=>?_))))⟩;rw[BX]at iM;have NZ:(Lt.map V.str).length+((iy lab lp (aH c).length).map V.str).length<=sizeLine:=by rw[aA,aA];exact g9 (by lia)
  refine cO lI b _ _ rfl rfl (s3 _ _ nK) iM NZ ?_;have s4:af H (upd H3 lI (.lst (Lt.map V.str++(iy lab lp (aH c).length).map V.str))):=(xf.trans s3).upd Nv
  have pz:SL (upd H3 lI (.lst (Lt.map V.str++(iy lab lp (aH c).length).map V.str))) lI (nW lab lp (aH c) 0):=by show upd _ _ _ _=_;rw[ag,<-Yw,gA]
  generalize upd H3 lI (.lst (Lt.map V.str++(iy lab lp (aH c).length).map V.str))=H4 at*;refine vI rfl (cC lI _ rfl pz ao8 λb2 H5 jh s5 hI=>?_);rw[NS]at hI;exact k b2 H5 (dY s4 jh) (s4.trans s5) hI Yn
end
end
section
def xg(b:bo):List Int:=b.map λx=>((x.toNat:Nat):Int)
def aC(w:bo):Str:=⟨(Z.sg w).toArray⟩
def xh(w:bo):TL.tl (aC w)=Z.sg w:=rfl
def gw(w:bo):(aC w).length=w.length:=by rw[TL.mj,xh,Z.pT]
theorem Yx{c:UInt8}(hc:∀n,n<256->(Z.eC n=c.toNat<->n=c.toNat)):∀(t:bo)(acc:List Nat),TL.fK [c.toNat] 0 acc (Z.sg t)=match(eZ c t).map Z.sg with
  |l::m=>(acc++l)::m
  |[]=>[acc]
 |[],acc=>by simp[Z.sg,TL.fK,eZ]
 |x::r,acc=>by
  have hx:x.toNat<256:=x.toNat_lt;have ih:=λa=>Yx hc r a;show TL.fK [c.toNat] 0 acc (Z.eC x.toNat::Z.sg r)=_;unfold TL.fK;have hp:TL.pre [c.toNat] (Z.eC x.toNat::Z.sg r)=decide (x=c):=by
   unfold TL.pre;show([Z.eC x.toNat]==[c.toNat])=_;rw[fu,decide_eq_true_iff,beq_iff_eq];constructor
   ·intro h;exact xN.mp ((hc _ hx).mp (mT h).1)
   ·intro h;subst h;rw[(hc _ hx).mpr rfl]
  rw[hp];unfold eZ;by_cases e:x=c
  ·rw[if_pos (decide_eq_true e),if_pos e];rw[show [c.toNat].length-1=0 from rfl,ih];have:=Z.DU c r
   cases Cu:eZ c r with
   |nil=>exact absurd Cu this
   |cons l m=>simp[Z.sg]
  ·rw[if_neg (by simpa using e),if_neg e,ih];have:=Z.DU c r
   cases Cu:eZ c r with
   |nil=>exact absurd Cu this
   |cons l m=>simp[Z.sg]
def Yy{c:UInt8}{y:Str}(hy:TL.tl y=[c.toNat])(hk:y.cps.all (·<256)=true)(hc:∀n,n<256->(Z.eC n=c.toNat<->n=c.toNat))(t:bo):Txt.split (aC t) y=(eZ c t).map aC:=by
 refine TL.S_ ?_;rw[TL.aiD _ y (by rw[hy];simp) (TL.aiE hk),hy,xh,Yx hc];have:=Z.DU c t
 rw[kY];cases Cu:eZ c t with
 |nil=>exact absurd Cu this
 |cons l m=>simp[xh,ayt]
def ape(t:bo):Txt.split (aC t) "\n"=(eZ 10 t).map aC:=Yy (c:=10) (by rfl) (by decide+kernel) (by decide+kernel) t
def apf(t:bo):Txt.split (aC t) " "=(eZ 32 t).map aC:=Yy (c:=32) (by rfl) (by decide+kernel) (by decide+kernel) t
def pB:List Nat:=TL.tl (" abcdefghijklmnopqrstuvwxyz0123456789:=+-*/&|^<>":Str)
def Yz:∀n,n<256->(n∈pB<->Z.mW n=true):=by decide+kernel
def apg(t:List Nat):Txt.join "" (t.map λn=>(⟨#[n]⟩:Str))=⟨t.toArray⟩:=by
 apply TL.vT;rw[TL.join_eq,TL.Bg,TL.aiu];have:∀l:List Nat,TL.oW (TL.tl ("":Str)) ((l.map λn=>(⟨#[n]⟩:Str)).map TL.tl)=l:=by
  intro l;induction l with
  |nil=>rfl
  |cons x r ih=>
   cases r with
   |nil=>rfl
   |cons y r=>
    show [x]++([]++TL.oW (TL.tl ("":Str)) (((y::r).map λn=>(⟨#[n]⟩:Str)).map TL.tl))=_;rw[ih];rfl
 exact this t
section
variable{P:Program}{w:a9}{K:aV}{mg:Str->Option Value}{A:aO}{base:Heap}
def aph:Sp:=λvs H Q _=>∃(a:Addr)(t:bo),vs=[.ref a]/\IL H a (xg t)/\t.length<=100000/\∀b H',H b=none->af H H'->SL H' b ((eZ 10 t).map aC)->Q (.ref b) H'
def zt(n:Nat):Option V:=if n=10 then some (.str "\n")else if n=37 then some (.str "@")else none
def api{kvs:List (aT×V)}(h:∀n:Nat,cx kvs (bT (n:Int))=if n∈pB then some (.str ⟨#[n]⟩)else zt n){n:Nat}(hn:n<256):(cx kvs (bT (n:Int))).getD (.str "?")= .str ⟨#[Z.eC n]⟩:=by
 rw[h];by_cases hp:n∈pB
 ·rw[if_pos hp];have:=(Yz n hn).mp hp
  rw[Z.Ks (.inl this) (Z.Kt this)];rfl
 ·rw[if_neg hp];have kJ:¬Z.mW n=true:=λq=>hp ((Yz n hn).mpr q)
  unfold zt Z.eC;by_cases h1:n=10
  ·subst h1;rfl
  ·by_cases h2:n=37
   ·subst h2;rfl
   ·rw[if_neg h1,if_neg h2,if_neg h2,if_neg (by simp[h1];simpa using kJ)];rfl
def apj(T:Txt K mg A):aZ P w K mg base bu 1 A.F_ A.Ga ["text"] (aph):=by
 refine T.Vl.F.bM Wf (λvs H Q E h=>?_) (λaK Ar outer s H vs Q E hr h=>?_)
 ·refine bZ h λa t bp _=>?_;obtain rfl:=bp;rfl
 ·refine lj h λa t bA ha hz k=>?_;obtain rfl:=bA;have nd:=Wf.nd
  have hu:=nA hr;intro X_ D_;refine aq (au (pS nd 1 (ahG (S1 (cU rfl T.VD) bG (S1 (cU rfl T.VE) (ud rfl T.VI) ahC)) rfl rfl (by simp) (by decide))) (au (gj fP rfl (EI (ud rfl T.alf)) (pN nd 2) (ax (yP hu (pv 1) (cV RW T.VN TC (pv 2)) (pv 2) rfl))) (au (pS nd 3 (Bj bG (rH rfl nd (kG (pv 0)) (kI (N:=["text","sign_of","sign","signs","byte"]) (sc:=aU Mq) (own:=[("byte",4)]) (by decide+kernel)) (λ_ _ _ _ _=>(pN nd 4)) (λ_ _ _ _ _=>mi) (λ_ _ _ _ _=>(LK hu (pv 1) (pv 4) (ud rfl T.alg) ⟨rfl,rfl,rfl,rfl⟩))))) (ax (aQ (Tp (pv 3) bG)))))) ?_;refineλsd nN=>?_;refine⟨ag,[(bT 10, .str "\n"),(bT 37, .str "@")],rfl,by decide,?_⟩;rw[ym];have s0:af H (upd H sd (.dK (yQ [] [((bT 10:aT),V.str "\n"),(bT 37,V.str "@")]))):=af.new nN;refine aq rfl (aji (x:=(" abcdefghijklmnopqrstuvwxyz0123456789:=+-*/&|^<>":Str)) (λi σ H2=>∃(v2:Option V)(kvs:List (aT×V)),σ=[some (.ref a),some (.ref sd),v2,none,none]/\af H H2/\H2 sd=some (.dK kvs)/\kvs.length<=i+2/\∀n:Nat,cx kvs (bT (n:Int))=if n∈pB.take i then some (.str ⟨#[n]⟩)else zt n) (gU none _ rfl s0 ag (by decide) λn=>?_) ?_ ?_)
  ·show cx [((bT 10:aT),V.str "\n"),((bT 37:aT),V.str "@")] (bT (n:Int))=if n∈pB.take 0 then _ else zt n;rw[if_neg (by simp)];unfold zt;by_cases h1:n=10
   ·subst h1;rw[if_pos rfl];exact jZ rfl
   ·rw[if_neg h1,jB (λq=>h1 (by have:=zJ q;lia))];by_cases h2:n=37
    ·subst h2;rw[if_pos rfl];exact jZ rfl
    ·rw[if_neg h2,jB (λq=>h2 (by have:=zJ q;lia))];rfl
  ·rintro i c σ H2 hc ⟨v2,kvs,rfl,s2,hd2,Ll,jE⟩;have iJ:i<48:=cN hc
   refine vI rfl (vI rfl (vI rfl (aW _ rfl rfl (aB sd _ rfl (oU.k (k:=bT (c:Int)) hd2 (cI (by lia))) ?_))));refine gU _ _ rfl (s2.upd nN) ag (by have:=vM kvs (bT (c:Int):aT) (V.str ⟨#[c]⟩);lia) λn=>?_;have ht:pB.take (i+1)=pB.take i++[c]:=ee hc
   rw[A7,jE,ht];by_cases e:n=c
   ·subst e;rw[if_pos rfl,if_pos (by simp)]
   ·rw[if_neg (λq=>e (by have:=zJ q;lia))];simp[e]
  rintro σ H2 ⟨v2,kvs,rfl,s2,hd2,Ll,jE⟩;have apk:∀n:Nat,cx kvs (bT (n:Int))=if n∈pB then some (.str ⟨#[n]⟩)else zt n:=λn=>by have et:pB.take (TL.tl (" abcdefghijklmnopqrstuvwxyz0123456789:=+-*/&|^<>":Str)).length=pB:=eX (aX pB.length);have:=jE n;rw[et]at this;exact this
  refine⟨⟨_,rfl⟩,vI rfl (aW a rfl ⟨_,ah.of (s2 _ _ ha)⟩ λD hD=>?_)⟩;have pf:(xg t).length=t.length:=by unfold xg;rw[aA]
  refine yM (K:=K) (a:=a) (xs:=(xg t).map V.int) (λi H3=>af H2 H3/\SL H3 D ((Z.sg (t.take i)).map λn=>(⟨#[n]⟩:Str))) ⟨af.new hD,ag⟩ (λi H3 _ h=>ah.of (h.1 _ _ (s2 _ _ ha))) ?_ ?_
  ·rintro i x H3 hx ⟨s3,bj⟩;refine ar (dk hx) λz q_ bX=>?_;obtain rfl:=bX;refine ar (dk q_) λb hb cA=>?_;obtain rfl:=cA;have iJ:=cN hb
   refine⟨rfl,vI rfl (aW sd rfl (.inl ⟨_, .inl (s3 _ _ hd2)⟩) (vI rfl (aq (dC.k (k:=bT ((b.toNat:Nat):Int)) (s3 _ _ hd2)) (d7 _ bj (by rw[aA,aA,Z.pT,fw];exact cI (by lia)) (s3.upd hD) ?_))))⟩;show upd _ D _ D=_;rw[ag,ee hb,api apk b.toNat_lt];simp[Z.sg]
  rintro H3 ⟨s3,bj⟩;rw[aA,pf,eX (aX _)]at bj;refine iC _ D ((Z.sg t).map λn=>(⟨#[n]⟩:Str)) rfl rfl (.inl (ah.of bj)) ?_ ?_
  ·have e1:∀l:List Nat,((l.map λn=>(⟨#[n]⟩:Str)).map (·.length)).sum=l.length:=by
    intro l;induction l with
    |nil=>rfl
    |cons x r ih=>simp only[cM,qL,cG]at*;rw[ih];show 1+_=_;lia
   rw[e1,Z.pT];show t.length+_*0<=_;lia
  have ej:Txt.join "" ((Z.sg t).map λn=>(⟨#[n]⟩:Str))=aC t:=apg _;rw[ej];refine vI rfl ⟨⟨_,rfl⟩,_,_,rfl,rfl,rfl,by rw[gw];exact g9 (by lia),?_⟩;rw[ape];exactλb hb=>k b _ (dY (s2.trans s3) hb) ((s2.trans s3).trans (af.new hb)) ag
def apl:Sp:=λvs H Q _=>∃(l:bo),vs=[.str (aC l)]/\l.length<=100000/\∀b H',H b=none->af H H'->SL H' b ((qX l).map aC)->Q (.ref b) H'
theorem YA(c:UInt8):∀t:bo,(eZ c t).length<=t.length+1
 |[]=>by simp[eZ]
 |x::r=>by
  have:=YA c r;unfold eZ;split
  ·simp;lia
  ·split
   ·simp
   ·rename_i l m e;rw[e]at this;simp at*;lia
def apm(T:Txt K mg A):aZ P w K mg base bu 1 A.Gb A.Gd ["line"] (apl):=by
 refine T.words_of.F.bM Wg (λvs H Q E h=>?_) (λaK Ar outer s H vs Q E hr h=>?_)
 ·refine ar h λl di _=>?_;obtain rfl:=di;rfl
 ·refine bc h λl eS hz k=>?_;obtain rfl:=eS;have nd:=Wg.nd
  intro X_ D_;refine aq (ax (aQ (rH rfl nd (kG (Tp (pv 0) bG)) (kI (N:=["line","word"]) (sc:=aU Mr) (own:=[("word",1)]) (by decide+kernel)) (λ_ _ _ _ _=>(pN nd 1)) (λ_ _ _ _ _=>(SA (bz vG (pv 1) bG (bt _)))) (λ_ _ _ _ _=>(pv 1))))) ?_;refine vI rfl ⟨⟨_,rfl⟩,_,_,rfl,rfl,rfl,by rw[gw];exact g9 (by lia),?_⟩;rw[apf];intro b hb;have s0:=af.new (o:= .lst (((eZ 32 l).map aC).map V.str)) hb
  have fk:=YA 32 l;refine aW b rfl ⟨_,ah.of ag⟩ λD hD=>?_;refine yM (K:=K) (a:=b) (xs:=((eZ 32 l).map aC).map V.str) (λi H3=>af (upd H b (.lst (((eZ 32 l).map aC).map V.str))) H3/\SL H3 D ((((eZ 32 l).take i).filter λw=>w !=[]).map aC)) ⟨af.new hD,ag⟩ (λi H3 _ h=>ah.of (h.1 _ _ ag)) ?_ ?_
  ·rintro i x H3 hx ⟨s3,bj⟩;refine ar (dk hx) λy hy eT=>?_;obtain rfl:=eT;refine ar (dk hy) λv hv ij=>?_;obtain rfl:=ij;have iJ:=cN hv
   have nH:(((eZ 32 l).take i).filter λw=>w !=[]).length<=100001:=i8 (uJ _ _) (by rw[fw];lia);refine⟨rfl,vI rfl (cg rfl _ rfl ?_)⟩;rw[ee hv,kU];by_cases e:v=[]
   ·subst e;refine bS ⟨s3,?_⟩;simpa using bj
   ·have e2:(v !=[])=true:=by simpa using e
    refine bW (λ_=>vI rfl (d7 _ bj (by rw[aA,aA];exact cI (by lia)) (s3.upd hD) ?_)) λh=>absurd ?_ h
    ·show upd _ D _ D=_;rw[ag];simp[e2]
    ·show(!decide (V.str (aC v)=V.str ""))=true;rw[decide_eq_false];rfl;intro q;have:=congrArg TL.tl (V.str.inj q)
     rw[xh]at this;exact e (Z.Ah.mp this)
  ·rintro H3 ⟨s3,bj⟩;rw[aA,aA,eX (aX _)]at bj;exact k D H3 (dY s0 hD) (s0.trans s3) bj
end
end
section
variable{w:bo}
def YB:∀n,n<256->Z.eC n<256:=by decide+kernel
def IG:∀c,c<256->decide (c∈TL.tl ("abcdefghijklmnopqrstuvwxyz":Str))=Z.kr c:=by decide+kernel
def N0:∀c,c<256->decide (c∈TL.tl ("0123456789":Str))=Z.lY c:=by decide+kernel
def N2{c:Nat}(h:c∈Z.sg w):c<256:=by unfold Z.sg at h;refine ar (kW.mp h) λb _ bp=>?_;obtain rfl:=bp;exact YB _ b.toNat_lt
def jF{s:String}(h:TL.tl (cY s)=Z.sg (du s))(ok:Z.eF (du s)):aC w=cY s<->w=du s:=by
 constructor
 ·intro e;have:=congrArg TL.tl e
  rw[xh,h]at this;exact Z.rf ok this
 ·intro e;subst e;exact TL.vT (by rw[xh,h])
section
variable{P:Program}{w:a9}{K:aV}{mg:Str->Option Value}{A:aO}{base:Heap}
def apn:Sp:=λvs H Q _=>∃(w:bo),vs=[.str (aC w)]/\w≠[]/\w.length<=100000/\∀H',af H H'->Q (.bl (fh w)) H'
def uA(T:Txt K mg A):aZ P w K mg base bu 1 A.GB A.GC ["word"] (apn):=by
 refine T.rQ.F.bM Ws (λvs H Q E h=>?_) (λaK Ar outer s H vs Q E hr h=>?_)
 ·refine ar h λw bA _=>?_;obtain rfl:=bA;rfl
 ·obtain⟨x,rfl,bh,hz,k⟩:=h;have nd:=Ws.nd
  intro X_ D_;refine aq (au (bx (PW.pt (l6 (bz oO (cV Li T.dF dQ (pv 0)) (cU rfl T.ak1) (bt _)) (l6 (bz aiO (bK Sh (pv 0) aS (λ_ _=>rfl)) (ud rfl T.VH) (by with_unfolding_all rfl)) (pZ (bz af7 (pv 0) (Bo rfl T.alj) (by with_unfolding_all rfl)))))) (ax (aQ rq)) bI) (ax (aQ (cV (Sx rfl) T.VO TF (rH rfl nd (EI (pv 0)) (kI (N:=["word","sign"]) (sc:=aU Mv) (own:=[("sign",1)]) (by decide+kernel)) (λ_ _ _ _ _=>(pN nd 1)) (λ_ _ _ _ _=>mi) (λ_ _ _ _ _=>(ade (rD LY (pv 1) (ud rfl T.VH) (by with_unfolding_all rfl)) (Rv (rD LY (pv 1) (ud rfl T.VG) (by with_unfolding_all rfl)))))))))) ?_;have hn:=Z.abU x
  unfold Z.isName at hn;have hl:=gw x
  have IH:=Z.pT x;obtain⟨b,r,rfl⟩:∃b r,x=b::r:=by cases x with
   |nil=>exact absurd rfl bh
   |cons b r=>exact⟨b,r,rfl⟩
  have YC:=YB _ b.toNat_lt;refine vI rfl (aW _ rfl (by rw[hl];exact g9 (by lia)) (iI (aq rfl (bW (λh=>bV ?_) λh=>?_))))
  ·have h8:¬(Z.sg (b::r)).length<=8:=by have:=of_decide_eq_true h;rw[hl]at this;rw[IH];lia
   rw[decide_eq_false h8,O5]at hn;have:=k H (af.refl H)
   rw[<-hn]at this;exact this
  have h8:(Z.sg (b::r)).length<=8:=by rw[IH];apply uK;intro q;apply h;apply decide_eq_true;rw[hl];lia
  rw[decide_eq_true h8,Jm]at hn;have eh:((Z.sg (b::r)).head?).any Z.kr=Z.kr (Z.eC b.toNat):=rfl
  rw[eh]at hn;refine vI rfl (iC _ _ (Z.eC b.toNat) rfl rfl (by rw[hl];exact g9 (by lia)) (Eu (show(Z.sg (b::r))[0]?=some (Z.eC b.toNat) from rfl)) (aB (Z.eC b.toNat) _ rfl rfl (aq rfl (bW (λh=>bV ?_) λh=>?_))))
  ·have h1:Z.kr (Z.eC b.toNat)=false:=by rw[<-IG _ YC];simpa using h
   rw[h1,O5]at hn;have:=k H (af.refl H)
   rw[<-hn]at this;exact this
  have h1:Z.kr (Z.eC b.toNat)=true:=by rw[<-IG _ YC];simpa using h
  rw[h1,Jm]at hn;have DF:nt (V.str (aC (b::r))) [V.str (cY "in"),V.str (cY "out"),V.str (cY "goto"),V.str (cY "if"),V.str (cY "ret")]=awe.contains (b::r):=by
   refine pJ Z.yh λo1 o2 o3 o4 o5 _ _=>?_;have q:∀{s:String},TL.tl (cY s)=Z.sg (du s)->Z.eF (du s)->rF (V.str (cY s)) (V.str (aC (b::r)))=decide (Z.sg (b::r)=Z.sg (du s)):=λ{s} h ok=>by
    show(cY s==aC (b::r))=_;rw[fu,beq_iff_eq,decide_eq_true_iff];constructor
    ·intro e;rw[(jF h ok).mp e.symm]
    ·intro e;exact((jF h ok).mpr (Z.rf ok e)).symm
   rw[fu,Z.abV];unfold nt;simp only[zI,List.any_nil,au5];rw[q rfl o1,q rfl o2,q rfl o3,q rfl o4,q rfl o5];simp
  refine vI rfl (gU _ _ rfl (.inr (T.alk _)) rfl rfl (aq rfl ?_));show if nt (V.str (aC (b::r))) [V.str (cY "in"),V.str (cY "out"),V.str (cY "goto"),V.str (cY "if"),V.str (cY "ret")]=true then _ else _;rw[DF];refine bW (λh=>?_) λh=>?_
  ·rw[h]at hn;simp only[awf,ZK]at hn;have:=k H (af.refl H)
   rw[<-hn]at this;exact this
  have hkf:awe.contains (b::r)=false:=by simpa using h
  rw[hkf]at hn;simp only[awg,ZN]at hn;refine vI rfl (aF (aC (b::r)) rfl λD hD=>?_);refine EW (x:=aC (b::r)) (λi H3=>af H H3/\H3 D=some (.lst ((((Z.sg (b::r)).take i).map λc=>Z.kr c||Z.lY c).map V.bl))) ⟨af.new hD,ag⟩ ?_ ?_
  ·rintro i c H3 hc ⟨s3,bj⟩;have xi:c<256:=N2 (cP (show(Z.sg (b::r))[i]?=some c from hc))
   have iJ:i<(Z.sg (b::r)).length:=cN hc;have fin:∀z:Bool,z=(Z.kr c||Z.lY c)->∃acc,H3 D=some (.lst acc)/\acc.length<sizeLine/\(af H (upd H3 D (.lst (acc++[.bl z])))/\(upd H3 D (.lst (acc++[.bl z]))) D=some (.lst ((((Z.sg (b::r)).take (i+1)).map λc=>Z.kr c||Z.lY c).map V.bl))):=λz q_=>⟨_,bj,by rw[aA,aA,fw];exact cI (by omega),s3.upd hD,by rw[ag,ee (show(Z.sg (b::r))[i]?=some c from hc),q_];simp⟩;refine⟨rfl,vI rfl (aB c _ rfl rfl (aq rfl (bW (λh=>?_) λh=>?_)))⟩
   ·exact fin true (by rw[<-IG c xi,show decide (c∈TL.tl ("abcdefghijklmnopqrstuvwxyz":Str))=true from h];rfl)
   ·refine vI rfl (aB c _ rfl rfl ?_);refine fin _ ?_;have h0:Z.kr c=false:=by rw[<-IG c xi];simpa using h
    rw[h0,avl,<-N0 c xi]
  rintro H3 ⟨s3,bj⟩;rw[eX (show(Z.sg (b::r)).length<=(TL.tl (aC (b::r))).length from aX _)]at bj;refine aB D _ rfl (ah.of bj) ?_;have:=k H3 s3
  rw[<-hn]at this;rw[Jq];exact this
end
end
section
variable{c:UInt8}{w ds q:bo}{neg:Bool}
def apq(b:UInt8)(r:bo):Txt.startswith (aC (b::r)) "-"=decide (b=45):=by
 have h0:∀n,n<256->(Z.eC n=45<->n=45):=by decide+kernel
 unfold Txt.startswith;rw[ayu];have e1:(cY "-").length=1:=rfl
 have e2:(cY "-").cps.toList=[45]:=rfl;rw[e1,e2,gw];show(decide (0+1<=(b::r).length)&&((Z.sg (b::r)).drop 0).take 1==[45])=_;have e3:decide (0+1<=(b::r).length)=true:=by simp
 rw[e3,Jm];show([Z.eC b.toNat]==[45])=_;rw[fu,beq_iff_eq,decide_eq_true_iff];constructor
 ·intro h;exact xN.mp ((h0 _ b.toNat_lt).mp (mT h).1)
 ·intro h;subst h;rfl
def gz(w:bo):Nat:=w.foldl (λ(n:Nat)(c:UInt8)=>10*n+(c.toNat-48)) 0
def apr(w:bo):∀a:Nat,w.foldl (λ(n:Nat)(c:UInt8)=>10*n+(c.toNat-48)) a=a*10^w.length+gz w:=by
 unfold gz;induction w with
 |nil=>intro a;simp
 |cons x r ih=>
  intro a;rw[og,og,ih,ih (10*0+(x.toNat-48)),cG,CQ];rw[PF,PF,Nat.mul_zero,Nat.zero_mul,OG,Pg 10 a,Nat.mul_assoc,Pg 10,Jh]
def YD{r:bo}(hc:49<=c.toNat):10^r.length<=gz (c::r):=by
 have:=apr r (10*0+(c.toNat-48));unfold gz;rw[og,this];have h1:1<=10*0+(c.toNat-48):=by lia
 have:=av7 (10^r.length) h1;lia
def II(h:w.all lS=true):PR (Z.sg w)=gz w:=by have aG:Z.eF w:=λb hb=>Z.QS (uR.mp h b hb);unfold PR gz;rw[Z.QQ aG,List.foldl_map];congr 1;funext n c;rw[Pg]
def IJ(h:w.all lS=true):avG (Z.sg w):=by
 intro c hc;unfold Z.sg at hc;refine ar (kW.mp hc) λb hb bp=>?_;obtain rfl:=bp;have h1:=uR.mp h b hb
 rw[<-Z.DK]at h1;simpa[Z.lY]using h1
def IK(h0:w≠[])(h1:w.all lS=true)(h2:¬(w.head?=some 48/\1<w.length)):sU w=some (gz w):=by unfold sU gz;rw[if_neg (by simp[h0,h1];intro q;simpa usingλz=>h2 ⟨q,z⟩)]
def zu(h:w=[]\/w.all lS=false\/(w.head?=some 48/\1<w.length)):sU w=none:=by unfold sU;rw[if_pos h]
def kQ(neg:Bool)(ds:bo):Option Int:=match sU ds with
 |some n=>if neg=true then(if 0<n/\(n:Int)<=uZ then some (-(n:Int))else none)else(if(n:Int)<uZ then some (n:Int)else none)
 |none=>none
def iN(b:UInt8)(r:bo):bo:=if b=45 then r else b::r
def YE(b:UInt8)(r:bo):z3 (b::r)=kQ (decide (b=45)) (iN b r):=by
 by_cases h:b=45
 ·subst h;unfold kQ iN;rw[if_pos rfl,decide_eq_true rfl];show(match sU r with
   |some n=>if 0<n/\(n:Int)<=uZ then some (-(n:Int))else none
   |none=>none)=_
  cases sU r with
  |none=>simp only[]
  |some n=>simp only[if_true]
 ·unfold kQ iN;rw[decide_eq_false h,if_neg h];unfold z3;split
  ·rename_i r' e;exact absurd (mT e).1 h
  ·rename_i w' e;cases sU (b::r)<;>simp
def N3(neg:Bool):kQ neg []=none:=by unfold kQ;rw[zu (.inl rfl)]
def N4(h:ds.all lS=false):kQ neg ds=none:=by unfold kQ;rw[zu (.inr (.inl h))]
def N5(h:19<ds.length):kQ neg ds=none:=by
 unfold kQ;cases hn:sU ds with
 |none=>rfl
 |some n=>
  have fb:ds.all lS=true:=by
   cases q:ds.all lS with
   |true=>rfl
   |false=>rw[zu (.inr (.inl q))]at hn;cases hn
  have hh:¬(ds.head?=some 48/\1<ds.length):=λq=>by rw[zu (.inr (.inr q))]at hn;cases hn
  cases ds with
  |nil=>simp at h
  |cons c q=>
   have hc:c.toNat≠48:=λe=>hh ⟨by rw[show c=48 from xN.mp e];rfl,by lia⟩;have hd:=(Z.DJ c).mp (uR.mp fb c (by simp));have hv:=YD (c:=c) (r:=q) (by lia);rw[IK (by simp) fb hh]at hn;have Ae:gz (c::q)=n:=eB hn;have hp:10^19<=10^q.length:=sq (by decide) (by simp at h;lia);have aw2:(2:Int)^63<(n:Int):=by lia
   have a1:¬(0<n/\(n:Int)<=uZ):=by unfold uZ;omega
   have a2:¬((n:Int)<uZ):=by unfold uZ;omega
   cases neg with
   |true=>simp only[if_true];rw[if_neg a1]
   |false=>simp only[kX,if_false];rw[if_neg a2]
def YF(h:(48::q:bo).all lS=true):(kQ neg (48::q)).isSome=(!neg&&decide (q=[])):=by
 unfold kQ;cases q with
 |nil=>
  rw[IK (by simp) h (by simp)];have e0:gz [48]=0:=rfl
  rw[e0];cases neg with
  |true=>simp only[if_true];rw[if_neg (by omega)];rfl
  |false=>simp only[kX,if_false];rw[if_pos (by unfold uZ;lia)];rfl
 |cons a r=>
  rw[zu (.inr (.inr ⟨rfl,by simp⟩))];simp
def YG(h:(c::q).all lS=true)(hc:c≠48):kQ neg (c::q)=if neg=true then(if(gz (c::q):Int)<=2^63 then some (-(gz (c::q):Int))else none)else(if(gz (c::q):Int)<2^63 then some (gz (c::q):Int)else none):=by
 have hd:=(Z.DJ c).mp (uR.mp h c (by simp));have kC:c.toNat≠48:=λe=>hc (xN.mp e);have hv:=YD (c:=c) (r:=q) (by lia);have hp:0<10^q.length:=Nat.pow_pos (by decide);unfold kQ;rw[IK (by simp) h (by simp[hc])];simp only[];unfold uZ;cases neg with
 |true=>
  simp only[if_true];by_cases q1:(gz (c::q):Int)<=2^63
  ·rw[if_pos ⟨by lia,q1⟩,if_pos q1]
  ·rw[if_neg (λz=>q1 z.2),if_neg q1]
 |false=>rfl
def aps(b:UInt8)(r:bo):EO (aC (b::r)) (some 1) none=aC r:=by apply TL.vT;show((Z.sg (b::r)).drop (HT.cE (aC (b::r)).length 0 (some ((1:Nat):Int)))).take (HT.cE (aC (b::r)).length (aC (b::r)).length none-HT.cE (aC (b::r)).length 0 (some ((1:Nat):Int)))=Z.sg r;rw[HT.Lb,HT.afy,gw,cG,aaH (by lia)];show(Z.sg r).take (r.length+1-1)=Z.sg r;rw[eX (by rw[Z.pT];lia)]
def apt{z:Int}(bh:w≠[])(h:z3 w=some z):avJ (aC w)=some z/\(aC w).length<=640:=by
 obtain⟨b,r,rfl⟩:∃b r,w=b::r:=by cases w with
  |nil=>exact absurd rfl bh
  |cons b r=>exact⟨b,r,rfl⟩
 rw[YE]at h;have hl:(iN b r).length<=19:=by apply uK;intro q;rw[N5 (by lia)]at h;cases h
 have fb:(iN b r).all lS=true:=by
  cases q:(iN b r).all lS with
  |true=>rfl
  |false=>rw[N4 q]at h;cases h
 have sf:iN b r≠[]:=λq=>by rw[q,N3]at h;cases h
 have hn:sU (iN b r)=some (gz (iN b r)):=by apply IK sf fb;intro q;unfold kQ at h;rw[zu (.inr (.inr q))]at h;cases h
 unfold kQ at h;rw[hn]at h;simp only[]at h;have hlen:(aC (b::r)).length<=640:=by
  rw[gw,cG];unfold iN at hl;split at hl
  ·lia
  ·rw[cG]at hl;lia
 refine⟨?_,hlen⟩;by_cases hb:b=45
 ·subst hb;have ed:iN 45 r=r:=by unfold iN;rw[if_pos rfl]
  rw[ed]at h fb sf;simp only[decide_true,if_true]at h;split at h
  ·cases h;have:=awh (x:=aC (45::r)) (cs:=Z.sg r) rfl (IJ fb) (λq=>sf (Z.Ah.mp q)) (by lia)
   rw[II fb]at this;exact this
  ·cases h
 ·have ed:iN b r=b::r:=by unfold iN;rw[if_neg hb]
  rw[ed]at h fb sf;rw[decide_eq_false hb]at h;simp only[kX,if_false]at h;split at h
  ·cases h;have:=awi (x:=aC (b::r)) (IJ fb) (λq=>sf (Z.Ah.mp q)) (by lia)
   have e:PR (aC (b::r)).cps.toList=gz (b::r):=II fb;rw[e]at this;exact this
  ·cases h
section
variable{P:Program}{w:a9}{K:aV}{mg:Str->Option Value}{A:aO}{base:Heap}
def apu:Sp:=λvs H Q _=>∃(w:bo),vs=[.str (aC w)]/\w≠[]/\w.length<=100000/\∀H',af H H'->Q (.bl (z3 w).isSome) H'
def apv(T:Txt K mg A):aZ P w K mg base bu 1 A.GD A.GF ["word"] (apu):=by
 refine T.Vt.F.bM Wt (λvs H Q E h=>?_) (λaK Ar outer s H vs Q E hr h=>?_)
 ·refine ar h λw bA _=>?_;obtain rfl:=bA;rfl
 ·refine bc h λx bX bh kx=>?_;refine eA kx λhz k=>?_;obtain rfl:=bX;have nd:=Wt.nd
  have hl:=gw x;obtain⟨b,r,rfl⟩:∃b r,x=b::r:=by cases x with
   |nil=>exact absurd rfl bh
   |cons b r=>exact⟨b,r,rfl⟩
  intro X_ D_;refine aq (au (pS nd 1 (LX PySem.F.slot_str_startswith PySem.F.type_str_startswith aiJ (pv 0) bG)) (au (pS nd 2 (p6 (je (pv 1)) (Ld aiV (pv 0) (AM aS) afB) (pv 0))) (au (bx (PW.pt (l6 (bz b_ (cV Li T.dF dQ (pv 2)) aS (bt _)) (pZ (bz oO (cV Li T.dF dQ (pv 2)) (cU rfl T.ak2) (bt _))))) (ax (aQ rq)) bI) (au (bx (vC (je (cV (Sx rfl) T.VO TF (rH rfl nd (EI (pv 2)) (kI (N:=["word","below","digits","sign"]) (sc:=aU Mw) (own:=[("sign",3)]) (by decide+kernel)) (λ_ _ _ _ _=>(pN nd 3)) (λ_ _ _ _ _=>mi) (λ_ _ _ _ _=>(rD LY (pv 3) (ud rfl T.VG) (by with_unfolding_all rfl))))))) (ax (aQ rq)) bI) (au (bx (bz b_ (bK Sh (pv 2) aS (λ_ _=>rfl)) bG (bt _)) (ax (aQ (rD b_ (pv 0) bG (bt _)))) bI) (ax (aQ (RT p_ p_ (cU rfl T.BQ) (qh To T.VM TH (pv 0)) (cU rfl T.ML))))))))) ?_;rw[YE]at k;refine vI rfl ⟨⟨_,rfl⟩,_,_,rfl,rfl,?_⟩;rw[apq];have YH:∀n,n<256->(Z.eC n=48<->n=48):=by decide+kernel
  have vf:(iN b r).length<=100000:=by unfold iN;split<;>simp at hz⊢<;>lia
  refine vI rfl (aq rfl (bW (λhb=>vI rfl (aq rfl (aW _ rfl (by rw[hl];exact g9 (by lia)) ?_))) λhb=>vI rfl ?_))
  ·have fV:b=45:=by simpa using hb
   rw[aps];have ed:iN b r=r:=by unfold iN;rw[if_pos fV]
   rw[ed]at k vf;have hsz:(aC (r)).length<=sizeLine:=by rw[gw];exact g9 (by lia)
   refine vI rfl (d7 _ rfl hsz rfl (aq rfl (bW (λh=>bV ?_) λh=>?_)))
   ·have h0:r=[]:=by have:=V.int.inj (of_decide_eq_true h);rw[gw]at this;exact CU.mp (by lia)
    rw[h0,N3]at k;exact k H (af.refl H)
   have sf:r≠[]:=λq=>h (by apply decide_eq_true;show V.int _=V.int 0;rw[gw,q];rfl);refine vI rfl (aW _ rfl hsz (iI (aq rfl (bW (λh2=>?_) λh2=>?_))))
   ·have N6:19<(r).length:=by have:=of_decide_eq_true h2;rw[gw]at this;lia
    rw[N5 N6]at k;exact k H (af.refl H)
   refine vI rfl (aF (aC (r)) rfl λD hD=>?_);refine EW (x:=aC (r)) (λi H3=>af H H3/\H3 D=some (.lst ((((Z.sg (r)).take i).map Z.lY).map V.bl))) ⟨af.new hD,ag⟩ ?_ ?_
   ·rintro i c H3 hc ⟨s3,bj⟩;have kC:(Z.sg (r))[i]?=some c:=hc
    have xi:c<256:=N2 (cP kC);have iJ:=cN kC;rw[Z.pT]at iJ;refine⟨rfl,vI rfl (aB c _ rfl rfl (d7 _ bj (by rw[aA,aA,fw,Z.pT];exact cI (by lia)) (s3.upd hD) ?_))⟩;rw[ag,ee kC];show some (HO.lst (_++[V.bl (decide (c∈TL.tl ("0123456789":Str)))]))=_;rw[N0 c xi];simp
   rintro H3 ⟨s3,bj⟩;rw[eX (show(Z.sg (r)).length<=(TL.tl (aC (r))).length from aX _)]at bj;have N7:((Z.sg (r)).map Z.lY).all id=(r).all lS:=by unfold Z.sg;rw[kY,Jq];apply congrArg (λf=>(r).all f);funext c;exact Z.DK c
   refine aB D _ rfl (ah.of bj) (aq rfl ?_);rw[N7];cases fb:(r).all lS with
   |false=>
    rw[N4 fb]at k;exact bV (k H3 s3)
   |true=>
    obtain⟨c,q,ec⟩:∃c q,r=c::q:=by cases hq:r with
     |nil=>exact absurd hq sf
     |cons c q=>exact⟨c,q,rfl⟩
    subst ec;refine bS (vI rfl ⟨_,_,Z.eC c.toNat,rfl,rfl,hsz,Eu (show(Z.sg (c::q))[0]?=some (Z.eC c.toNat) from rfl),rfl,aq rfl (bW (λh4=>?_) λh4=>?_)⟩)
    ·have xj:c=48:=by have:=congrArg TL.tl (V.str.inj (of_decide_eq_true h4));exact xN.mp ((YH _ c.toNat_lt).mp (mT this).1)
     subst xj;refine vI rfl ⟨rfl,?_⟩;have:=k H3 s3
     rw[YF fb,decide_eq_true fV,awf,O5]at this;rw[decide_eq_false]
     ·exact this
     ·intro e;have:=congrArg TL.tl (V.str.inj e)
      rw[fV]at this;exact absurd (mT this).1 (by decide)
    ·have xj:c≠48:=λe=>h4 (by subst e;rfl);have hz:=awh (x:=aC (b::c::q)) (cs:=Z.sg (c::q)) (by rw[fV];rfl) (IJ fb) (by simp[Z.sg]) (by rw[gw];simp at h2;rw[gw]at h2;simp at h2⊢;lia);rw[II fb]at hz;have hr:=YG (neg:=decide (b=45)) fb xj;rw[decide_eq_true fV]at hr k;simp only[if_true]at hr;refine vI rfl (cC _ _ rfl hz (by rw[gw];simp at h2;rw[gw]at h2;simp at h2⊢;lia) (iI (aq rfl (bW (λh5=>?_) λh5=>?_))))
     ·refine iI ?_;have wJ:(gz (c::q):Int)<=2^63:=by have:=of_decide_eq_true h5;lia
      rw[hr,if_pos wJ]at k;show Q (V.bl (decide (-(gz (c::q):Int)<=9223372036854775807))) H3;rw[decide_eq_true (by lia)];exact k H3 s3
     ·have wJ:¬(gz (c::q):Int)<=2^63:=λe=>h5 (by apply decide_eq_true;lia);rw[hr,if_neg wJ]at k;exact k H3 s3
  ·have fV:¬b=45:=by simpa using hb
   have ed:iN b r=b::r:=by unfold iN;rw[if_neg fV]
   rw[ed]at k vf;have hsz:(aC (b::r)).length<=sizeLine:=by rw[gw];exact g9 (by omega)
   refine vI rfl (d7 _ rfl hsz rfl (aq rfl (bW (λh=>bV ?_) λh=>?_)))
   ·have h0:b::r=[]:=by have:=V.int.inj (of_decide_eq_true h);rw[gw]at this;exact CU.mp (by lia)
    rw[h0,N3]at k;exact k H (af.refl H)
   have sf:b::r≠[]:=λq=>h (by apply decide_eq_true;show V.int _=V.int 0;rw[gw,q];rfl);refine vI rfl (aW _ rfl hsz (iI (aq rfl (bW (λh2=>?_) λh2=>?_))))
   ·have N6:19<(b::r).length:=by have:=of_decide_eq_true h2;rw[gw]at this;lia
    rw[N5 N6]at k;exact k H (af.refl H)
   refine vI rfl (aF (aC (b::r)) rfl λD hD=>?_);refine EW (x:=aC (b::r)) (λi H3=>af H H3/\H3 D=some (.lst ((((Z.sg (b::r)).take i).map Z.lY).map V.bl))) ⟨af.new hD,ag⟩ ?_ ?_
   ·rintro i c H3 hc ⟨s3,bj⟩;have kC:(Z.sg (b::r))[i]?=some c:=hc
    have xi:c<256:=N2 (cP kC);have iJ:=cN kC;rw[Z.pT]at iJ;refine⟨rfl,vI rfl (aB c _ rfl rfl (d7 _ bj (by rw[aA,aA,fw,Z.pT];exact cI (by lia)) (s3.upd hD) ?_))⟩;rw[ag,ee kC];show some (HO.lst (_++[V.bl (decide (c∈TL.tl ("0123456789":Str)))]))=_;rw[N0 c xi];simp
   rintro H3 ⟨s3,bj⟩;rw[eX (show(Z.sg (b::r)).length<=(TL.tl (aC (b::r))).length from aX _)]at bj;have N7:((Z.sg (b::r)).map Z.lY).all id=(b::r).all lS:=by unfold Z.sg;rw[kY,Jq];apply congrArg (λf=>(b::r).all f);funext c;exact Z.DK c
   refine aB D _ rfl (ah.of bj) (aq rfl ?_);rw[N7];cases fb:(b::r).all lS with
   |false=>
    rw[N4 fb]at k;exact bV (k H3 s3)
   |true=>
    obtain⟨c,q,ec⟩:∃c q,b::r=c::q:=by cases hq:b::r with
     |nil=>exact absurd hq sf
     |cons c q=>exact⟨c,q,rfl⟩
    obtain⟨rfl,rfl⟩:=mT ec;refine bS (vI rfl ⟨_,_,Z.eC b.toNat,rfl,rfl,hsz,Eu (show(Z.sg (b::r))[0]?=some (Z.eC b.toNat) from rfl),rfl,aq rfl (bW (λh4=>?_) λh4=>?_)⟩)
    ·have xj:b=48:=by have:=congrArg TL.tl (V.str.inj (of_decide_eq_true h4));exact xN.mp ((YH _ b.toNat_lt).mp (mT this).1)
     subst xj;refine vI rfl ⟨rfl,?_⟩;have:=k H3 s3
     rw[YF fb,decide_eq_false fV,awg,Jm]at this;have e:decide (V.str (aC (48::r))=V.str "0")=decide (r=[]):=by
      rw[fu,decide_eq_true_iff,decide_eq_true_iff];constructor
      ·intro e;have:=congrArg TL.tl (V.str.inj e)
       exact Z.Ah.mp (mT this).2
      ·intro e;subst e;rfl
     rw[e];exact this
    ·have xj:b≠48:=λe=>h4 (by subst e;rfl);have hz:=awi (x:=aC (b::r)) (IJ fb) (by simp[aC,Z.sg]) (by rw[gw];simp at h2;rw[gw]at h2;simp at h2⊢;lia);have ev:PR (aC (b::r)).cps.toList=gz (b::r):=II fb;rw[ev]at hz;have hr:=YG (neg:=decide (b=45)) fb xj;rw[decide_eq_false fV]at hr k;simp only[kX,if_false]at hr;refine vI rfl (cC _ _ rfl hz (by rw[gw];simp at h2;rw[gw]at h2;simp at h2⊢;lia) (iI (aq rfl (bW (λh5=>?_) λh5=>?_))))
     ·refine iI ?_;by_cases h6:(gz (b::r):Int)<2^63
      ·rw[hr,if_pos h6]at k;show Q (V.bl (decide ((gz (b::r):Int)<=9223372036854775807))) H3;rw[decide_eq_true (by lia)];exact k H3 s3
      ·rw[hr,if_neg h6]at k;show Q (V.bl (decide ((gz (b::r):Int)<=9223372036854775807))) H3;rw[decide_eq_false (by lia)];exact k H3 s3
     ·exact absurd (decide_eq_true (by lia)) h5
end
end
section
def j9:Z.PL->Str
 | .lab _=>"label"| .put _=>"out"| .ret _=>"ret"| .goto _=>"goto"| .get _=>"in"| .copy _ _=>"copy"| .num _ _=>"number"| .cond _ _=>"if"| .op _ _ _ _=>"operate"
def sh:Z.PL->V
 | .get d=> .str (aC d)| .copy d _=> .str (aC d)| .num d _=> .str (aC d)| .op _ d _ _=> .str (aC d)|_=> .aL
def kR:Z.PL->List V
 | .put x=>[.str (aC x)]| .ret x=>[.str (aC x)]| .copy _ a=>[.str (aC a)]| .cond a _=>[.str (aC a)]| .op _ _ a b=>[.str (aC a), .str (aC b)]|_=>[]
def lJ:Z.PL->V
 | .lab l=> .str (aC l)| .goto l=> .str (aC l)| .num _ z=> .int z| .cond _ l=> .str (aC l)| .op k _ _ _=> .str (gK k)|_=> .aL
def N8(A:aO)(H:Hp)(p:Addr)(l:Z.PL):Prop:=∃dx u,H p=some (.ins A.c_ dx (g7 (.str (j9 l)) (sh l) (.ref u) (lJ l)))/\H u=some (.tup (kR l))
structure xk (A:aO) (H:Hp) (Q:VK) (o:Option Z.PL):Prop where
 no:∀H',o=none->af H H'->Q .aL H'
 yes:∀l x H',o=some l->H x=none->af H H'->N8 A H' x l->Q (.ref x) H'
def si{w:bo}{s:String}(h:TL.tl (cY s)=Z.sg (du s))(ok:Z.eF (du s)):decide (V.str (aC w)=V.str (cY s))=decide (w=du s):=by
 rw[fu,decide_eq_true_iff,decide_eq_true_iff];constructor
 ·intro e;exact(jF h ok).mp (V.str.inj e)
 ·intro e;rw[(jF h ok).mpr e]
section
variable{P:Program}{w:a9}{K:aV}{mg:Str->Option Value}{A:aO}{base:Heap}
def YI{H:Hp}{x dxx tu:Addr}{l:Z.PL}(dz:H tu=some (.tup (kR l)))(nx:H x=none)(bO:H dxx=none)(bQ:dxx≠x):af H (upd (upd (upd H dxx (.own x)) x (.ins A.c_ dxx [])) x (.ins A.c_ dxx (g7 (.str (j9 l)) (sh l) (.ref tu) (lJ l))))/\N8 A (upd (upd (upd H dxx (.own x)) x (.ins A.c_ dxx [])) x (.ins A.c_ dxx (g7 (.str (j9 l)) (sh l) (.ref tu) (lJ l)))) x l:=by obtain⟨sA,j7,dH,dZ⟩:=Made.of (C:=A.c_) (fs:=g7 (.str (j9 l)) (sh l) (.ref tu) (lJ l)) (gs:=[]) nx bO bQ;exact k_ sA dH tu dZ (sA _ _ dz)
def apw(A:aO):Sp:=λvs H Q _=>∃(a b:bo),vs=[.str (aC a), .str (aC b)]/\a≠[]/\b≠[]/\a.length<=100000/\b.length<=100000/\xk A H Q (Z.parse [a,b])
def apx(T:Txt K mg A):aZ P w K mg base bu 3 A.Gq A.Gs ["first","second"] (apw A):=by
 refine T.Vp.F.bM Wn (λvs H Q E h=>?_) (λaK Ar outer s H vs Q E hr h=>?_)
 ·refine bZ h λa b bp _=>?_;obtain rfl:=bp;rfl
 ·refine iE h λa b bA ha hb qz c0=>?_;refine eA c0 λpf R=>?_;obtain rfl:=bA;have nd:=Wn.nd
  refine pJ Z.yh λo1 o2 o3 o4 o5 o6 o7=>?_;intro X_ D_;refine aq (au (bx (PW.pt (rA (bz b_ (pv 1) bG (bt _)) (yx (je (bF (uA T) T.rQ hr (ae (pv 0) az)))))) (ax (aQ (gk (mw T) T.Step hr (ae bG (ae dW (ae (oP az) (ae (pv 0) az))))))) bI) (au (bx (vC (je (bF (uA T) T.rQ hr (ae (pv 1) az)))) (ax (aQ dW)) bI) (au (bx (bz b_ (pv 0) bG (bt _)) (ax (aQ (gk (mw T) T.Step hr (ae bG (ae dW (ae (oP az) (ae (pv 1) az))))))) bI) (au (bx (PW.pt (l6 (bz b_ (pv 0) bG (bt _)) (pZ (bz b_ (pv 0) bG (bt _))))) (ax (aQ (gk (mw T) T.Step hr (ae (pv 0) (ae dW (ae (oP (ae (pv 1) az)) (ae dW az))))))) bI) (ax (aQ dW)))))) ?_;have mk:∀(l:Z.PL)(H2:Hp),Z.parse [a,b]=some l->af H H2->∀tu,H2 tu=none->∀x dxx,(upd H2 tu (.tup (kR l))) x=none->(upd H2 tu (.tup (kR l))) dxx=none->dxx≠x->Q (.ref x) (upd (upd (upd (upd H2 tu (.tup (kR l))) dxx (.own x)) x (.ins A.c_ dxx [])) x (.ins A.c_ dxx (g7 (.str (j9 l)) (sh l) (.ref tu) (lJ l)))):=λl H2 hl s2 tu dz x dxx nx bO bQ=>by have st:=af.new (o:= .tup (kR l)) dz;obtain⟨sA,pA⟩:=YI (A:=A) (l:=l) (tu:=tu) ag nx bO bQ;exact R.yes l x _ hl (dY (s2.trans st) nx) ((s2.trans st).trans sA) pA
  refine vI rfl (cg rfl _ rfl ?_);rw[si (s:=":") rfl o7];have p2:=Z.yi a b
  by_cases hc:b=du ":"
  case pos=>
   rw[decide_eq_true hc];refine bV (vI rfl (d7 a rfl ha qz λH2 s2=>aq rfl ?_));cases hn:fh a with
   |true=>
    have e:Z.parse [a,b]=some (.lab a):=by rw[p2,if_pos ⟨hc,hn⟩]
    exact bV ⟨by show 0<=sizeLine;decide,λtu dz=>vI rfl λx dxx nx bO bQ=>jq x dxx _ _ _ _ rfl ag rfl (mk (.lab a) H2 e s2 tu dz x dxx nx bO bQ)⟩
   |false=>
    have YJ:fh b=false:=by rw[hc];decide
    have e:Z.parse [a,b]=none:=by rw[p2,if_neg (λq=>by rw[hn]at q;exact absurd q.2 (by simp)),if_pos YJ]
    refine bS (vI rfl (d7 b rfl hb pf λH3 s3=>aq rfl ?_));rw[YJ];exact bV (R.no H3 e (s2.trans s3))
  rw[decide_eq_false hc];refine bS (bS (vI rfl (d7 b rfl hb pf λH2 s2=>aq rfl ?_)));rw[if_neg (λq=>hc q.1)]at p2;cases hn:fh b with
  |false=>
   rw[if_pos hn]at p2;exact bV (R.no H2 p2 s2)
  |true=>
   rw[if_neg (by rw[hn];simp)]at p2;refine bS (vI rfl (cg rfl _ rfl ?_));rw[si (s:="goto") rfl o3];by_cases h3:a=du "goto"
   ·rw[decide_eq_true h3];rw[if_pos h3]at p2;exact bV ⟨by show 0<=sizeLine;decide,λtu dz=>vI rfl λx dxx nx bO bQ=>jq x dxx _ _ _ _ rfl ag rfl (mk (.goto b) H2 p2 s2 tu dz x dxx nx bO bQ)⟩
   rw[decide_eq_false h3];rw[if_neg h3]at p2;refine bS (vI rfl (cg rfl _ rfl ?_));rw[si (s:="out") rfl o2];by_cases h4:a=du "out"
   ·rw[decide_eq_true h4];rw[if_pos h4]at p2;have ea:aC a="out":=(jF rfl o2).mpr h4
    have m:=λtu dz x dxx nx bO bQ=>mk (.put b) H2 p2 s2 tu dz x dxx nx bO bQ;rw[show j9 (.put b)=aC a from ea.symm]at m;exact bV (bV (vI rfl (vI rfl ⟨by show 1<=sizeLine;decide,λtu dz x dxx nx bO bQ=>jq x dxx _ _ _ _ rfl ag rfl (m tu dz x dxx nx bO bQ)⟩)))
   rw[decide_eq_false h4];rw[if_neg h4]at p2;refine bS (vI rfl (cg rfl _ rfl ?_));rw[si (s:="ret") rfl o5];by_cases h5:a=du "ret"
   ·rw[decide_eq_true h5];rw[if_pos h5]at p2;have ea:aC a="ret":=(jF rfl o5).mpr h5
    have m:=λtu dz x dxx nx bO bQ=>mk (.ret b) H2 p2 s2 tu dz x dxx nx bO bQ;rw[show j9 (.ret b)=aC a from ea.symm]at m;exact bV (vI rfl (vI rfl ⟨by show 1<=sizeLine;decide,λtu dz x dxx nx bO bQ=>jq x dxx _ _ _ _ rfl ag rfl (m tu dz x dxx nx bO bQ)⟩))
   rw[decide_eq_false h5];rw[if_neg h5]at p2;exact bS (R.no H2 p2 s2)
end
end
section
section
variable{P:Program}{w:a9}{K:aV}{mg:Str->Option Value}{A:aO}{base:Heap}
def xk.Cv{H H2:Hp}{Q:VK}{o:Option Z.PL}(R:xk A H Q o)(l:Z.PL)(hl:o=some l)(s2:af H H2){tu:Addr}(dz:H2 tu=none){x dxx:Addr}(nx:(upd H2 tu (.tup (kR l))) x=none)(bO:(upd H2 tu (.tup (kR l))) dxx=none)(bQ:dxx≠x):
  Q (.ref x) (upd (upd (upd (upd H2 tu (.tup (kR l))) dxx (.own x)) x (.ins A.c_ dxx [])) x (.ins A.c_ dxx (g7 (.str (j9 l)) (sh l) (.ref tu) (lJ l)))):=by
 have st:=af.new (o:= .tup (kR l)) dz;obtain⟨sA,pA⟩:=YI (A:=A) (l:=l) (tu:=tu) ag nx bO bQ;exact R.yes l x _ hl (dY (s2.trans st) nx) ((s2.trans st).trans sA) pA
def N9(H:Hp)(a:Addr)(ws:List bo):Prop:=SL H a (ws.map aC)/\∀w∈ws,w≠[]/\w.length<=100000
def apy(A:aO):Sp:=λvs H Q _=>∃(wa:Addr)(i x g y:bo),vs=[.ref wa]/\N9 H wa [i,x,g,y]/\xk A H Q (Z.parse [i,x,g,y])
def apz(T:Txt K mg A):aZ P w K mg base bu 3 A.Gu A.Gw ["words"] (apy A):=by
 refine T.Vq.F.bM Wo (λvs H Q E h=>?_) (λaK Ar outer s H vs Q E hr h=>?_)
 ·refine qY h λwa i x g y bp _=>?_;obtain rfl:=bp;rfl
 ·refine lT h λwa i x g y bA bX R=>?_;obtain rfl:=bA;obtain⟨hw,bh⟩:=bX;have nd:=Wo.nd
  refine pJ Z.yh λo1 o2 o3 o4 o5 o6 o7=>?_;obtain⟨hx0,hxl⟩:=bh x (by simp);obtain⟨xl,qb⟩:=bh y (by simp);intro X_ D_;refine aq (au (bx (PW.pt (rA (bz b_ (bK bU (pv 0) aS (λ_ _=>rfl)) bG (bt _)) (rA (je (bF (uA T) T.rQ hr (ae (bK bU (pv 0) aS (λ_ _=>rfl)) az))) (rA (bz b_ (bK bU (pv 0) aS (λ_ _=>rfl)) bG (bt _)) (yx (je (bF (uA T) T.rQ hr (ae (bK bU (pv 0) aS (λ_ _=>rfl)) az)))))))) (ax (aQ (gk (mw T) T.Step hr (ae bG (ae dW (ae (oP (ae (bK bU (pv 0) aS (λ_ _=>rfl)) az)) (ae (bK bU (pv 0) aS (λ_ _=>rfl)) az))))))) bI) (ax (aQ dW))) ?_;have ep:Z.parse [i,x,g,y]=if i=du "if"/\fh x=true/\g=du "goto"/\fh y=true then some (.cond x y)else none:=rfl
  refine vI rfl (br (.str (aC i)) (ah.of hw) (bw (j:=0) rfl rfl) (cg rfl _ rfl ?_));rw[si (s:="if") rfl o4];by_cases h1:i=du "if"
  case neg=>rw[decide_eq_false h1];exact bS (bS (R.no H (by rw[ep,if_neg (λq=>h1 q.1)]) (af.refl H)))
  rw[decide_eq_true h1];refine bV (vI rfl (br (.str (aC x)) (ah.of hw) (bw (j:=1) rfl rfl) (d7 x rfl hx0 hxl λH2 s2=>aq rfl ?_)));have lE:=s2 _ _ hw
  cases h2:fh x with
  |false=>exact bS (bS (R.no H2 (by rw[ep,if_neg (λq=>by rw[h2]at q;exact absurd q.2.1 (by simp))]) s2))
  |true=>
   refine bV (vI rfl (br (.str (aC g)) (ah.of lE) (bw (j:=2) rfl rfl) (cg rfl _ rfl ?_)));rw[si (s:="goto") rfl o3];by_cases h3:g=du "goto"
   case neg=>rw[decide_eq_false h3];exact bS (bS (R.no H2 (by rw[ep,if_neg (λq=>h3 q.2.2.1)]) s2))
   rw[decide_eq_true h3];refine bV (vI rfl (br (.str (aC y)) (ah.of lE) (bw (j:=3) rfl rfl) (d7 y rfl xl qb λH3 s3=>aq rfl ?_)));have xm:=s3 _ _ lE
   have uB:=s2.trans s3;cases h4:fh y with
   |false=>exact bS (R.no H3 (by rw[ep,if_neg (λq=>by rw[h4]at q;exact absurd q.2.2.2 (by simp))]) uB)
   |true=>
    refine bV (vI rfl (br (.str (aC x)) (ah.of xm) (bw (j:=1) rfl rfl) ⟨by show 1<=sizeLine;decide,λtu dz=>?_⟩));have uk:=af.new (o:= .tup [V.str (aC x)]) dz _ _ xm
    exact vI rfl (br (.str (aC y)) (ah.of uk) (bw (j:=3) rfl rfl) λz xn nz xo nE=>jq z xn _ _ _ _ rfl ag rfl (R.Cv (.cond x y) (by rw[ep,if_pos ⟨h1,h2,h3,h4⟩]) uB dz nz xo nE))
def apC(A:aO):Sp:=λvs H Q _=>∃(x e y:bo),vs=[.str (aC x), .str (aC y)]/\y≠[]/\y.length<=100000/\e=du "="/\fh x=true/\xk A H Q (Z.parse [x,e,y])
def apD(T:Txt K mg A):aZ P w K mg base bu 3 A.Gx A.Gy ["given","word"] (apC A):=by
 refine T.Vr.F.bM Wq (λvs H Q E h=>?_) (λaK Ar outer s H vs Q E hr h=>?_)
 ·refine gb h λx e y cA _=>?_;obtain rfl:=cA;rfl
 ·refine bR h λx e y di xl Cw=>?_;refine fz Cw λqb he hx R=>?_;obtain rfl:=di;have nd:=Wq.nd
  refine pJ Z.yh λo1 o2 o3 o4 o5 o6 o7=>?_;intro X_ D_;refine aq (au (bx (bz b_ (pv 1) bG (bt _)) (ax (aQ (gk (mw T) T.Step hr (ae bG (ae (pv 0) (ae (oP az) (ae dW az))))))) bI) (au (bx (je (bF (uA T) T.rQ hr (ae (pv 1) az))) (ax (aQ (gk (mw T) T.Step hr (ae bG (ae (pv 0) (ae (oP (ae (pv 1) az)) (ae dW az))))))) bI) (au (bx (je (bF (apv T) T.Vt hr (ae (pv 1) az))) (ax (aQ (gk (mw T) T.Step hr (ae bG (ae (pv 0) (ae (oP az) (ae (qh To T.VM TH (pv 1)) az))))))) bI) (ax (aQ dW))))) ?_;have ep:Z.parse [x,e,y]=if y=du "in" then some (Z.PL.get x)else if fh y=true then some (Z.PL.copy x y)else(z3 y).map (Z.PL.num x):=by show(if e≠du "="\/fh x=false then none else if y=du "in" then some (Z.PL.get x)else if fh y=true then some (Z.PL.copy x y)else(z3 y).map (Z.PL.num x))=_;rw[if_neg (by simp[he,hx])]
  refine vI rfl (cg rfl _ rfl ?_);rw[si (s:="in") rfl o1];by_cases h1:y=du "in"
  ·rw[decide_eq_true h1];rw[if_pos h1]at ep;exact bV (vI rfl ⟨by show 0<=sizeLine;decide,λtu dz z xn nz xo nE=>jq z xn _ _ _ _ rfl ag rfl (R.Cv (.get x) ep (af.refl H) dz nz xo nE)⟩)
  rw[decide_eq_false h1];rw[if_neg h1]at ep;refine bS (vI rfl (d7 y rfl xl qb λH2 s2=>aq rfl ?_));cases h2:fh y with
  |true=>
   rw[if_pos h2]at ep;exact bV (vI rfl (vI rfl ⟨by show 1<=sizeLine;decide,λtu dz z xn nz xo nE=>jq z xn _ _ _ _ rfl ag rfl (R.Cv (.copy x y) ep s2 dz nz xo nE)⟩))
  |false=>
   rw[if_neg (by rw[h2];simp)]at ep;refine bS (vI rfl (d7 y rfl xl qb λH3 s3=>aq rfl ?_));have uB:=s2.trans s3
   cases h3:z3 y with
   |none=>
    rw[h3]at ep;exact bS (R.no H3 ep uB)
   |some z0=>
    rw[h3]at ep;obtain⟨i1,i2⟩:=apt xl h3;exact bV (vI rfl ⟨by show 0<=sizeLine;decide,λtu dz=>vI rfl (cC _ _ rfl i1 i2 λz xn nz xo nE=>jq z xn _ _ _ _ rfl ag rfl (R.Cv (.num x z0) ep uB dz nz xo nE))⟩)
end
end
section
variable{o:bo}
def N_:∀{k:Nat},k<12->(aC o=gK k<->o=du (PQ.getD k "")):=by
 intro k h
 match k,h with
 |0,_=>exact jF (s:="+") rfl (by unfold Z.eF;decide)
 |1,_=>exact jF (s:="-") rfl (by unfold Z.eF;decide)
 |2,_=>exact jF (s:="*") rfl (by unfold Z.eF;decide)
 |3,_=>exact jF (s:="/") rfl (by unfold Z.eF;decide)
 |4,_=>
  constructor
  ·intro e;have e:=congrArg TL.tl e
   rw[xh]at e;have e:Z.sg o=[64]:=e
   cases o with
   |nil=>cases e
   |cons b t=>
    have h1:=Z.abO b.toNat b.toNat_lt (mT e).1;have h2:t=[]:=Z.Ah.mp (mT e).2;rw[show b=37 from xN.mp h1,h2];rfl
  ·intro e;subst e;exact TL.vT rfl
 |5,_=>exact jF (s:="&") rfl (by unfold Z.eF;decide)
 |6,_=>exact jF (s:="|") rfl (by unfold Z.eF;decide)
 |7,_=>exact jF (s:="^") rfl (by unfold Z.eF;decide)
 |8,_=>exact jF (s:="<<") rfl (by unfold Z.eF;decide)
 |9,_=>exact jF (s:=">>") rfl (by unfold Z.eF;decide)
 |10,_=>exact jF (s:="<") rfl (by unfold Z.eF;decide)
 |11,_=>exact jF (s:="==") rfl (by unfold Z.eF;decide)
def opc{k:Nat}(h:k<12):decide ((aJ (gK k):aT)=aJ (aC o))=(du (PQ.getD k "")==o):=by
 rw[fu,decide_eq_true_iff,beq_iff_eq];constructor
 ·intro e;exact((N_ h).mp (Jt e).symm).symm
 ·intro e;rw[(N_ h).mpr e.symm]
def apF(A:aO)(o:bo):(lQ (lH A) (aJ (aC o))).isSome=(Z.oC o).isSome:=by
 have e1:(lQ (lH A) (aJ (aC o))).isSome=(lH A).any λkv=>decide (kv.1=aJ (aC o)):=by unfold lQ;rw[Pm,fu,List.find?_isSome,ON]
 have e2:(Z.oC o).isSome=PQ.any λs=>du s==o:=by unfold Z.oC;rw[List.findIdx?_isSome]
 rw[e1,e2];have c:=λk h=>opc (o:=o) (k:=k) h
 show(decide ((aJ (gK 0):aT)=aJ (aC o))||(decide ((aJ (gK 1):aT)=aJ (aC o))||(decide ((aJ (gK 2):aT)=aJ (aC o))||(decide ((aJ (gK 3):aT)=aJ (aC o))||(decide ((aJ (gK 4):aT)=aJ (aC o))||(decide ((aJ (gK 5):aT)=aJ (aC o))||(decide ((aJ (gK 6):aT)=aJ (aC o))||(decide ((aJ (gK 7):aT)=aJ (aC o))||(decide ((aJ (gK 8):aT)=aJ (aC o))||(decide ((aJ (gK 9):aT)=aJ (aC o))||(decide ((aJ (gK 10):aT)=aJ (aC o))||(decide ((aJ (gK 11):aT)=aJ (aC o))||false))))))))))))=_;rw[c 0 (by decide),c 1 (by decide),c 2 (by decide),c 3 (by decide),c 4 (by decide),c 5 (by decide),c 6 (by decide),c 7 (by decide),c 8 (by decide),c 9 (by decide),c 10 (by decide),c 11 (by decide)];rfl
def apG{k:Nat}(h:Z.oC o=some k):aC o=gK k:=by have hk:=Z.QY h;refine(N_ hk).mpr ?_;unfold Z.oC at h;rw[OO]at h;obtain⟨hl,h1,_⟩:=h;have:=eq_of_beq h1;rw[<-this,ef,mN hl];rfl
section
variable{P:Program}{w:a9}{K:aV}{mg:Str->Option Value}{A:aO}{base:Heap}
def apH(A:aO):Sp:=λvs H Q _=>∃(wa:Addr)(x e y o z:bo),vs=[.ref wa]/\N9 H wa [x,e,y,o,z]/\e=du "="/\fh x=true/\xk A H Q (Z.parse [x,e,y,o,z])
def apJ(T:Txt K mg A)(OD:lA P w K A.lC (lH A)):aZ P w K mg base bu 3 A.Gz A.GA ["words"] (apH A):=by
 refine T.Vs.F.bM Wr (λvs H Q E h=>?_) (λaK Ar outer s H vs Q E hr h=>?_)
 ·refine sY h λwa x e y o z bp _=>?_;obtain rfl:=bp;rfl
 ·refine sY h λwa x e y o z bA kx=>?_;refine fz kx λbX he hx R=>?_;obtain rfl:=bA;obtain⟨hw,bh⟩:=bX;have nd:=Wr.nd
  obtain⟨xl,qb⟩:=bh y (by simp);obtain⟨hz0,qg⟩:=bh z (by simp);intro X_ D_;refine aq (au (bx (PW.pt (rA (je (bF (uA T) T.rQ hr (ae (bK bU (pv 0) aS (λ_ _=>rfl)) az))) (rA (iV (ajv OD (bK bU (pv 0) aS (λ_ _=>rfl)) (Bo rfl T.VJ))) (yx (je (bF (uA T) T.rQ hr (ae (bK bU (pv 0) aS (λ_ _=>rfl)) az))))))) (ax (aQ (gk (mw T) T.Step hr (ae bG (ae (bK bU (pv 0) aS (λ_ _=>rfl)) (ae (oP (ae (bK bU (pv 0) aS (λ_ _=>rfl)) (ae (bK bU (pv 0) aS (λ_ _=>rfl)) az))) (ae (bK bU (pv 0) aS (λ_ _=>rfl)) az))))))) bI) (ax (aQ dW))) ?_;have ep:Z.parse [x,e,y,o,z]=if fh y=false then none else match Z.oC o with
    |none=>none
    |some k=>if fh z=false then none else some (Z.PL.op k x y z):=by
   show(if e≠du "="\/fh x=false then none else _)=_;rw[if_neg (by simp[he,hx])]<;>rfl
  refine vI rfl (br (.str (aC y)) (ah.of hw) (bw (j:=2) rfl rfl) (d7 y rfl xl qb λH2 s2=>aq rfl ?_));have lE:=s2 _ _ hw
  cases h1:fh y with
  |false=>exact bS (bS (R.no H2 (by rw[ep,if_pos h1]) s2))
  |true=>
   rw[if_neg (by rw[h1];simp)]at ep;refine bV (vI rfl (br (.str (aC o)) (ah.of lE) (bw (j:=3) rfl rfl) (aW (aJ (aC o)) rfl rfl (aq rfl ?_))));rw[apF];cases h2:Z.oC o with
   |none=>
    rw[h2]at ep;exact bS (bS (R.no H2 ep s2))
   |some k=>
    rw[h2]at ep;simp only[]at ep;refine bV (vI rfl (br (.str (aC z)) (ah.of lE) (bw (j:=4) rfl rfl) (d7 z rfl hz0 qg λH3 s3=>aq rfl ?_)));have xm:=s3 _ _ lE
    have uB:=s2.trans s3;cases h3:fh z with
    |false=>exact bS (R.no H3 (by rw[ep,if_pos h3]) uB)
    |true=>
     rw[if_neg (by rw[h3];simp)]at ep;refine bV (vI rfl (br (.str (aC x)) (ah.of xm) (bw (j:=0) rfl rfl) (vI rfl (br (.str (aC y)) (ah.of xm) (bw (j:=2) rfl rfl) (vI rfl (br (.str (aC z)) (ah.of xm) (bw (j:=4) rfl rfl) ⟨by show 2<=sizeLine;decide,λtu dz=>?_⟩))))));have uk:=af.new (o:= .tup [V.str (aC y),V.str (aC z)]) dz _ _ xm
     have m:=λv IM nv Oa Ob=>R.Cv (x:=v) (dxx:=IM) (.op k x y z) ep uB dz nv Oa Ob;rw[show lJ (.op k x y z)=V.str (aC o) by rw[apG h2];rfl]at m;exact vI rfl (br (.str (aC o)) (ah.of uk) (bw (j:=3) rfl rfl) λv IM nv Oa Ob=>jq v IM _ _ _ _ rfl ag rfl (m v IM nv Oa Ob))
end
end
section
section
variable{P:Program}{w:a9}{K:aV}{mg:Str->Option Value}{A:aO}{base:Heap}
def apL(A:aO):Sp:=λvs H Q _=>∃(wa:Addr)(ws:List bo),vs=[.ref wa]/\N9 H wa ws/\xk A H Q (Z.parse ws)
def apM(T:Txt K mg A)(OD:lA P w K A.lC (lH A)):aZ P w K mg base bu 4 A.Gn A.Gp ["words"] (apL A):=by
 refine T.Vo.F.bM Wm (λvs H Q E h=>?_) (λaK Ar outer s H vs Q E hr h=>?_)
 ·refine bZ h λwa ws bp _=>?_;obtain rfl:=bp;rfl
 ·refine bb h λwa ws bA hW R=>?_;obtain rfl:=bA;have nd:=Wm.nd
  refine pJ Z.yh λo1 o2 o3 o4 o5 o6 o7=>?_;obtain⟨hw,bh⟩:=id hW;intro X_ D_;refine aq (au (pS nd 1 (cV fD T.dF dQ (pv 0))) (au (bx (bz b_ (pv 1) aS (bt _)) (ax (aQ (bF (apx T) T.Vp hr (ae (bK bU (pv 0) aS (λ_ _=>rfl)) (ae (bK bU (pv 0) aS (λ_ _=>rfl)) az))))) bI) (au (bx (bz b_ (pv 1) aS (bt _)) (ax (aQ (bF (apz T) T.Vq hr (ae (pv 0) az)))) bI) (au (bx (PW.pt (l6 (bz tT (pv 1) aS (bt _)) (l6 (bz vG (bK bU (pv 0) aS (λ_ _=>rfl)) bG (bt _)) (pZ (vC (je (bF (uA T) T.rQ hr (ae (bK bU (pv 0) aS (λ_ _=>rfl)) az)))))))) (ax (aQ dW)) bI) (au (bx (bz b_ (pv 1) aS (bt _)) (ax (aQ (bF (apD T) T.Vr hr (ae (bK bU (pv 0) aS (λ_ _=>rfl)) (ae (bK bU (pv 0) aS (λ_ _=>rfl)) az))))) bI) (au (bx (bz b_ (pv 1) aS (bt _)) (ax (aQ (bF (apJ T OD) T.Vs hr (ae (pv 0) az)))) bI) (ax (aQ dW)))))))) ?_;refine vI rfl (aB wa _ rfl (.inl (ah.of hw)) ?_)
  match ws,hW,hw,bh,R with
  |[],hW,hw,bh,R=>exact vI rfl (aE rfl (vI rfl (aE rfl (vI rfl (iI (jg (bV (R.no H rfl (af.refl H)))))))))
  |[a],hW,hw,bh,R=>exact vI rfl (aE rfl (vI rfl (aE rfl (vI rfl (iI (jg (bV (R.no H rfl (af.refl H)))))))))
  |[a,b],hW,hw,bh,R=>
   obtain⟨xp,qz⟩:=bh a (by simp);obtain⟨Oc,pf⟩:=bh b (by simp);exact vI rfl (dP rfl (vI rfl (br (.str (aC a)) (ah.of hw) (bw (j:=0) rfl rfl) (vI rfl (br (.str (aC b)) (ah.of hw) (bw (j:=1) rfl rfl) ⟨a,b,rfl,xp,Oc,qz,pf,R.no,R.yes⟩)))))
  |[a,b,c,d],hW,hw,bh,R=>
   exact vI rfl (aE rfl (vI rfl (dP rfl (vI rfl ⟨wa,a,b,c,d,rfl,hW,R.no,R.yes⟩))))
  |[a,b,c],hW,hw,bh,R=>
   obtain⟨xp,qz⟩:=bh a (by simp);obtain⟨hc0,oS⟩:=bh c (by simp);refine vI rfl (aE rfl (vI rfl (aE rfl (vI rfl (iI (jC (vI rfl (br (.str (aC b)) (ah.of hw) (bw (j:=1) rfl rfl) (cg rfl _ rfl ?_)))))))));rw[si (s:="=") rfl o6];by_cases h1:b=du "="
   case neg=>
    rw[decide_eq_false h1];have e:Z.parse [a,b,c]=none:=by show(if b≠du "="\/fh a=false then none else _)=_;rw[if_pos (.inl h1)]
    exact bV (bV (R.no H e (af.refl H)))
   rw[decide_eq_true h1];refine bS (vI rfl (br (.str (aC a)) (ah.of hw) (bw (j:=0) rfl rfl) (d7 a rfl xp qz λH2 s2=>aq rfl ?_)));have lE:=s2 _ _ hw
   cases h2:fh a with
   |false=>
    have e:Z.parse [a,b,c]=none:=by show(if b≠du "="\/fh a=false then none else _)=_;rw[if_pos (.inr h2)]
    exact bV (R.no H2 e s2)
   |true=>
    refine bS (vI rfl (dP rfl (vI rfl (br (.str (aC a)) (ah.of lE) (bw (j:=0) rfl rfl) (vI rfl (br (.str (aC c)) (ah.of lE) (bw (j:=2) rfl rfl) ⟨a,b,c,rfl,hc0,oS,h1,h2,λH' e s=>R.no H' e (s2.trans s),λl x H' e hx s p=>R.yes l x H' e (dY s2 hx) (s2.trans s) p⟩))))))
  |[a,b,c,d,f],hW,hw,bh,R=>
   obtain⟨xp,qz⟩:=bh a (by simp);refine vI rfl (aE rfl (vI rfl (aE rfl (vI rfl (iI (jC (vI rfl (br (.str (aC b)) (ah.of hw) (bw (j:=1) rfl rfl) (cg rfl _ rfl ?_)))))))));rw[si (s:="=") rfl o6];by_cases h1:b=du "="
   case neg=>
    rw[decide_eq_false h1];have e:Z.parse [a,b,c,d,f]=none:=by show(if b≠du "="\/fh a=false then none else _)=_;rw[if_pos (.inl h1)]
    exact bV (bV (R.no H e (af.refl H)))
   rw[decide_eq_true h1];refine bS (vI rfl (br (.str (aC a)) (ah.of hw) (bw (j:=0) rfl rfl) (d7 a rfl xp qz λH2 s2=>aq rfl ?_)));have lE:=s2 _ _ hw
   cases h2:fh a with
   |false=>
    have e:Z.parse [a,b,c,d,f]=none:=by show(if b≠du "="\/fh a=false then none else _)=_;rw[if_pos (.inr h2)]
    exact bV (R.no H2 e s2)
   |true=>
    refine bS (vI rfl (aE rfl (vI rfl (dP rfl (vI rfl (kl wa a b c d f rfl ⟨lE,bh⟩ h1 h2 ⟨λH' e s=>R.no H' e (s2.trans s),λl x H' e hx s p=>R.yes l x H' e (dY s2 hx) (s2.trans s) p⟩))))))
  |a::b::c::d::f::g::r,hW,hw,bh,R=>
   obtain⟨xp,qz⟩:=bh a (by simp);have hlen:∀n:Nat,n<6->¬decide (V.int ((((a::b::c::d::f::g::r).map aC).map V.str).length:Nat)=V.int (n:Int))=true:=λn hn q=>by have:=V.int.inj (of_decide_eq_true q);simp at this;lia
   have e:Z.parse (a::b::c::d::f::g::r)=none:=rfl;refine vI rfl (cg rfl _ rfl (bW (λq=>absurd q (hlen 2 (by decide))) λ_=>vI rfl (cg rfl _ rfl (bW (λq=>absurd q (hlen 4 (by decide))) λ_=>vI rfl (iI (aq rfl (bW (λq=>?_) λ_=>vI rfl (br (.str (aC b)) (ah.of hw) (bw (j:=1) rfl rfl) (cg rfl _ rfl (bW (λ_=>bV (R.no H e (af.refl H))) λ_=>vI rfl (br (.str (aC a)) (ah.of hw) (bw (j:=0) rfl rfl) (d7 a rfl xp qz λH2 s2=>aq rfl (bW (λ_=>R.no H2 e s2) λ_=>vI rfl (cg rfl _ rfl (bW (λq=>absurd q (hlen 3 (by decide))) λ_=>vI rfl (cg rfl _ rfl (bW (λq=>absurd q (hlen 5 (by decide))) λ_=>R.no H2 e s2)))))))))))))))));have:=of_decide_eq_true q;simp at this;omega
end
end
section
variable{w:bo}
def nX:List bo->Nat->List (aT×V)
 |[],_=>[]
 |v::r,n=>(aJ (aC v),nI n)::nX r (n+1)
def gM(vs:List bo):List (aT×V):=nX vs 0
theorem IP:∀(vs:List bo)(n:Nat),(nX vs n).length=vs.length
 |[],_=>rfl
 |_::r,n=>by unfold nX;rw[cG,IP r (n+1),cG]
theorem YK(w:bo):∀(vs:List bo)(n:Nat),nX (vs++[w]) n=nX vs n++[(aJ (aC w),nI (n+vs.length))]
 |[],n=>rfl
 |v::r,n=>by
  show(aJ (aC v),nI n)::nX (r++[w]) (n+1)=_;rw[YK w r (n+1)];have:n+1+r.length=n+(v::r).length:=by rw[cG];lia
  rw[this];rfl
def YL{v:bo}(hw:Z.eF w)(h:aC v=aC w):v=w:=Z.rf hw (by have:=congrArg TL.tl h;exact this)
theorem YM{w:bo}(hw:Z.eF w):∀(vs:List bo)(n:Nat),cx (nX vs n) (aJ (aC w):aT)=(vs.findIdx? λx=>x==w).map λk=>nI (n+k)
 |[],_=>rfl
 |v::r,n=>by
  unfold nX;rw[av9];by_cases e:v=w
  ·subst e;rw[jZ rfl];simp
  ·rw[jB (λq=>e (YL hw (Jt q))),YM hw r (n+1)];have e2:(v==w)=false:=by simpa using e
   rw[e2];simp only[kX,if_false,Option.map_map];congr 1;funext k;show nI (n+1+k)=nI (n+(k+1));rw[show n+1+k=n+(k+1) by lia]
def Od(hw:Z.eF w)(vs:List bo):cx (gM vs) (aJ (aC w):aT)=(vs.findIdx? λx=>x==w).map nI:=by unfold gM;rw[YM hw];congr 1;funext k;rw[OG]
section
variable{P:Program}{w:a9}{K:aV}{mg:Str->Option Value}{A:aO}{base:Heap}
def apO(A:aO):Sp:=λvs H Q _=>∃(rd dx vd:Addr)(a0 a1:V)(vars:List bo)(x:bo),vs=[.ref rd, .str (aC x)]/\H rd=some (.ins A.o9 dx (MO a0 a1 (.ref vd)))/\H vd=some (.dK (gM vars))/\Z.eF x/\vars.length<=1000/\
 ∀H',(∀b o,b≠vd->H b=some o->H' b=some o)->(∀b,b≠vd->H b=none->H' b=none)->H' vd=some (.dK (gM (f_ vars x).1))->Q (nI (f_ vars x).2) H'
def YN(T:Txt K mg A):aZ P w K mg base bu 1 A.Gk A.Gm ["reader","name"] (apO A):=by
 refine T.numbered.F.bM Wk (λvs H Q E h=>?_) (λaK Ar outer s H vs Q E hr h=>?_)
 ·refine oy h λrd dx vd a0 a1 vars x bp _=>?_;obtain rfl:=bp;rfl
 ·refine oy h λrd dx vd a0 a1 vars x bA c0=>?_;refine fi c0 λhR hV aG hl k=>?_;obtain rfl:=bA;have nd:=Wk.nd
  intro X_ D_;refine aq (ax (aQ (Tx (aD (pv 0) rfl) (pv 1) (cV Bm T.dF dQ (aD (pv 0) rfl)) ⟨rfl,rfl,rfl,rfl⟩))) ?_;have hlen:(gM vars).length=vars.length:=IP vars 0
  refine ai rfl hR T.Reader.c T.y4 rfl (aW vd rfl (.inl ⟨_, .inl hV⟩) (vI rfl (ai rfl hR T.Reader.c T.y4 rfl (aB vd _ rfl hV (gU _ (aJ (aC x)) hV rfl (by rw[hlen];exact cI (by lia)) (λv hv=>?_) λhv=>?_)))))
  ·rw[Od aG]at hv;cases hf:vars.findIdx? λy=>y==x with
   |none=>rw[hf]at hv;cases hv
   |some i=>
    rw[hf]at hv;cases hv;obtain⟨e,_⟩:=Z.QV hf;rw[e]at k;exact k H (λ_ _ _ h=>h) (λ_ _ h=>h) hV
  ·rw[Od aG]at hv;have h_:x∉vars:=λhm=>by obtain⟨i,hi⟩:=Z.QX hm;rw[hi]at hv;cases hv
   rw[Z.QW h_]at k;have gf:cx (gM vars) (aJ (aC x):aT)=none:=by rw[Od aG];exact hv
   rw[hlen];refine k _ (λb o hb h=>by rw[aj hb];exact h) (λb hb h=>by rw[aj hb];exact h) ?_;rw[ag,A8 _ gf];show _=some (HO.dK (nX (vars++[x]) 0));rw[YK,OG];rfl
end
end
section
section
variable{P:Program}{w:a9}{K:aV}{mg:Str->Option Value}{A:aO}{base:Heap}
structure apP (A:aO) (H:Hp) (p dx sl ld vd:Addr) (H':Hp):Prop where
 fr:∀b o,b≠p->H b=some o->H' b=some o
 ns:H sl=none
 nl:H ld=none
 nv:H vd=none
 sp:sl≠p
 lp:ld≠p
 vp:vd≠p
 sl_:sl≠ld
 sv:sl≠vd
 lv:ld≠vd
 at_:H' p=some (.ins A.o9 dx (MO (.ref sl) (.ref ld) (.ref vd)))
 s0:H' sl=some (.lst [])
 l0:H' ld=some (.dK [])
 v0:H' vd=some (.dK [])
def apQ(A:aO):Sp:=λvs H Q _=>∃(p dx:Addr),vs=[.ref p]/\H p=some (.ins A.o9 dx [])/\∀sl ld vd H',apP A H p dx sl ld vd H'->Q .aL H'
def apR(T:Txt K mg A):aZ P w K mg base bu 1 A.Hy A.Hz ["self"] (apQ A):=by
 refine T.Reader.F.bM alE (λvs H Q E h=>?_) (λaK Ar outer s H vs Q E hr h=>?_)
 ·refine bZ h λp dx bp _=>?_;obtain rfl:=bp;rfl
 ·refine bb h λp dx bA hp k=>?_;obtain rfl:=bA;intro X_ D_;refine aq (au (fj (pv 0) (cK az) rfl) (au (fj (pv 0) vP rfl) (ax (fj (pv 0) vP rfl)))) ?_;refine⟨by show 0<=sizeLine;decide,λsl j_=>?_⟩;have n1:sl≠p:=(bL hp j_).symm
  refine vI rfl (cO p _ dx _ rfl (by rw[aj n1.symm];exact hp) T.Reader.c T.wC (by show 0<1000;decide) ?_);refineλld qE=>?_;have n2:ld≠p:=λe=>by subst e;rw[ag]at qE;cases qE
  rw[aj n2]at qE;have n3:ld≠sl:=λe=>by subst e;rw[ag]at qE;cases qE
  rw[aj n3]at qE;refine vI rfl (cO p _ dx _ rfl (by rw[aj n2.symm];exact ag) T.Reader.c T.BM (by show 1<1000;decide) ?_);refineλvd pC=>?_;have n4:vd≠p:=λe=>by subst e;rw[ag]at pC;cases pC
  rw[aj n4]at pC;have n5:vd≠ld:=λe=>by subst e;rw[ag]at pC;cases pC
  rw[aj n5,aj n4]at pC;have n6:vd≠sl:=λe=>by subst e;rw[ag]at pC;cases pC
  rw[aj n6]at pC;refine vI rfl (cO p _ dx _ rfl (by rw[aj n4.symm];exact ag) T.Reader.c T.y4 (by show 2<1000;decide) ?_);refine k sl ld vd _ ⟨λb o hb hq=>?_,j_,qE,pC,n1,n2,n4,n3.symm,n6.symm,n5.symm,ag,?_,?_,?_⟩
  ·rw[aj hb,aj (bL hq pC),aj hb,aj (bL hq qE),aj hb,aj (bL hq j_)];exact hq
  ·rw[aj n1,aj n6.symm,aj n1,aj n3.symm,aj n1,ag]
  ·rw[aj n2,aj n5.symm,aj n2,ag]
  ·rw[aj n4,ag]
end
end
section
variable{ls t:List bo}{V0:Nat}{i:ck}{c:d6}
def cp(ls:List bo):Nat->Str:=λl=>aC (ls.getD l [])
def Oe{l:Nat}(h:l<ls.length):cp (ls++t) l=cp ls l:=by unfold cp;rw[ef,qS h,<-ef]
def apS(h:Z.jR V0 ls.length i):o_ (cp (ls++t)) i=o_ (cp ls) i:=by
 cases i with
 |goto l=>show V.str (cp (ls++t) l)=V.str (cp ls l);rw[Oe h]
 |cond a l=>show V.str (cp (ls++t) l)=V.str (cp ls l);rw[Oe h.2]
 |_=>rfl
def dG.ext{A:aO}{H:Hp}{sl:Addr}{I:List ck}(h:dG A H (cp ls) sl I)(ok:∀i∈I,Z.jR V0 ls.length i):dG A H (cp (ls++t)) sl I:=by refine bc h λps h1 h2 h3=>?_;refine aW ps h1 h2 λj p i hp hi=>?_;refine bZ (h3 j p i hp hi) λdx u q1 q2=>?_;exact cD dx u (by rw[apS (ok i (cP hi))];exact q1) q2
theorem IQ{l:Nat}:∀{c d:d6},l∈Z.aN c->bN (c++d) l=bN c l
 |[],d,h=>by simp[Z.aN]at h
 | .label m::r,d,h=>by
   rw[n_,Z.mV,Z.mV];by_cases e:m=l
   ·rw[if_pos e,if_pos e]
   ·rw[if_neg e,if_neg e];have h':l∈m::Z.aN r:=h
    rcases cu.mp h' with q|q
    ·exact absurd q.symm e
    ·exact IQ q
 | .ins i::r,d,h=>by
   rw[n_,Z.pO,Z.pO,IQ (show l∈Z.aN r from h)]
theorem Of{l:Nat}:∀{c:d6},l∉Z.aN c->bN (c++[.label l]) l=(aH c).length
 |[],_=>by simp[Z.mV,aH]
 | .label m::r,h=>by
   have h':l∉m::Z.aN r:=h;rw[cu,not_or]at h';rw[n_,Z.mV,if_neg (λe=>h'.1 e.symm),Z.pL];exact Of h'.2
 | .ins i::r,h=>by
   rw[n_,Z.pO,Z.jt,cG,Of (show l∉Z.aN r from h)]
def YO{lab:Nat->Str}:c8 lab (c++[.ins i])=c8 lab c:=by
 unfold c8;have e:Z.aN (c++[.ins i])=Z.aN c:=by rw[Z.tw];simp[Z.aN]
 rw[e];apply ke;intro l hl;rw[IQ hl]
def apT{lab:Nat->Str}{k:Nat}(h:k∉Z.aN c):c8 lab (c++[.label k])=c8 lab c++[(aJ (lab k),nI (aH c).length)]:=by
 unfold c8;have e:Z.aN (c++[.label k])=Z.aN c++[k]:=by rw[Z.tw];simp[Z.aN]
 rw[e,gA,cM,jH,Of h];congr 1;apply ke;intro l hl;rw[IQ hl]
def Og(h:∀l∈Z.aN c,l<ls.length):c8 (cp (ls++t)) c=c8 (cp ls) c:=by unfold c8;apply ke;intro l hl;rw[Oe (h l hl)]
end
section
variable{x:bo}{r:jn}
def xq{ls:List bo}{l:Nat}(h:ls[l]?=some x):cp ls l=aC x:=by unfold cp;rw[ef,h];rfl
def Oh(h:Z.iG r){m:Nat}(hx:fh x=true)(hm:m<r.labels.length)(e:cp r.labels m=aC x):r.labels[m]?=some x:=by obtain⟨y,hy⟩:=d_ hm;rw[xq hy]at e;rw[hy,YL (Z.Ai hx) e]
def YQ{α:Type}{l:List α}(hn:l.Nodup){i j:Nat}{x:α}(a:l[i]?=some x)(b:l[j]?=some x):i=j:=Tv hn a b
def YR(h:Z.iG r):HR (cp r.labels) r.code:=by
 intro l hl m hm e;obtain⟨y,hy⟩:=d_ (h.lab m hm);have hyn:=h.vo y (cP hy)
 rw[xq hy]at e;exact YQ h.vn (Oh h hyn (h.lab l hl) e) hy
def Oi(h:Z.iG r)(hx:fh x=true):(cx (c8 (cp r.labels) r.code) (aJ (aC x):aT)).isSome=decide ((f_ r.labels x).2∈Z.aN r.code):=by
 have no:(∀m∈Z.aN r.code,cp r.labels m≠aC x)->cx (c8 (cp r.labels) r.code) (aJ (aC x):aT)=none:=λq=>Nq q;rcases Z.Ku r.labels x with⟨_,k,e,hk,zi⟩|⟨h_,e⟩
 ·rw[e];by_cases hm:k∈Z.aN r.code
  ·have:=HS (YR h) hm;rw[xq hk]at this;rw[this,decide_eq_true hm];rfl
  ·rw[no λm lq q=>?_,decide_eq_false hm];rfl;have:=YQ h.vn (Oh h hx (h.lab m lq) q) hk
   subst this;exact hm lq
 ·rw[e];have hm:r.labels.length∉Z.aN r.code:=λq=>by have:=h.lab _ q;lia
  rw[no λm lq q=>?_,decide_eq_false hm];rfl;exact h_ (cP (Oh h hx (h.lab m lq) q))
end
section
variable{vs ls:List bo}{p:Z.PL}
def xr:Z.PL->Option bo
 | .get d=>some d| .copy d _=>some d| .num d _=>some d| .op _ d _ _=>some d|_=>none
def kS:Z.PL->List bo
 | .put x=>[x]| .ret x=>[x]| .copy _ a=>[a]| .cond a _=>[a]| .op _ _ a b=>[a,b]|_=>[]
def IS(p:Z.PL):kR p=(kS p).map λx=>V.str (aC x):=by cases p<;>rfl
def lK(s:List bo×List Nat)(x:bo):List bo×List Nat:=((f_ s.1 x).1,s.2++[(f_ s.1 x).2])
def kT(vs:List bo)(p:Z.PL):List bo:=match xr p with
 |some d=>(f_ vs d).1
 |none=>vs
def Cy(vs:List bo)(p:Z.PL):V:=match xr p with
 |some d=>nI (f_ vs d).2
 |none=> .aL
def YS(vs ls:List bo)(p:Z.PL):(Z.aY vs ls p).2.1=((kS p).foldl lK (kT vs p,[])).1:=by cases p<;>rfl
def YT(h:Z.jQ p=false):cQ (Z.aY vs ls p).1=((kS p).foldl lK (kT vs p,[])).2:=by cases p<;>first|rfl|cases h
def YU(h:Z.jQ p=false):gu (Z.aY vs ls p).1=Cy vs p:=by cases p<;>first|rfl|cases h
def YV(h:Z.jQ p=false):rT (Z.aY vs ls p).1=j9 p:=by cases p<;>first|rfl|cases h
def YW(h:Z.jQ p=false):o_ (cp (Z.aY vs ls p).2.2) (Z.aY vs ls p).1=lJ p:=by
 have key:∀l,cp (f_ ls l).1 (f_ ls l).2=aC l:=λl=>xq (Z.iF ls l).at_;cases p with
 |lab l=>cases h
 |goto l=>exact congrArg V.str (key l)
 |cond a l=>exact congrArg V.str (key l)
 |_=>rfl
def apV(h:Z.Ak p):(∀x∈kS p,fh x=true)/\(∀d,xr p=some d->fh d=true):=by cases p<;>simp[kS,xr,Z.Ak]at h⊢<;>first|exact h|(simp_all)
def YX(p:Z.PL):(kS p).length<=2:=by cases p<;>simp[kS]
def uC(A:aO)(H:Hp)(rd sl ld vd:Addr)(r:jn):Prop:=ld≠vd/\(∃dx,H rd=some (.ins A.o9 dx (MO (.ref sl) (.ref ld) (.ref vd))))/\dG A H (cp r.labels) sl (aH r.code)/\H ld=some (.dK (c8 (cp r.labels) r.code))/\H vd=some (.dK (gM r.vars))
def Cz(H H':Hp)(sl ld vd:Addr):Prop:=∀b o,b≠sl->b≠ld->b≠vd->H b=some o->H' b=some o
def xt(r:jn):Z.PL->Option jn
 | .lab x=>if r.code.contains (.label (f_ r.labels x).2)=true then none else some {r with code:=r.code++[.label (f_ r.labels x).2],labels:=(f_ r.labels x).1}
 |p=>if Dm<(Z.aY r.vars r.labels p).2.1.length\/JZ<=(aH r.code).length then none else some ⟨r.code++[.ins (Z.aY r.vars r.labels p).1],(Z.aY r.vars r.labels p).2.1,(Z.aY r.vars r.labels p).2.2⟩
section
variable{P:Program}{w:a9}{K:aV}{mg:Str->Option Value}{A:aO}{base:Heap}
def apW(A:aO):Sp:=λvs H Q _=>∃(rd sl ld vd p:Addr)(pl:Z.PL)(r:jn),vs=[.ref rd, .ref p]/\uC A H rd sl ld vd r/\Z.iG r/\N8 A H p pl/\Z.Ak pl/\(Z.aN r.code).length<=100000/\
 (∀H',xt r pl=none->Cz H H' sl ld vd->Q (.bl false) H')/\(∀s H',xt r pl=some s->Cz H H' sl ld vd->uC A H' rd sl ld vd s->Q (.bl true) H')
end
end
section
def apX{p:Z.PL}(h:Z.jQ p=false):decide (V.str (j9 p)=V.str "label")=false:=by cases p<;>first|rfl|cases h
def YY(p:Z.PL):sh p=match xr p with
 |some d=> .str (aC d)
 |none=> .aL:=by cases p<;>rfl
def YZ(l:List bo)(s:List bo×List Nat):(l.foldl lK s).1.length<=s.1.length+l.length/\(l.foldl lK s).2.length=s.2.length+l.length:=by
 induction l generalizing s with
 |nil=>simp
 |cons x r ih=>
  rw[og];have h1:=ih (lK s x)
  have h2:=(Z.iF s.1 x).le.2;have h3:(lK s x).1.length<=s.1.length+1:=h2;have h4:(lK s x).2.length=s.2.length+1:=by unfold lK;simp
  rw[cG];lia
section
variable{P:Program}{w:a9}{K:aV}{mg:Str->Option Value}{A:aO}{base:Heap}
def apY(T:Txt K mg A):aZ P w K mg base bu 3 A.Gi A.Gj ["reader","step"] (apW A):=by
 refine T.Vn.F.bM Wj (λvs H Q E h=>?_) (λaK Ar outer s H vs Q E hr h=>?_)
 ·refine oy h λrd sl ld vd p pl r bp _=>?_;obtain rfl:=bp;rfl
 ·refine oy h λrd sl ld vd p pl r bA gF=>?_;refine pJ gF λbX ok cA rh HX kn ky=>?_;obtain rfl:=bA;obtain⟨xu,⟨dR,hR⟩,hS,hL,hV⟩:=bX;obtain⟨dx,u,h1,h2⟩:=cA;have nd:=Wj.nd
  have hu:=nA hr;refine ar hS.len λxs j_ nS=>?_;intro X_ D_;refine aq (au (bx (bz b_ (aD (pv 1) rfl) bG (bt _)) (au (bx (iV (SX hu (aD (pv 1) rfl) (aD (pv 0) rfl))) (ax (aQ rq)) bI) (au (yP hu (aD (pv 0) rfl) (aD (pv 1) rfl) (cV fD T.dF dQ (aD (pv 0) rfl)) rfl) (ax (aQ rq)))) bI) (au (pS nd 2 dW) (au (bx (iV (Aw (aD (pv 1) rfl))) (ax (pS nd 2 (bF (YN T) T.numbered hr (ae (pv 0) (ae (aD (pv 1) rfl) az))))) bI) (au (pS nd 3 (qh Sk T.VL TJ (rH rfl nd (yA (aD (pv 1) rfl)) (kI (N:=["reader","step","given","used","name"]) (sc:=aU Mu) (own:=[("name",4)]) (by decide+kernel)) (λ_ _ _ _ _=>(pN nd 4)) (λ_ _ _ _ _=>mi) (λ_ _ _ _ _=>(bF (YN T) T.numbered hr (ae (pv 0) (ae (pv 4) az))))))) (au (fJ (g6 (aD (pv 0) rfl) (gk (mw T) T.Step hr (ae (aD (pv 1) rfl) (ae (pv 2) (ae (pv 3) (ae (aD (pv 1) rfl) az))))))) (ax (aQ (ada (rD p_ (cV fD T.dF dQ (aD (pv 0) rfl)) (cU rfl T.ak7) (bt _)) (Rv (rD p_ (cV Bm T.dF dQ (aD (pv 0) rfl)) (cU rfl T.ak9) (bt _))))))))))) ?_;have pk:=ok.yj;have iJ:=ok.DP;have Y0:rd≠sl:=cf hR j_ (by simp);have uq:rd≠ld:=cf hR hL (by simp);have zw:rd≠vd:=cf hR hV (by simp);have nO:sl≠ld:=cf j_ hL (by simp);have zx:sl≠vd:=cf j_ hV (by simp);have nps:p≠sl:=cf h1 j_ (by simp);have Nj:p≠ld:=cf h1 hL (by simp);have IT:p≠vd:=cf h1 hV (by simp);have nus:u≠sl:=cf h2 j_ (by simp);have nul:u≠ld:=cf h2 hL (by simp);have IU:u≠vd:=cf h2 hV (by simp);refine⟨_,rfl,gH h1 T.Step.c T.aP rfl ⟨rfl,_,rfl,?_⟩⟩;cases fH:Z.jQ pl with
  |true=>
   cases pl with
   |lab x=>
    have hx:fh x=true:=rh;refine bV (ai rfl h1 T.Step.c T.fY rfl (ai rfl hR T.Reader.c T.BM rfl (aB ld _ rfl (dC.k (k:=aJ (aC x)) hL) (aq rfl ?_))));rw[Oi ok hx];by_cases hm:(f_ r.labels x).2∈Z.aN r.code
    ·rw[decide_eq_true hm];have e:xt r (.lab x)=none:=by show(if r.code.contains (.label (f_ r.labels x).2)=true then none else _)=none;rw[if_pos (Z.yk.mpr hm)]
     exact bV (kn H e λ_ _ _ _ _ h=>h)
    ·rw[decide_eq_false hm];have e:xt r (.lab x)=some {r with code:=r.code++[.label (f_ r.labels x).2],labels:=(f_ r.labels x).1}:=by show(if r.code.contains (.label (f_ r.labels x).2)=true then none else _)=_;rw[if_neg (λq=>hm (Z.yk.mp q))]
     have zi:(c8 (cp r.labels) r.code).length=(Z.aN r.code).length:=by unfold c8;rw[aA]
     refine bS (ai rfl hR T.Reader.c T.wC rfl (aB sl _ rfl (.inl (ah.of j_)) (ai rfl hR T.Reader.c T.BM rfl (ai rfl h1 T.Step.c T.fY rfl (aB ld _ rfl (oU.k (k:=aJ (aC x)) hL (by rw[zi];exact cI (by lia))) ?_)))));have nm:=Z.iF r.labels x
     refine ar nm.pre λt et _=>?_;have h_:cx (c8 (cp r.labels) r.code) (aJ (aC x):aT)=none:=by
      have:=Oi ok hx;rw[decide_eq_false hm]at this;cases q:cx (c8 (cp r.labels) r.code) (aJ (aC x):aT)with
      |none=>rfl
      |some v=>rw[q]at this;cases this
     refine ky _ _ e (λb o pj jh iM hq=>by rw[aj jh];exact hq) ⟨xu,⟨dR,by rw[aj uq];exact hR⟩,?_,?_,by rw[aj xu.symm];exact hV⟩
     ·have ei:aH (r.code++[.label (f_ r.labels x).2])=aH r.code:=by rw[Z.pM];simp[aH]
      show dG A _ (cp (f_ r.labels x).1) sl (aH (r.code++[.label (f_ r.labels x).2]));rw[ei,et];exact(hS.ext ok.ins).XE hL
     ·show upd _ _ _ _=some (HO.dK (c8 (cp (f_ r.labels x).1) (r.code++[.label (f_ r.labels x).2])));rw[ag,A8 _ h_,apT hm];rw[xq nm.at_]
      conv=>rhs;rw[et]
      rw[Og ok.lab,nS]
   |_=>cases fH
  |false=>
   rw[apX fH];obtain⟨Y1,gok⟩:=apV rh;refine bS ⟨_,rfl,gH h1 T.Step.c T.eU rfl (aq rfl ?_)⟩;have pR:(kT r.vars pl).length<=65:=by
    unfold kT;cases xr pl with
    |none=>simp only[];lia
    |some d=>have:=(Z.iF r.vars d).le.2;simp only[];lia
   cases hg:xr pl with
   |none=>
    have e1:sh pl= .aL:=by rw[YY,hg]
    have ev:kT r.vars pl=r.vars:=by unfold kT;rw[hg]
    have eg:Cy r.vars pl= .aL:=by unfold Cy;rw[hg]
    rw[e1];refine bS ?_;have mI:∀b o,b≠vd->H b=some o->H b=some o:=λ_ _ _ h=>h
    have jE:H vd=some (.dK (gM (kT r.vars pl))):=by rw[ev];exact hV
    have Oj:=mI _ _ IT h1;have CA:=mI _ _ IU h2;have mD:=mI _ _ zw hR;refine ai rfl Oj T.Step.c T.qm rfl (aW u rfl ⟨_,dm.of CA⟩ λD hD=>?_);have xw:D≠vd:=λe=>by subst e;rw[jE]at hD;cases hD
    refine yN (K:=K) (a:=u) (xs:=kR pl) (λt H3=>(∀b o,b≠vd->H b=some o->H3 b=some o)/\H3 vd=some (.dK (gM (((kS pl).take t).foldl lK (kT r.vars pl,[])).1))/\NL H3 D (((kS pl).take t).foldl lK (kT r.vars pl,[])).2) (b8 (λb o hb hq=>by rw[aj (bL hq hD)];exact hq) (by rw[aj xw.symm];exact jE) ag) (λt H3 _ h=>dm.of (h.1 _ _ IU CA)) ?_ ?_
    ·rintro t y H3 hy ⟨m9,pD,bj⟩;rw[IS]at hy;refine ar (dk hy) λx hx di=>?_;obtain rfl:=di;have wO:=cN hx
     have hul:=YX pl;have nH:=YZ ((kS pl).take t) (kT r.vars pl,[]);simp only[fw,sP]at nH;refine⟨rfl,vI rfl (vI rfl ⟨rd,dR,vd,_,_,_,x,rfl,m9 _ _ zw mD,pD,Z.Ai (Y1 x (cP hx)),by lia,λH4 gN _ xx=>⟨_,gN _ _ xw bj,by rw[aA];exact cI (by lia),λb o hb hq=>?_,?_,?_⟩⟩)⟩
     ·rw[aj (bL hq hD)];exact gN _ _ hb (m9 _ _ hb hq)
     ·rw[aj xw.symm,ee hx,lN];exact xx
     ·show upd _ _ _ _=_;rw[ag,ee hx,lN];simp[lK]
    rintro H3 ⟨m9,pD,bj⟩;have fk:(kR pl).length=(kS pl).length:=by rw[IS,aA]
    rw[fk,eX (aX _)]at pD bj;rw[<-YS r.vars r.labels pl]at pD;rw[<-YT (vs:=r.vars) (ls:=r.labels) fH]at bj;refine cD D _ rfl (.inl ⟨ah.of bj,λtu dz=>?_⟩);have st:=af.new (o:= .tup ((cQ (Z.aY r.vars r.labels pl).1).map nI)) dz
    have gN:∀b o,b≠vd->H b=some o->upd H3 tu (.tup ((cQ (Z.aY r.vars r.labels pl).1).map nI)) b=some o:=λb o hb hq=>st _ _ (m9 _ _ hb (mI _ _ hb hq));have xx:=st _ _ pD;have wU:upd H3 tu (.tup ((cQ (Z.aY r.vars r.labels pl).1).map nI)) tu=some (.tup ((cQ (Z.aY r.vars r.labels pl).1).map nI)):=ag;generalize upd H3 tu (.tup ((cQ (Z.aY r.vars r.labels pl).1).map nI))=H4 at*;have kO:dG A H4 (cp r.labels) sl (aH r.code):=by refine bc hS λps q1 q2 q3=>?_;refine aW ps (gN _ _ zx q1) q2 λj p' i' kJ gX=>?_;refine bZ (q3 j p' i' kJ gX) λd' u' w1 w2=>?_;exact cD d' u' (gN _ _ (cf w1 hV (by simp)) w1) (gN _ _ (cf w2 hV (by simp)) w2)
    have xy:=gN _ _ zw hR;have CB:=gN _ _ IT h1;have xA:=gN _ _ zx j_;have pz:=gN _ _ xu hL;refine ai rfl xy T.Reader.c T.wC rfl ⟨.inl ⟨rfl,_,ah.of xA⟩,ai rfl CB T.Step.c T.aP rfl (vI rfl (vI rfl (ai rfl CB T.Step.c T.fY rfl (λx dxx nx bO bQ=>jq x dxx _ _ _ _ rfl ag rfl ?_))))⟩;obtain⟨sA,j7,dH,dZ⟩:=Made.of (C:=A.c_) (fs:=g7 (.str (j9 pl)) .aL (.ref tu) (lJ pl)) (gs:=[]) nx bO bQ;have pn:=Z.DT (vs:=r.vars) (ls:=r.labels) rh fH;obtain⟨Ol,xB⟩:=pn.DS;have mE:=(((kO.ext (t:=Ol) ok.ins).same sA)).grow (sA _ _ xA) (x:=x) (i:=(Z.aY r.vars r.labels pl).1) (cD dH tu (by rw[<-xB,YV fH,YU fH,YW fH,eg];exact dZ) (sA _ _ wU));refine gI (sA _ _ xA) (by rw[nS];exact cI (by lia)) ?_;have mG:=(aj (o:= .lst (xs++[V.ref x])) Y0).trans (sA _ _ xy);have zy:=(aj (o:= .lst (xs++[V.ref x])) nO.symm).trans (sA _ _ pz);have CC:=(aj (o:= .lst (xs++[V.ref x])) zx.symm).trans (sA _ _ xx);have Om:=ag (H:=upd (upd (upd H4 dxx (.own x)) x (.ins A.c_ dxx [])) x (.ins A.c_ dxx (g7 (.str (j9 pl)) .aL (.ref tu) (lJ pl)))) (a:=sl) (o:= .lst (xs++[V.ref x]));have sR:Cz H (upd (upd (upd (upd H4 dxx (.own x)) x (.ins A.c_ dxx [])) x (.ins A.c_ dxx (g7 (.str (j9 pl)) .aL (.ref tu) (lJ pl)))) sl (.lst (xs++[V.ref x]))) sl ld vd:=λb o pj _ iM hq=>by rw[aj pj];exact sA _ _ (gN _ _ iM hq)
    have mJ:xt r pl=if Dm<(Z.aY r.vars r.labels pl).2.1.length\/JZ<=(aH r.code).length then none else some ⟨r.code++[.ins (Z.aY r.vars r.labels pl).1],(Z.aY r.vars r.labels pl).2.1,(Z.aY r.vars r.labels pl).2.2⟩:=by cases pl<;>first|rfl|cases fH
    have CD:(gM (Z.aY r.vars r.labels pl).2.1).length=(Z.aY r.vars r.labels pl).2.1.length:=IP _ 0;have eM:JZ=256:=rfl;have eV:Dm=64:=rfl;refine ai rfl mG T.Reader.c T.wC rfl (aB sl _ rfl (.inl (ah.of Om)) (iI (aq rfl (bW (λh=>?_) λh=>?_))))
    ·have Oo:(aH r.code).length+1<=256:=by have:=of_decide_eq_true h;rw[cj,nS]at this;simp at this;lia
     refine ai rfl mG T.Reader.c T.y4 rfl (aB vd _ rfl CC (iI ?_));by_cases hvv:(Z.aY r.vars r.labels pl).2.1.length<=64
     ·rw[if_neg (by rw[eM,eV];lia)]at mJ;have e0:decide (((gM (Z.aY r.vars r.labels pl).2.1).length:Int)<=64)=true:=by rw[CD];apply decide_eq_true;lia
      show Q (.bl (decide (((gM (Z.aY r.vars r.labels pl).2.1).length:Int)<=64))) _;rw[e0];refine ky _ _ mJ sR (k9 xu ⟨dR,mG⟩ ?_ ?_ CC)
      ·show dG A _ (cp (Z.aY r.vars r.labels pl).2.2) sl (aH (r.code++[.ins (Z.aY r.vars r.labels pl).1]));have ei:aH (r.code++[.ins (Z.aY r.vars r.labels pl).1])=aH r.code++[(Z.aY r.vars r.labels pl).1]:=by rw[Z.pM];rfl
       rw[ei,xB];exact mE
      ·show _=some (HO.dK (c8 (cp (Z.aY r.vars r.labels pl).2.2) (r.code++[.ins (Z.aY r.vars r.labels pl).1])));rw[YO,xB,Og ok.lab];exact zy
     ·rw[if_pos (by rw[eV];lia)]at mJ;have e0:decide (((gM (Z.aY r.vars r.labels pl).2.1).length:Int)<=64)=false:=by rw[CD];apply decide_eq_false;lia
      show Q (.bl (decide (((gM (Z.aY r.vars r.labels pl).2.1).length:Int)<=64))) _;rw[e0];exact kn _ mJ sR
    ·have Oo:¬(aH r.code).length+1<=256:=λq=>h (by
      apply decide_eq_true
      rw[cj,nS]
      simp;lia)
     rw[if_pos (by rw[eM];lia)]at mJ;exact kn _ mJ sR
   |some d=>
    have e1:sh pl= .str (aC d):=by rw[YY,hg]
    have ev:kT r.vars pl=(f_ r.vars d).1:=by unfold kT;rw[hg]
    have eg:Cy r.vars pl=nI (f_ r.vars d).2:=by unfold Cy;rw[hg]
    have hd:Z.eF d:=Z.Ai (gok d hg);have rJ:=h1;rw[e1]at rJ⊢;refine bV (vI rfl (ai rfl rJ T.Step.c T.eU rfl ⟨rd,dR,vd,_,_,r.vars,d,rfl,hR,hV,hd,by lia,λH2 mI _ jE=>?_⟩));rw[<-ev]at jE;have Oj:=mI _ _ IT h1;have CA:=mI _ _ IU h2;have mD:=mI _ _ zw hR;refine ai rfl Oj T.Step.c T.qm rfl (aW u rfl ⟨_,dm.of CA⟩ λD hD=>?_);have xw:D≠vd:=λe=>by subst e;rw[jE]at hD;cases hD
    refine yN (K:=K) (a:=u) (xs:=kR pl) (λt H3=>(∀b o,b≠vd->H2 b=some o->H3 b=some o)/\H3 vd=some (.dK (gM (((kS pl).take t).foldl lK (kT r.vars pl,[])).1))/\NL H3 D (((kS pl).take t).foldl lK (kT r.vars pl,[])).2) (b8 (λb o hb hq=>by rw[aj (bL hq hD)];exact hq) (by rw[aj xw.symm];exact jE) ag) (λt H3 _ h=>dm.of (h.1 _ _ IU CA)) ?_ ?_
    ·rintro t y H3 hy ⟨m9,pD,bj⟩;rw[IS]at hy;refine ar (dk hy) λx hx eS=>?_;obtain rfl:=eS;have wO:=cN hx
     have hul:=YX pl;have nH:=YZ ((kS pl).take t) (kT r.vars pl,[]);simp only[fw,sP]at nH;refine⟨rfl,vI rfl (vI rfl ⟨rd,dR,vd,_,_,_,x,rfl,m9 _ _ zw mD,pD,Z.Ai (Y1 x (cP hx)),by omega,λH4 gN _ xx=>⟨_,gN _ _ xw bj,by rw[aA];exact cI (by omega),λb o hb hq=>?_,?_,?_⟩⟩)⟩
     ·rw[aj (bL hq hD)];exact gN _ _ hb (m9 _ _ hb hq)
     ·rw[aj xw.symm,ee hx,lN];exact xx
     ·show upd _ _ _ _=_;rw[ag,ee hx,lN];simp[lK]
    rintro H3 ⟨m9,pD,bj⟩;have fk:(kR pl).length=(kS pl).length:=by rw[IS,aA]
    rw[fk,eX (aX _)]at pD bj;rw[<-YS r.vars r.labels pl]at pD;rw[<-YT (vs:=r.vars) (ls:=r.labels) fH]at bj;refine cD D _ rfl (.inl ⟨ah.of bj,λtu dz=>?_⟩);have st:=af.new (o:= .tup ((cQ (Z.aY r.vars r.labels pl).1).map nI)) dz
    have gN:∀b o,b≠vd->H b=some o->upd H3 tu (.tup ((cQ (Z.aY r.vars r.labels pl).1).map nI)) b=some o:=λb o hb hq=>st _ _ (m9 _ _ hb (mI _ _ hb hq));have xx:=st _ _ pD;have wU:upd H3 tu (.tup ((cQ (Z.aY r.vars r.labels pl).1).map nI)) tu=some (.tup ((cQ (Z.aY r.vars r.labels pl).1).map nI)):=ag;generalize upd H3 tu (.tup ((cQ (Z.aY r.vars r.labels pl).1).map nI))=H4 at*;have kO:dG A H4 (cp r.labels) sl (aH r.code):=by refine bc hS λps q1 q2 q3=>?_;refine aW ps (gN _ _ zx q1) q2 λj p' i' kJ gX=>?_;refine bZ (q3 j p' i' kJ gX) λd' u' w1 w2=>?_;exact cD d' u' (gN _ _ (cf w1 hV (by simp)) w1) (gN _ _ (cf w2 hV (by simp)) w2)
    have xy:=gN _ _ zw hR;have CB:=gN _ _ IT h1;have xA:=gN _ _ zx j_;have pz:=gN _ _ xu hL;refine ai rfl xy T.Reader.c T.wC rfl ⟨.inl ⟨rfl,_,ah.of xA⟩,ai rfl CB T.Step.c T.aP rfl (vI rfl (vI rfl (ai rfl CB T.Step.c T.fY rfl (λx dxx nx bO bQ=>jq x dxx _ _ _ _ rfl ag rfl ?_))))⟩;obtain⟨sA,j7,dH,dZ⟩:=Made.of (C:=A.c_) (fs:=g7 (.str (j9 pl)) (nI (f_ r.vars d).2) (.ref tu) (lJ pl)) (gs:=[]) nx bO bQ;have pn:=Z.DT (vs:=r.vars) (ls:=r.labels) rh fH;obtain⟨Ol,xB⟩:=pn.DS;have mE:=(((kO.ext (t:=Ol) ok.ins).same sA)).grow (sA _ _ xA) (x:=x) (i:=(Z.aY r.vars r.labels pl).1) (cD dH tu (by rw[<-xB,YV fH,YU fH,YW fH,eg];exact dZ) (sA _ _ wU));refine gI (sA _ _ xA) (by rw[nS];exact cI (by omega)) ?_;have mG:=(aj (o:= .lst (xs++[V.ref x])) Y0).trans (sA _ _ xy);have zy:=(aj (o:= .lst (xs++[V.ref x])) nO.symm).trans (sA _ _ pz);have CC:=(aj (o:= .lst (xs++[V.ref x])) zx.symm).trans (sA _ _ xx);have Om:=ag (H:=upd (upd (upd H4 dxx (.own x)) x (.ins A.c_ dxx [])) x (.ins A.c_ dxx (g7 (.str (j9 pl)) (nI (f_ r.vars d).2) (.ref tu) (lJ pl)))) (a:=sl) (o:= .lst (xs++[V.ref x]));have sR:Cz H (upd (upd (upd (upd H4 dxx (.own x)) x (.ins A.c_ dxx [])) x (.ins A.c_ dxx (g7 (.str (j9 pl)) (nI (f_ r.vars d).2) (.ref tu) (lJ pl)))) sl (.lst (xs++[V.ref x]))) sl ld vd:=λb o pj _ iM hq=>by rw[aj pj];exact sA _ _ (gN _ _ iM hq)
    have mJ:xt r pl=if Dm<(Z.aY r.vars r.labels pl).2.1.length\/JZ<=(aH r.code).length then none else some ⟨r.code++[.ins (Z.aY r.vars r.labels pl).1],(Z.aY r.vars r.labels pl).2.1,(Z.aY r.vars r.labels pl).2.2⟩:=by cases pl<;>first|rfl|cases fH
    have CD:(gM (Z.aY r.vars r.labels pl).2.1).length=(Z.aY r.vars r.labels pl).2.1.length:=IP _ 0;have eM:JZ=256:=rfl;have eV:Dm=64:=rfl;refine ai rfl mG T.Reader.c T.wC rfl (aB sl _ rfl (.inl (ah.of Om)) (iI (aq rfl (bW (λh=>?_) λh=>?_))))
    ·have Oo:(aH r.code).length+1<=256:=by have:=of_decide_eq_true h;rw[cj,nS]at this;simp at this;omega
     refine ai rfl mG T.Reader.c T.y4 rfl (aB vd _ rfl CC (iI ?_));by_cases hvv:(Z.aY r.vars r.labels pl).2.1.length<=64
     ·rw[if_neg (by rw[eM,eV];omega)]at mJ;have e0:decide (((gM (Z.aY r.vars r.labels pl).2.1).length:Int)<=64)=true:=by rw[CD];apply decide_eq_true;omega
      show Q (.bl (decide (((gM (Z.aY r.vars r.labels pl).2.1).length:Int)<=64))) _;rw[e0];refine ky _ _ mJ sR (k9 xu ⟨dR,mG⟩ ?_ ?_ CC)
      ·show dG A _ (cp (Z.aY r.vars r.labels pl).2.2) sl (aH (r.code++[.ins (Z.aY r.vars r.labels pl).1]));have ei:aH (r.code++[.ins (Z.aY r.vars r.labels pl).1])=aH r.code++[(Z.aY r.vars r.labels pl).1]:=by rw[Z.pM];rfl
       rw[ei,xB];exact mE
      ·show _=some (HO.dK (c8 (cp (Z.aY r.vars r.labels pl).2.2) (r.code++[.ins (Z.aY r.vars r.labels pl).1])));rw[YO,xB,Og ok.lab];exact zy
     ·rw[if_pos (by rw[eV];omega)]at mJ;have e0:decide (((gM (Z.aY r.vars r.labels pl).2.1).length:Int)<=64)=false:=by rw[CD];apply decide_eq_false;omega
      show Q (.bl (decide (((gM (Z.aY r.vars r.labels pl).2.1).length:Int)<=64))) _;rw[e0];exact kn _ mJ sR
    ·have Oo:¬(aH r.code).length+1<=256:=λq=>h (by
      apply decide_eq_true
      rw[cj,nS]
      simp;omega)
     rw[if_pos (by rw[eM];omega)]at mJ;exact kn _ mJ sR
end
end
section
variable{r:jn}
def Y2(r:jn){l:List bo}{pl:Z.PL}(h:l≠[])(hp:Z.parse l=some pl):ZT r l=xt r pl:=by rw[Z.Aj r h,hp];cases pl<;>rfl
def ap2(r:jn){l:List bo}(h:l≠[])(hp:Z.parse l=none):ZT r l=none:=by rw[Z.Aj r h,hp]
def ap3{x:bo}(h:fh x=true):TB (aC x) x:=by
 have ok:=Z.Ai h;show(Z.sg x).map j8=x.map λy=>((y.toNat:Nat):Int);rw[Z.QQ ok,kY];apply ke;intro b hb;have uy:∀n,n<256->Z.mW n=true->n≠64:=by decide+kernel
 show j8 b.toNat=_;unfold j8;rw[if_neg (uy _ b.toNat_lt (ok b hb))]
def ap4(h:Z.iG r):zr r.labels (cp r.labels) (Z.aN r.code):=⟨λl hl=>by
 obtain⟨y,hy⟩:=d_ (h.lab l hl)
 rw[xq hy,ef,hy]
 exact ap3 (h.vo y (cP hy))⟩
def ap5(h:Z.iG r)(hg:∀i∈aH r.code,Ql59.gone r.code i=true)(hl:(Z.aN r.code).length<=17000):g8 (cp r.labels) (Z.ju r)where
 W:=Z.gD.start h
 F:=⟨λi hi=>Z.e8.of_ok (h.ins i hi) (hg i hi),h.vq⟩
 L:=YR h
 ll:=hl
 ls:=λl hl=>by obtain⟨y,hy⟩:=d_ (h.lab l hl);rw[xq hy,gw];exact(Z.abR (h.vo y (cP hy))).1
end
section
variable{xs:List V}{H H':Hp}{gd:Addr}{gl:List (Nat×bo)}{r:jn}
def Y3:om (.type "Exception") "number"=pure none:=by rw[typeLookup_type,builtinLookup_eq_fast];kernel_rfl
def ap6{K:aV}{a:Addr}{p q:Nat}{tb:TS}{D:pX}{σ:St}(Pv:Nat->St->Hp->Prop)(h0:Pv 0 σ H)(hl:∀i σ H,i<=xs.length->Pv i σ H->ah K H a xs)
  (hs:∀i x T σ H,xs[i]?=some x->Pv i σ H->H T=none->tb {D with nx:=Pv (i+1),ct:=Pv (i+1),bk:=D.nx} ((σ.set p (some (nI (i+1)))).set q (some x)) (upd H T (.tup [nI (i+1),x]))) (hd:∀σ H,Pv xs.length σ H->D.nx σ H):
  ∃W:Nat->Nat->St->Hp->Prop,(∃m,W 0 m σ H)/\∀i m σ H,W i m σ H->
   ((BA K a).stop i H/\D.nx σ H)\/((BA K a).go i H/\∃N:St->Hp->Prop,(∀σ' H',N σ' H'->∃m',m'<m/\W (i+1) m' σ' H')/\∀x H',(BA K a).iH i H x H'->g2 K p q x σ H' λσ2 H2=>tb {D with nx:=N,ct:=N,bk:=D.nx} σ2 H2):=by
 refine yZ xs.length Pv h0 (λi σ H hi hp=>cD xs (xs[i]) (hl i σ H (by lia) hp) (mN hi)) (λσ H hp=>aF xs (hl _ σ H (aX _) hp) (aX _)) (λi σ H v H' hi hp hy=>?_) hd;refine lj hy λT x bp hT bA hx=>?_;obtain rfl:=bp;obtain rfl:=bA;exact Br ag (hs i x T σ H (hx xs (hl i σ H (by omega) hp)) hp hT)
def xC(H:Hp)(gd:Addr)(gl:List (Nat×bo)):Prop:=∃qs:List Addr,H gd=some (.lst (qs.map V.ref))/\qs.length=gl.length/\∀(j:Nat)(q:Addr)(p:Nat×bo),qs[j]?=some q->gl[j]?=some p->H q=some (.tup [nI p.1, .str (aC p.2)])
section
variable{P:Program}{w:a9}{K:aV}{mg:Str->Option Value}{A:aO}{base:Heap}
def Y4(T:Txt K mg A):aZ P w K mg base bu 1 A.BD A.BE ["self","number"] (T4 A.qk "number"):=by
 refine T.akW.ok alD (λvs H Q E h=>?_) (λaK Ar outer s H vs Q E hr h=>?_)
 ·refine gb h λx v zs bX _=>?_;obtain rfl:=bX;rfl
 ·refine bR h λx v zs cA hx k=>?_;obtain rfl:=cA;exact aq (ax (akb T.BP Y3 (pv 0) (pv 1) rfl)) (aF v rfl (aF (.ref x) rfl (aB x zs rfl hx k)))
def ap7(A:aO):Sp:=λvs H Q E=>∃(a:Addr)(t:bo),vs=[.ref a]/\IL H a (xg t)/\t.length<=65536/\
 (∀r,Dn t= .ok r->∀p H',H p=none->af H H'->iu A H' (cp r.labels) p (Z.ju r)->g8 (cp r.labels) (Z.ju r)->Z.iG r->Q (.ref p) H')/\
 ∀k,Dn t= .error k->∀x dx H',H x=none->af H H'->H' dx=some (.xd [("number",nI k)])->dx≠x->E (.ref x) (some dx) H'
theorem uC.same{H H':Hp}{rd sl ld vd:Addr}{r:jn}(h:uC A H rd sl ld vd r)(s:af H H'):uC A H' rd sl ld vd r:=
 let⟨n,⟨dx,e⟩,a,b,c⟩:=h;(k9 n ⟨dx,s _ _ e⟩ (a.same s) (s _ _ b) (s _ _ c))
def xC.same(h:xC H gd gl)(s:af H H'):xC H' gd gl:=
 bc h λqs a b c=>(aW qs (s _ _ a) b λj q p e1 e2=>s _ _ (c j q p e1 e2))
def xC.ap8{rd sl ld vd:Addr}(h:xC H gd gl)(s:Cz H H' sl ld vd)(hr:uC A H rd sl ld vd r)(ng:gd≠sl):xC H' gd gl:=by refine bc h λqs a b c=>?_;refine fi hr λ_ _ hS hL hV=>?_;refine ar hS.len λxs j_ _=>?_;exact aW qs (s _ _ ng (cf a hL (by simp)) (cf a hV (by simp)) a) b λj q p e1 e2=>s _ _ (cf (c j q p e1 e2) j_ (by simp)) (cf (c j q p e1 e2) hL (by simp)) (cf (c j q p e1 e2) hV (by simp)) (c j q p e1 e2)
def dG.ze{lab:Nat->Str}{l r:Addr}{I:List ck}{o:HO}(h:dG A H lab l I)(hr:H r=some (.lst xs))(n:l≠r):dG A (upd H r o) lab l I:=by refine bc h λps h1 h2 h3=>?_;refine aW ps (by rw[aj n];exact h1) h2 λj p i a b=>?_;refine bZ (h3 j p i a b) λdx u e1 e2=>?_;exact⟨dx,u,by rw[aj (cf e1 hr (by simp))];exact e1,by rw[aj (cf e2 hr (by simp))];exact e2⟩
def ap9{α:Type}{l:List α}{f:α->Bool}{j:Nat}{p:α}(h:l[j]?=some p)(hp:f p=true)(hb:∀q∈l.take j,f q=false):l.find? f=some p:=by
 have e:l=l.take j++(p::l.drop (j+1)):=by have:=Jr j l;rw[xY (cN h)]at this;rw[(d0.mp h).2]at this;exact this.symm
 have n:(l.take j).find? f=none:=xH.mpr λq hq=>by rw[hb q hq];simp
 rw[e,auk,n];simp[hp]
def ap_(vs:List bo):(gM vs).length=vs.length:=by
 have key:∀(l:List bo)(n:Nat),(nX l n).length=l.length:=by
  intro l;induction l with
  |nil=>intro n;rfl
  |cons x r ih=>intro n;unfold nX;rw[cG,cG,ih]
 exact key vs 0
def RV(A:aO)(H0:Hp)(a rd sl ld vd gd la:Addr)(t:bo)(i:Nat)(σ:St)(H:Hp):Prop:=
 ∃(v3 v4 v5 v6:Option V)(r:jn)(gl:List (Nat×bo)),σ=[some (.ref a),some (.ref rd),some (.ref gd),v3,v4,v5,v6,none,none]/\af H0 H/\SL H la ((eZ 10 t).map aC)/\uC A H rd sl ld vd r/\xC H gd gl/\
  Z.RP ((eZ 10 t).map qX) i r gl/\4*(Z.aN r.code).length<=(((eZ 10 t).take i).map (λl=>l.length+1)).sum
def LZ{l:List bo}{i:Nat}{x:bo}(h:l[i]?=some x):((l.take (i+1)).map (λl=>l.length+1)).sum=((l.take i).map (λl=>l.length+1)).sum+(x.length+1):=by rw[ee h];simp
def Y5(l:List bo)(i:Nat):((l.take i).map (λl=>l.length+1)).sum<=(l.map (λl=>l.length+1)).sum:=by
 conv=>rhs;rw[<-Jr i l,gA,at0]
 exact xO _ _
def aqa{ls:List (List bo)}{t:Nat}(h:Z.RP ls t r gl):gl.length<=ls.length:=by
 rw[<-h.g];have:=List.length_filterMap_le Z.gh (ls.zipIdx.take t)
 simp at this⊢;lia
def aqb(c:UInt8)(t:bo):(eZ c t).length<=t.length+1:=by
 rw[<-Z.Al c t];generalize eZ c t=l;induction l with
 |nil=>simp
 |cons x r ih=>simp at ih⊢;lia
def aqc(T:Txt K mg A)(OD:lA P w K A.lC (lH A)):aZ P w K mg base (o8 P w A.qk) 6 A.Gg A.Gh ["text"] (ap7 A):=by
 refine T.HI.F.okX Wi (λvs H Q E h=>?_) (λaK Ar outer s H vs Q E hr h=>?_)
 ·obtain⟨a,t,rfl,_⟩:=h;rfl
 ·obtain⟨a,t,rfl,ha,hl,ky,kn⟩:=h;have nd:=Wi.nd
  have hu:=nA hr;have er:=Z.ab8 t;refine aq (au (pS nd 1 (Tz (apR T) T.Reader hr)) (au (pS nd 2 (cK az)) (au (gj awj rfl (akI rfl T.wF (ae (bF (apj T) T.Vl hr (ae (pv 0) az)) az)) (oK rfl (g5 (pN nd 3) (g5 (pN nd 4) oJ))) (au (pS nd 5 (bF (apm T) T.words_of hr (ae (pv 4) az))) (au (bx (bz b_ (cV fD T.dF dQ (pv 5)) aS (bt _)) (ax KS) bI) (au (pS nd 6 (bF (apM T OD) T.Vo hr (ae (pv 5) az))) (au (bx (PW.pt (l6 (iV (vB (pv 6))) (pZ (vC (je (bF (apY T) T.Vn hr (ae (pv 1) (ae (pv 6) az)))))))) (ax (T5 T.BP (Y4 T) T.VC hr T.MJ (pv 3))) bI) (ax (bx (PW.pt (l6 (bz b_ (aD (pv 6) rfl) bG (bt _)) (pZ (bz b_ (aD (pv 6) rfl) bG (bt _))))) (ax (fJ (g6 (pv 2) (oP (ae (pv 3) (ae (aD (pv 6) rfl) az)))))) bI))))))) (au (gj awj rfl (kG (pv 2)) (oK rfl (g5 (pN nd 3) (g5 (pN nd 7) oJ))) (ax (bx (iV (LH hu (pv 7) (aD (pv 1) rfl))) (ax (T5 T.BP (Y4 T) T.VC hr T.MJ (pv 3))) bI))) (au (pS nd 8 (cV Bm T.dF dQ (aD (pv 1) rfl))) (ax (aQ (gk (WN T) T.Program hr (ae (aD (pv 1) rfl) (ae (aD (pv 1) rfl) (ae (pv 8) (ae (pv 8) (ae aS az))))))))))))) ?_;refineλrd IV Y6 Nu XU=>aB rd IV rfl ag λsl ld vd H1 N1=>⟨rfl,?_⟩;have s0:af H (upd (upd H IV (.own rd)) rd (.ins A.o9 IV [])):=(af.new Nu).upd Y6;have s1:af H H1:=λb o hb=>N1.fr b o (bL hb Y6) (s0 _ _ hb);have nO:H sl=none:=s0.free N1.ns;have IW:H ld=none:=s0.free N1.nl;have Y7:H vd=none:=s0.free N1.nv;refine⟨by show 0<=sizeLine;decide,λgd yS=>?_⟩;have s2:=af.new (o:= .lst []) yS;have ngd:H gd=none:=s1.free yS;have zh:gd≠sl:=(bL N1.s0 yS).symm;have Y8:upd H1 gd (.lst []) gd=some (.lst []):=ag;have mD:uC A (upd H1 gd (.lst [])) rd sl ld vd ⟨[],[],[]⟩:=(k9 N1.lv ⟨IV,s2 _ _ N1.at_⟩ (aW [] (s2 _ _ N1.s0) rfl λj p i e=>by simp at e) (s2 _ _ N1.l0) (s2 _ _ N1.v0));have xf:=s1.trans s2;generalize upd H1 gd (.lst [])=H2 at*;have fk:=aqb 10 t;have hps:=Z.Al 10 t;refine⟨_,rfl,a,t,rfl,xf _ _ ha,by omega,λla H3 iw s3 Y9=>⟨la,_,rfl,ah.of Y9,ap6 (K:=K) (a:=la) (xs:=((eZ 10 t).map aC).map V.str) (p:=3) (q:=4) (RV A H a rd sl ld vd gd la t) ⟨none,none,none,none,_,[],rfl,xf.trans s3,Y9,mD.same s3,⟨[],s3 _ _ Y8,rfl,λj q p e=>by simp at e⟩,Z.RP.start _,by simp[Z.aN]⟩ (λi σ H4 _ ⟨_,_,_,_,_,_,_,_,h4,_⟩=>ah.of h4) ?_ ?_⟩⟩
  ·have lsl:la≠sl:=λe=>by subst e;rw[mD.2.2.1.len.choose_spec.1]at iw;cases iw
   have lgd:la≠gd:=λe=>by subst e;rw[Y8]at iw;cases iw
   rintro i x Tu σ H4 hx ⟨v3,v4,v5,v6,r,gl,rfl,s4,pz,xy,hG4,rp,nP⟩ hT;refine ar (dk hx) λy hy di=>?_;obtain rfl:=di;refine ar (dk hy) λl dM eS=>?_;obtain rfl:=eS;have ji:((eZ 10 t).map qX)[i]?=some (qX l):=cF dM
   have HX:=Z.Q1 (cP dM);have iJ:=cN dM;have kD:=LZ dM;have aqh:=Y5 (eZ 10 t) (i+1);have sT:=af.new (o:= .tup [nI (i+1), .str (aC l)]) hT;refine vI rfl (aW l rfl (by lia) λwa H5 uj s5 hW=>?_);have IX:=sT.trans s5;have CF:=s4.trans IX;have mG:=xy.same IX;have Y_:=hG4.same IX;have zy:=IX _ _ pz;have fin:∀k,Z.oF ((eZ 10 t).map qX)= .error k->Dn t= .error k:=λk e=>by rw[er];exact e
   refine vI rfl (cC wa _ rfl (.inl (ah.of hW)) rfl (aq rfl (bW (λh=>?_) λh=>?_)))
   ·have h0:qX l=[]:=by have:=V.int.inj (of_decide_eq_true h);rw[aA,aA]at this;exact CU.mp (by lia)
    rw[h0]at ji;exact⟨_,_,_,_,r,gl,rfl,CF,zy,mG,Y_,rp.skip ji,by omega⟩
   ·have bh:qX l≠[]:=λe=>h (by rw[e];rfl);refine vI rfl (aB wa (qX l) rfl ⟨hW,λw' Za=>⟨(Z.Q2 Za).1,by have:=(Z.Q2 Za).2;lia⟩⟩ ⟨λH6 e s6=>?_,λpl p H6 e np s6 hP=>?_⟩)
    ·refine vI rfl (jg (bV (vI rfl (aq rfl λx dx vs nx bO bQ=>?_))));have s7:af H (upd (upd H6 dx (.xd [("number",nI (i+1))])) x (.ext (XO x A.qk (some dx) vs))):=((CF.trans s6).trans (af.new bO)).upd ((CF.trans s6).free nx)
     exact kn (i+1) (fin _ (rp.bad ji (ap2 r bh e))) x dx _ ((CF.trans s6).free nx) s7 (by rw[aj bQ];exact ag) bQ
    ·have Zb:=CF.trans s6;have Cm:=mG.same s6;have hG6:=Y_.same s6;have Oq:=s6 _ _ zy;have rh:=Z.DQ e;have hle:(Z.aN r.code).length<=100000:=by lia
     refine vI rfl (jC (vI rfl (vI rfl ⟨rd,sl,ld,vd,p,pl,r,rfl,Cm,rp.ok,hP,rh,hle,λH7 e7 s7=>?_,λs' H7 e7 s7 Iq=>?_⟩)))
     ·have zz:af H H7:=λb o hb=>s7 b o (bL hb nO) (bL hb IW) (bL hb Y7) (Zb _ _ hb);refine⟨_,rfl,bV ⟨_,rfl,_,rfl,λx dx vs nx bO bQ=>?_⟩⟩;have s8:af H (upd (upd H7 dx (.xd [("number",nI (i+1))])) x (.ext (XO x A.qk (some dx) vs))):=(zz.trans (af.new bO)).upd (zz.free nx);exact kn (i+1) (fin _ (rp.bad ji ((Y2 r bh e).trans e7))) x dx _ (zz.free nx) s8 (by rw[aj bQ];exact ag) bQ
     ·have zz:af H H7:=λb o hb=>s7 b o (bL hb nO) (bL hb IW) (bL hb Y7) (Zb _ _ hb);have nY:=hG6.ap8 s7 Cm zh;refine fi Cm λn6 _ Cn Zc Zd=>?_;refine ar Cn.len λxs6 aqj _=>?_;have Ze:=s7 _ _ lsl (cf Oq Zc (by simp)) (cf Oq Zd (by simp)) Oq;refine bZ hP λdp up IY ig=>?_;have wW:=s7 _ _ (cf IY aqj (by simp)) (cf IY Zc (by simp)) (cf IY Zd (by simp)) IY;have Zf:=(Y2 r bh e).trans e7;have IZ:=rp.step ji bh e Zf;have Zg:4*(Z.aN s'.code).length<=(((eZ 10 t).take (i+1)).map (λl=>l.length+1)).sum:=by
       have h1:=Z.acg bh e Zf;by_cases fH:Z.jQ pl=true
       ·rw[if_pos fH]at h1;cases pl with
        |lab x=>
         have h2:=Z.acd e;have h3:=Z.acb l;lia
        |_=>cases fH
       ·rw[if_neg fH]at h1;lia
      have skip:Z.gh (qX l,i)=none->RV A H a rd sl ld vd gd la t (i+1) [some (.ref a),some (.ref rd),some (.ref gd),some (nI (i+1)),some (.str (aC l)),some (.ref wa),some (.ref p),none,none] H7:=λg=>by rw[g]at IZ;exact⟨_,_,_,_,s',gl,rfl,zz,Ze,Iq,nY,by simpa using IZ,Zg⟩
      have IH:=aqa rp;rw[aA]at IH;have app:∀x tu,Z.gh (qX l,i)=some (i+1,x)->H7 tu=none->RV A H a rd sl ld vd gd la t (i+1) [some (.ref a),some (.ref rd),some (.ref gd),some (nI (i+1)),some (.str (aC l)),some (.ref wa),some (.ref p),none,none]
        (upd (upd H7 tu (.tup [nI (i+1), .str (aC x)])) gd (.lst (nY.choose.map V.ref++[V.ref tu]))):=λx tu g uD=>by
       rw[g]at IZ;have sA:=af.new (o:= .tup [nI (i+1), .str (aC x)]) uD
       refine cT nY.choose_spec λa1 a2 a3=>?_;have CG:=sA _ _ a1
       have ngt:gd≠tu:=bL a1 uD;refine⟨_,_,_,_,s',gl++[(i+1,x)],rfl,(zz.trans sA).upd ngd,?_,?_,?_,by simpa using IZ,Zg⟩
       ·show upd _ _ _ _=_;rw[aj lgd];exact sA _ _ Ze
       ·refine fi (Iq.same sA) λn7 eT qC Zh Zi=>?_;obtain⟨dR,xD⟩:=eT;exact⟨n7,⟨dR,by rw[aj (cf xD CG (by simp))];exact xD⟩,qC.ze CG zh.symm,by rw[aj (cf Zh CG (by simp))];exact Zh,by rw[aj (cf Zi CG (by simp))];exact Zi⟩
       ·refine aW (nY.choose++[tu]) (by rw[ag,gA];rfl) (by rw[cj,cj,a2];rfl) λj q pp e1 e2=>?_;by_cases hj:j<nY.choose.length
        ·rw[qS hj]at e1;rw[qS (by lia)]at e2;have:=sA _ _ (a3 j q pp e1 e2)
         rw[aj (cf this CG (by simp))];exact this
        ·have B5:j=nY.choose.length:=by have:=cN e1;rw[cj,avd]at this;lia
         subst B5;rw[uQ (aX _)]at e1;rw[uQ (by lia),a2]at e2;simp at e1 e2;subst e1 e2;rw[aj ngt.symm];exact ag
      refine⟨_,rfl,bS ⟨_,rfl,gH wW T.Step.c T.aP rfl ⟨rfl,_,rfl,?_⟩⟩⟩;cases pl with
      |goto x=>
       exact bV (bV (vI rfl ⟨.inl ⟨rfl,_,ah.of nY.choose_spec.1⟩,vI rfl (ai rfl wW T.Step.c T.fY rfl ⟨by show 2<=sizeLine;decide,λtu uD=>gI (af.new uD _ _ nY.choose_spec.1) (by rw[aA];exact cI (by have:=nY.choose_spec.2.1;lia)) (app x tu (by simp[Z.gh,e]) uD)⟩)⟩))
      |cond a' x=>
       exact bS (ai rfl wW T.Step.c T.aP rfl (dP rfl (vI rfl ⟨.inl ⟨rfl,_,ah.of nY.choose_spec.1⟩,vI rfl (ai rfl wW T.Step.c T.fY rfl ⟨by show 2<=sizeLine;decide,λtu uD=>gI (af.new uD _ _ nY.choose_spec.1) (by rw[aA];exact cI (by have:=nY.choose_spec.2.1;omega)) (app x tu (by simp[Z.gh,e]) uD)⟩)⟩)))
      |_=>exact bS (ai rfl wW T.Step.c T.aP rfl (aE rfl (skip (by simp[Z.gh,e]))))
  ·rintro σ H4 ⟨v3,v4,v5,v6,r,gl,rfl,s4,pz,⟨xu,⟨dR,xD⟩,kO,Zj,hVd⟩,⟨qs,g1,g2',g3⟩,rp,nP⟩;have eln:(((eZ 10 t).map aC).map V.str).length=((eZ 10 t).map qX).length:=by simp
   rw[eln]at rp;have I0:=rp.done
   have aqh:=Y5 (eZ 10 t) (((eZ 10 t).map aC).map V.str).length;refine vI rfl (aW gd rfl ⟨_,ah.of g1⟩ (rC (K:=K) (a:=gd) (xs:=qs.map V.ref) (λj σ H5=>∃v3 v7:Option V,σ=[some (.ref a),some (.ref rd),some (.ref gd),v3,v4,v5,v6,v7,none]/\H5=H4/\∀p∈gl.take j,Z.jc r p=false) ⟨_,_,rfl,rfl,by simp⟩ (λj σ H5 _ ⟨_,_,_,e5,_⟩=>by rw[e5];exact ah.of g1) ?_ ?_))
   ·rintro j x σ H5 hx ⟨Ct,v7,rfl,rfl,hb⟩;refine ar (dk hx) λq hq ij=>?_;obtain rfl:=ij;obtain⟨pp,I_⟩:=d_ (show j<gl.length by have:=cN hq;lia);have hq5:=g3 j q pp hq I_
    have lV:=cP I_;refine Br hq5 ?_;refine vI rfl (ai rfl xD T.Reader.c T.BM rfl (aB ld _ rfl (dC.k (k:=aJ (aC pp.2)) Zj) (aq rfl ?_)));rw[Oi rp.ok (rp.nm pp lV),<-Z.acf];cases hm:Z.jc r pp with
    |true=>
     refine bV (vI rfl (aq rfl λx dx vs nx bO bQ=>?_));have s8:af H (upd (upd H5 dx (.xd [("number",nI pp.1)])) x (.ext (XO x A.qk (some dx) vs))):=(s4.trans (af.new bO)).upd (s4.free nx)
     rw[ap9 I_ hm hb]at I0;exact kn pp.1 (er.trans I0) x dx _ (s4.free nx) s8 (by rw[aj bQ];exact ag) bQ
    |false=>
     refine bS (aB _ _ rfl rfl λp hp=>?_);rw[ee I_]at hp;rcases eO.mp hp with h|h
     ·exact hb p h
     ·simp at h;subst h;exact hm
   ·rintro σ H5 ⟨Ct,v7,rfl,rfl,hb⟩;have fV:∀p∈gl,Z.jc r p=false:=λp hp=>hb p (by rw[aA,g2',eX (aX _)];exact hp)
    have hn:gl.find? (Z.jc r)=none:=xH.mpr λp hp=>by rw[fV p hp];simp
    rw[hn]at I0;have pk:=ap_ r.vars
    refine ai rfl xD T.Reader.c T.y4 rfl (aB vd _ rfl hVd ?_);refine ai rfl xD T.Reader.c T.wC rfl (ai rfl xD T.Reader.c T.BM rfl (vI rfl (vI rfl λx dxx nx bO bQ=>lg x dxx _ _ _ _ _ rfl ag rfl ?_)));obtain⟨sA,j7,dH,dZ⟩:=Made.of (C:=A.lB) (fs:=BS (.ref sl) (.ref ld) (.int (gM r.vars).length) (.int (gM r.vars).length) (.int 0)) (gs:=[]) nx bO bQ;refine ky r (er.trans I0) x _ (s4.free nx) (s4.trans sA) (fQ dH sl ld ?_ (kO.same sA) (sA _ _ Zj)) (ap5 rp.ok (rp.gone fV) (by lia)) rp.ok;rw[dZ,pk];rfl
end
end
section
variable{v n:Nat}{r:jn}{zs:List Int}{H H':Hp}{A:aO}{d C dx b:Addr}
def aqp{V L:Nat}{i:ck}(h:Z.jR V L i)(hv:v∈gS i):v<V:=by
 cases i with
 |op k d a b=>
  refine fz h λ_ _ h1 h2=>?_;have:v=a\/v=b:=by
   have gf:v∈(if a=b then [a]else [a,b]):=hv;by_cases e:a=b
   ·rw[if_pos e]at gf;exact .inl (sy.mp gf)
   ·rw[if_neg e]at gf;rcases cu.mp gf with z|z
    ·exact .inl z
    ·exact .inr (sy.mp z)
  lia
 |put a=>simp[gS]at hv;subst hv;exact h
 |ret a=>simp[gS]at hv;subst hv;exact h
 |copy d a=>simp[gS]at hv;subst hv;exact h.2
 |cond a l=>simp[gS]at hv;subst hv;exact h.1
 |num d z=>simp[gS]at hv
 |get d=>simp[gS]at hv
 |goto l=>simp[gS]at hv
 |fetch d s=>exact h.elim
 |keep s a=>exact h.elim
def aqq(ok:Z.iG r){i:Nat}(h:av6 r.code v i):v<64:=by
 have hv:=ok.yj;induction h with
 |used i x hx hu=>have:=aqp (ok.ins x (cP hx)) hu;lia
 |on i j x _ _ _ _ ih=>exact ih
def aqr(ok:Z.iG r){L:List Nat}(h:B6 r.code L)(i:Nat):((bD Dm).map λv=>if((aaI r.code).getD i []).contains v=true then 2^v else 0).sum=L.getD i 0:=by
 have hl:L.getD i 0<2^64:=at1 _ λv hv=>by
  cases e:(L.getD i 0).testBit v with
  |false=>rfl
  |true=>have:=aqq ok ((h.2 i v).mp e);lia
 have key:(λv=>if((aaI r.code).getD i []).contains v=true then 2^v else 0)=λv=>if(L.getD i 0).testBit v=true then 2^v else 0:=by
  funext v;have:((aaI r.code).getD i []).contains v=true<->(L.getD i 0).testBit v=true:=by rw[h.2 i v,<-Z.J1];exact List.contains_iff_mem
  by_cases q:(L.getD i 0).testBit v=true
  ·rw[if_pos q,if_pos (this.mpr q)]
  ·rw[if_neg q,if_neg λz=>q (this.mp z)]
 rw[key];exact Z.P8 64 _ hl
def aqs(h:(zs.all λz=>i_ z 8)=true):xg (x6 zs)=zs:=by
 unfold xg x6;rw[kY]
 conv=>rhs;rw[<-List.map_id zs]
 apply ke;intro z hz;have hz:=uR.mp h z hz
 unfold i_ at hz;rw[eW,decide_eq_true_eq,decide_eq_true_eq]at hz;show(((aaG z.toNat).toNat:Nat):Int)=z;have:(aaG z.toNat).toNat=z.toNat:=by rw[UInt8.toNat_ofNat'];exact at4 (by have:=hz.2;lia)
 rw[this];lia
def aqt(zs:List Int):(x6 zs).length=zs.length:=by unfold x6;rw[aA]
def Ja(H:Hp)(f:Addr):af (eK H f) H:=λ_ _ h=>(v_ h).1
def _root_.L2.af.off(s:af H H')(f:Addr):af (eK H f) (eK H' f):=λ_ _ h=>ir (s _ _ (v_ h).1) (v_ h).2
def Jb(A:aO)(H:Hp)(fd:Addr)(r:jn)(n:Nat):Prop:=∃kvs,H fd=some (.dK kvs)/\kvs.length<=n/\∀(k:Nat)(v:V),cx kvs (bT (k:Int):aT)=some v->∃x,v= .ref x/\lF A (eK H fd) (cp r.labels) x (if k=0 then r.code else jo r k)
def mK(A:aO)(H:Hp)(h:Addr)(r:jn)(n:Nat):Prop:=∃(dx pa la fd:Addr)(L:List Nat),H h=some (.ins A.fX dx (BU (.ref pa) (.ref la) (.ref fd)))/\iu A (eK H fd) (cp r.labels) pa (Z.ju r)/\g8 (cp r.labels) (Z.ju r)/\Z.iG r/\
 NL H la L/\B6 r.code L/\Jb A H fd r n
theorem Jb.same{A:aO}{H H':Hp}{fd:Addr}{r:jn}{n:Nat}(h:Jb A H fd r n)(s:af H H'):Jb A H' fd r n:=
 bc h λkvs a b c=>(aW kvs (s _ _ a) b λk v e=>ar (c k v e) λx e1 e2=>(aF x e1 (e2.same (s.off fd))))
theorem mK.same{A:aO}{H H':Hp}{h:Addr}{r:jn}{n:Nat}(x:mK A H h r n)(s:af H H'):mK A H' h r n:=
 let⟨dx,pa,la,fd,L,a,b,c,d,e,f,g⟩:=x;⟨dx,pa,la,fd,L,s _ _ a,b.same (s.off fd),c,d,s _ _ e,f,g.same s⟩
def mK.more{h:Addr}{m:Nat}(x:mK A H h r n)(hm:n<=m):mK A H h r m:=
 let⟨dx,pa,la,fd,L,a,b,c,d,e,f,kvs,g1,g2,g3⟩:=x;⟨dx,pa,la,fd,L,a,b,c,d,e,f,aW kvs g1 (by lia) g3⟩
def jm(A:aO)(H:Hp)(d:Addr)(s:ot)(n:Nat):Prop:=match s with
 |none=>∃dx,H d=some (.ins A.kK dx (rS .aL))
 |some r=>∃dx h,H d=some (.ins A.kK dx (rS (.ref h)))/\mK A H h r n
theorem jm.same{A:aO}{H H':Hp}{d:Addr}{s:ot}{n:Nat}(x:jm A H d s n)(t:af H H'):jm A H' d s n:=by
 cases s with
 |none=>obtain⟨dx,e⟩:=x;exact⟨dx,t _ _ e⟩
 |some r=>refine bZ x λdx h e y=>?_;exact cD dx h (t _ _ e) (y.same t)
theorem jm.more{A:aO}{H:Hp}{d:Addr}{s:ot}{n m:Nat}(x:jm A H d s n)(hm:n<=m):jm A H d s m:=by
 cases s with
 |none=>exact x
 |some r=>refine bZ x λdx h e y=>?_;exact cD dx h e (y.more hm)
def jm.there{s:ot}(x:jm A H d s n):∃dx v,H d=some (.ins A.kK dx (rS v)):=by
 cases s with
 |none=>obtain⟨dx,e⟩:=x;exact ki dx _ e
 |some r=>refine bZ x λdx h e _=>?_;exact ki dx _ e
def i5(H H':Hp):Prop:=∀b o,(∀C dx fs,o≠ .ins C dx fs)->(∀kvs,o≠ .dK kvs)->H b=some o->H' b=some o
def _root_.L2.af.l(s:af H H'):i5 H H':=λb o _ _ h=>s b o h
def i5.trans{H1 H2:Hp}(a:i5 H H1)(b:i5 H1 H2):i5 H H2:=λc o n1 n2 h=>b c o n1 n2 (a c o n1 n2 h)
def i5.Zk{fs:List (Str×V)}{o:HO}(a:i5 H H')(h:H' d=some (.ins C dx fs)):i5 H (upd H' d o):=λb u n1 n2 q=>by have q':=a b u n1 n2 q;rw[aj (λe=>by subst e;rw[h]at q';exact n1 _ _ _ (eB q').symm)];exact q'
def i5.il(a:i5 H H')(h:IL H b zs):IL H' b zs:=a _ _ (by intro _ _ _ z;cases z) (by intro _ z;cases z) h
def i5.seq{K:aV}{xs:List V}(a:i5 H H')(h:ah K H b xs):ah K H' b xs:=by
 rcases h with(h|⟨o,h⟩)|h
 ·exact .inl (.inl (a _ _ (by intro _ _ _ z;cases z) (by intro _ z;cases z) h))
 ·exact .inl (.inr ⟨o,a _ _ (by intro _ _ _ z;cases z) (by intro _ z;cases z) h⟩)
 ·exact .inr h
def iu.but{lab:Nat->Str}{pa p:Addr}{fs:List (Str×V)}{wk:fg}(h:iu A H lab pa wk)(hp:H p=some (.ins C dx fs))(hf:fs.length<=1)(s:∀b o,b≠p->H b=some o->H' b=some o):iu A H' lab pa wk:=by
 have nk:∀{b:Addr}{C' kH:Addr}{gs:List (Str×V)},H b=some (.ins C' kH gs)->1<gs.length->b≠p:=λ{b C' kH gs} e hg z=>by subst z;rw[hp]at e;injection e with e;injection e with e1 e2 e3;subst e3;lia
 refine bR h λd1 sl ld h1 bp h3=>?_;obtain⟨ps,a1,a2,a3⟩:=bp;refine fQ d1 sl ld (s _ _ (nk h1 (by show 1<5;decide)) h1) (aW ps (s _ _ (cf a1 hp (by simp)) a1) a2 λj q i e1 e2=>?_) (s _ _ (cf h3 hp (by simp)) h3);refine bZ (a3 j q i e1 e2) λd2 u b1 b2=>?_;exact cD d2 u (s _ _ (nk b1 (by show 1<4;decide)) b1) (s _ _ (cf b2 hp (by simp)) b2)
section
variable{P:Program}{w:a9}{K:aV}{mg:Str->Option Value}{A:aO}{base:Heap}
def aqu(A:aO):Sp:=λvs H Q _=>∃(p dx:Addr),vs=[.ref p]/\H p=some (.ins A.kK dx [])/\Q .aL (upd H p (.ins A.kK dx (rS .aL)))
def aqv(T:Txt K mg A):aZ P w K mg base bu 1 A.HF A.HG ["self"] (aqu A):=by
 refine T.j2.F.bM alH (λvs H Q E h=>?_) (λaK Ar outer s H vs Q E hr h=>?_)
 ·refine bZ h λp dx bA _=>?_;obtain rfl:=bA;rfl
 ·refine bb h λp dx bX hp k=>?_;obtain rfl:=bX;exact aq (ax (fj (pv 0) dW rfl)) (vI rfl (cO p _ dx _ rfl hp T.j2.c T.lD (by show 0<1000;decide) k))
def aqw(A:aO):Sp:=λvs H Q _=>∃(p dx pa:Addr)(lab:Nat->Str)(wk:fg),vs=[.ref p, .ref pa]/\H p=some (.ins A.fX dx [])/\iu A H lab pa wk/\g8 lab wk/\
 ∀la L fd H',(∀b o,b≠p->H b=some o->eK H' fd b=some o)->NL H' la L->B6 wk.code L->H' fd=some (.dK [])->H' p=some (.ins A.fX dx (BU (.ref pa) (.ref la) (.ref fd)))->Q .aL H'
def aqx(T:Txt K mg A):aZ P w K mg base bu 3 A.HD A.HE ["self","program"] (aqw A):=by
 refine T.kL.F.bM alG (λvs H Q E h=>?_) (λaK Ar outer s H vs Q E hr h=>?_)
 ·refine qY h λp dx pa lab wk cA _=>?_;obtain rfl:=cA;rfl
 ·refine lT h λp dx pa lab wk di hp Cw=>?_;refine cT Cw λhP ok k=>?_;obtain rfl:=di;intro X_ D_;refine aq (au (fj (pv 0) (pv 1) rfl) (au (fj (pv 0) (bF (W6 T) T.MD hr (ae (pv 1) az)) rfl) (ax (fj (pv 0) vP rfl)))) ?_;refine vI rfl (vI rfl (cO p _ dx _ rfl hp T.kL.c T.HN (by show 0<1000;decide) ?_));have M3:=hP.but hp (by show 0<=1;decide) (H':=upd H p (.ins A.fX dx (dN "program" (.ref pa) []))) (λb o hb hq=>by rw[aj hb];exact hq)
  have fr1:∀b o,b≠p->H b=some o->upd H p (.ins A.fX dx (dN "program" (.ref pa) [])) b=some o:=λb o hb hq=>by rw[aj hb];exact hq
  have h1:upd H p (.ins A.fX dx (dN "program" (.ref pa) [])) p=some (.ins A.fX dx (dN "program" (.ref pa) [])):=ag;generalize upd H p (.ins A.fX dx (dN "program" (.ref pa) []))=H1 at*;refine vI rfl (kj pa lab wk rfl M3 ok λla L H2 s2 hL nZ=>vI rfl (cO p _ dx _ rfl (s2 _ _ h1) T.kL.c T.VB (by show 1<1000;decide) ?_));have nlp:la≠p:=cf hL (s2 _ _ h1) (by simp);have mI:∀b o,b≠p->H b=some o->upd H2 p (.ins A.fX dx (dN "live" (.ref la) (dN "program" (.ref pa) []))) b=some o:=λb o hb hq=>by rw[aj hb];exact s2 _ _ (fr1 b o hb hq)
  have nK:NL (upd H2 p (.ins A.fX dx (dN "live" (.ref la) (dN "program" (.ref pa) [])))) la L:=by show upd _ _ _ _=_;rw[aj nlp];exact hL
  have h2:upd H2 p (.ins A.fX dx (dN "live" (.ref la) (dN "program" (.ref pa) []))) p=some (.ins A.fX dx (dN "live" (.ref la) (dN "program" (.ref pa) []))):=ag;generalize upd H2 p (.ins A.fX dx (dN "live" (.ref la) (dN "program" (.ref pa) [])))=H3 at*;refineλfd i6=>?_;have AY:p≠fd:=bL h2 i6;refine vI rfl (cO p _ dx _ rfl (by rw[aj AY];exact h2) T.kL.c T.wD (by show 2<1000;decide) ?_);refine k la L fd _ (λb o hb hq=>ir (by rw[aj hb,aj (bL (mI b o hb hq) i6)];exact mI b o hb hq) (bL (mI b o hb hq) i6)) ?_ nZ ?_ ag
  ·show upd _ _ _ _=_;rw[aj (cf nK h2 (by simp)),aj (bL nK i6)];exact nK
  ·rw[aj AY.symm,ag]
def aqA:Sp:=λvs H Q _=>∃k:Nat,vs=[nI k]/\Q (.bl (kh k)) H
def Zl(T:Txt K mg A):aZ P w K mg base bu 1 A.Hl A.Hm ["k"] (aqA):=by
 refine T.MG.F.bM alK (λvs H Q E h=>?_) (λaK Ar outer s H vs Q E hr h=>?_)
 ·refine ar h λk eS _=>?_;obtain rfl:=eS;rfl
 ·refine ar h λk eT q=>?_;obtain rfl:=eT;intro X_ D_;refine aq (ax (aQ (RT p_ p_ (cU rfl T.akZ) (pv 0) (cU rfl T.ak5)))) ?_;refine vI rfl (iI (aq rfl (bW (λh=>?_) λh=>?_)))
  ·refine iI ?_;have h3:=of_decide_eq_true h
   have e:decide ((k:Int)<=16)=kh k:=by unfold kh;rw[fu,decide_eq_true_iff,decide_eq_true_iff];omega
   show Q (.bl (decide ((k:Int)<=16))) H;rw[e];exact q
  ·have e:kh k=false:=by unfold kh;apply decide_eq_false;intro z;exact h (decide_eq_true (by lia))
   rw[e]at q;exact q
def sj(h:H b=none):∀xs,H b≠some (.lst xs):=λxs e=>by rw[h]at e;cases e
def zA(s:i5 H H')(h:H' b=none):∀xs,H b≠some (.lst xs):=λxs e=>by rw[s _ _ (by intro _ _ _ z;cases z) (by intro _ z;cases z) e]at h;cases h
def zB(A:aO)(H:Hp)(d:Addr)(s':ot)(n:Nat)(zs:List Int)(Q:VK):Prop:=∀b H',i5 H H'->(∀xs,H b≠some (.lst xs))->IL H' b zs->jm A H' d s' n->Q (.ref b) H'
def aqB(A:aO):Sp:=λvs H Q _=>∃(d:Addr)(s:ot)(n:Nat),vs=[.ref d]/\jm A H d s n/\zB A H d none (n+1) [0] Q
def aqC(T:Txt K mg A):aZ P w K mg base bu 1 A.G_ A.Hb ["desk"] (aqB A):=by
 refine T.begin.F.bM alI (λvs H Q E h=>?_) (λaK Ar outer s H vs Q E hr h=>?_)
 ·refine gb h λd s n ij _=>?_;obtain rfl:=ij;rfl
 ·refine bR h λd s' n l5 hD k=>?_;obtain rfl:=l5;refine lh hD.there λdx v hd=>?_;intro X_ D_;refine aq (au (fj (pv 0) dW rfl) (ax (aQ (cK (ae aS az))))) ?_;refine vI rfl (cO d _ dx _ rfl hd T.j2.c T.lD (by show 1<1000;decide) ?_);refine⟨by show 1<=sizeLine;decide,λb hb=>?_⟩;have Zm:b≠d:=λe=>by subst e;rw[ag]at hb;cases hb
  refine k b _ ((i5.Zk (af.refl H).l hd).trans (af.new hb).l) (sj (by rw[aj Zm]at hb;exact hb)) ag ⟨dx,?_⟩;rw[aj Zm.symm,ag];rfl
def aqD(A:aO):Sp:=λvs H Q _=>∃(d:Addr)(s:ot)(n i:Nat),vs=[.ref d,nI i]/\jm A H d s n/\zB A H d (cS s [[2,(i:Int)]]).1 (n+1) (cS s [[2,(i:Int)]]).2 Q
def aqE(T:Txt K mg A):aZ P w K mg base bu 1 A.Hf A.Hg ["desk","at"] (aqD A):=by
 refine T.live.F.bM alJ (λvs H Q E h=>?_) (λaK Ar outer s H vs Q E hr h=>?_)
 ·refine fR h λd s n i kA _=>?_;obtain rfl:=kA;rfl
 ·refine fR h λd s' n i kB Os=>?_;refine eA Os λhD k=>?_;obtain rfl:=kB;intro X_ D_;refine aq (au (bx (iV (vB (aD (pv 0) rfl))) (ax (aQ (cK (ae (cU rfl T.MM) az)))) bI) (au (bx (bz aex (pv 1) (cV fD T.dF dQ (aD (aD (aD (pv 0) rfl) rfl) rfl)) (bt _)) (ax (aQ (cK (ae (cU rfl T.BR) az)))) bI) (ax (aQ (cK (ae aS (ae (bK bU (aD (aD (pv 0) rfl) rfl) (pv 1) (λ_ _=>rfl)) az))))))) ?_;cases s' with
  |none=>
   obtain⟨dx,hd⟩:=id hD;refine ai rfl hd T.j2.c T.lD rfl (jg ⟨by show 1<=sizeLine;decide,λb hb=>?_⟩);exact k b _ (af.new hb).l (sj hb) ag ((hD.same (af.new hb)).more (sJ n))
  |some r=>
   refine bZ (id hD) λdx h hd hH=>?_;refine lT (id hH) λdh pa la fd L h1 hP Os=>?_;refine fi Os λok n0 hL nZ hF=>?_;refine bR (hP.same (Ja H fd)) λdp sl ld p1 hS p3=>?_;refine ar hS.len λxs j_ nS=>?_;have aw8:xs.length=(aH r.code).length:=nS
   refine ai rfl hd T.j2.c T.lD rfl (jC (vI rfl (ai rfl hd T.j2.c T.lD rfl (gH h1 T.kL.c T.HN rfl (gH p1 T.Program.c T.rR rfl (aB sl _ rfl (.inl (ah.of j_)) (iI (aq rfl (bW (λq=>?_) λq=>?_)))))))))
   ·have hi:(aH r.code).length<=i:=by have:=of_decide_eq_true q;lia
    refine⟨by show 1<=sizeLine;decide,λb hb=>?_⟩;have e:cS (some r) [[2,(i:Int)]]=(some r,[-1]):=by simp[cS,ou,ow,hi,Ql59.only,J0]
    rw[e]at k;exact k b _ (af.new hb).l (sj hb) ag ((hD.same (af.new hb)).more (sJ n))
   ·have hi:¬(aH r.code).length<=i:=λz=>q (decide_eq_true (by lia));have hLl:=nZ.1;obtain⟨m,hm⟩:=d_ (show i<L.length by lia);refine ai rfl hd T.j2.c T.lD rfl (gH h1 T.kL.c T.VB rfl (vI rfl (br (nI m) (ah.of hL) (bw rfl (cF hm)) ⟨by show 2<=sizeLine;decide,λb hb=>?_⟩)));have e:cS (some r) [[2,(i:Int)]]=(some r,[0,(m:Int)]):=by
     have:=aqr n0 nZ i;have e0:L.getD i 0=m:=by rw[ef,hm];rfl
     rw[e0]at this;simp only[cS,ou,ow,gR,if_neg hi,this];simp[J0]
    rw[e]at k;exact k b _ (af.new hb).l (sj hb) ag ((hD.same (af.new hb)).more (sJ n))
end
end
section
variable{H:Hp}{r:jn}
def CH(H H':Hp):Prop:=∀b o,(∀kvs,o≠ .dK kvs)->H b=some o->H' b=some o
def CH.l{H':Hp}(s:CH H H'):i5 H H':=λb o _ n h=>s b o n h
def Zn{k:Nat}:kh k=true<->3<=k/\k<=16:=by unfold kh;exact decide_eq_true_iff
def aqF(ok:Z.iG r):Z.mu (Z.ju r).own (aH (Z.ju r).code)<65:=by have h1:=Z.Kk (Z.ju r).own (aH (Z.ju r).code);have h2:=ok.yj;have h3:(Z.ju r).own=r.vars.length:=rfl;lia
section
variable{P:Program}{w:a9}{K:aV}{mg:Str->Option Value}{A:aO}{base:Heap}
def mK.put{H2:Hp}{h dh pa la fd x:Addr}{L:List Nat}{n k:Nat}{kvs:List (aT×V)}(h1:H h=some (.ins A.fX dh (BU (.ref pa) (.ref la) (.ref fd))))(hP:iu A (eK H fd) (cp r.labels) pa (Z.ju r))(ok:g8 (cp r.labels) (Z.ju r))(n0:Z.iG r)
  (hL:NL H la L) (nZ:B6 r.code L) (i6:H fd=some (.dK kvs)) (hn:kvs.length<=n) (jf:∀(k:Nat)(v:V),cx kvs (bT (k:Int):aT)=some v->∃x,v= .ref x/\lF A (eK H fd) (cp r.labels) x (if k=0 then r.code else jo r k))
  (s2:af (eK H fd) H2) (n2:H2 fd=none) (hF:lF A H2 (cp r.labels) x (if k=0 then r.code else jo r k)):
  CH H (upd (upd H2 fd (.dK kvs)) fd (.dK (dO kvs (bT (k:Int)) (.ref x))))/\mK A (upd (upd H2 fd (.dK kvs)) fd (.dK (dO kvs (bT (k:Int)) (.ref x)))) h r (n+1)/\lF A (upd (upd H2 fd (.dK kvs)) fd (.dK (dO kvs (bT (k:Int)) (.ref x)))) (cp r.labels) x (if k=0 then r.code else jo r k)/\
   upd (upd H2 fd (.dK kvs)) fd (.dK (dO kvs (bT (k:Int)) (.ref x))) fd=some (.dK (dO kvs (bT (k:Int)) (.ref x))):=by
 have eo:eK (upd (upd H2 fd (.dK kvs)) fd (.dK (dO kvs (bT (k:Int)) (.ref x)))) fd=H2:=by rw[j1,j1,wc n2]
 have up:∀b o,H2 b=some o->upd (upd H2 fd (.dK kvs)) fd (.dK (dO kvs (bT (k:Int)) (.ref x))) b=some o:=λb o e=>by have n:b≠fd:=bL e n2;rw[aj n,aj n];exact e
 have fr:CH H (upd (upd H2 fd (.dK kvs)) fd (.dK (dO kvs (bT (k:Int)) (.ref x)))):=λb o nk e=>up b o (s2 _ _ (ir e (λz=>by subst z;rw[i6]at e;exact nk _ (eB e).symm)));refine pH fr ⟨dh,pa,la,fd,L,fr _ _ (by intro _ z;cases z) h1,by rw[eo];exact hP.same s2,ok,n0,fr _ _ (by intro _ z;cases z) hL,nZ,aW _ ag ?_ λj v e=>?_⟩ (hF.same up) ag
 ·have:=vM kvs (bT (k:Int):aT) (.ref x);lia
 ·rw[eo];rw[A7]at e;by_cases hj:j=k
  ·subst hj;rw[if_pos rfl]at e;cases e;exact aF x rfl hF
  ·rw[if_neg (λz=>hj (by have:=zJ z;lia))]at e;refine ar (jf j v e) λy e1 e2=>?_;exact aF y e1 (e2.same s2)
def aqG(A:aO):Sp:=λvs H Q _=>∃(h:Addr)(r:jn)(n k:Nat),vs=[.ref h,nI k]/\mK A H h r n/\n<=1000/\(k=0\/kh k=true)/\
 ∀x H',CH H H'->mK A H' h r (n+1)->lF A H' (cp r.labels) x (if k=0 then r.code else jo r k)->Q (.ref x) H'
def Zo(T:Txt K mg A):aZ P w K mg base bu 7 A.Hn A.Ho ["held","k"] (aqG A):=by
 refine T.MH.F.bM WK (λvs H Q E h=>?_) (λaK Ar outer s H vs Q E hr h=>?_)
 ·refine fR h λh r n k bp _=>?_;obtain rfl:=bp;rfl
 ·obtain⟨h,r,n,k,rfl,⟨dh,pa,la,fd,L,h1,hP,ok,n0,hL,nZ,kvs,i6,hn,jf⟩,Ki,hk,kk⟩:=h;have nd:=WK.nd
  have hu:=nA hr;intro X_ D_;refine⟨_,(au (bx (iV (LH hu (pv 1) (aD (pv 0) rfl))) (ax (yP hu (aD (pv 0) rfl) (pv 1) (p6 (bz b_ (pv 1) aS (bt _)) (bF (anp T).off T.Vf hr (ae (aD (pv 0) rfl) az)) (bF (aoc T).off T.Vg hr (ae (aD (pv 0) rfl) (ae (pv 1) az)))) rfl)) bI) (ax (aQ (vO hu (aD (pv 0) rfl) (pv 1) (λ_ _=>rfl))))),?_⟩;refine⟨_,rfl,_,rfl,gH h1 T.kL.c T.wD rfl ⟨fd,_,rfl,dC.k (k:=bT (k:Int)) i6,_,rfl,?_⟩⟩;cases e:cx kvs (bT (k:Int):aT)with
  |some v=>
   refine bS ?_;obtain⟨x,rfl,hx⟩:=jf k v e;have dg:=dC.k (k:=bT (k:Int)) i6
   rw[e]at dg;exact⟨_,rfl,gH h1 T.kL.c T.wD rfl ⟨_,rfl,fd, .ref x,rfl,dg,kk x H (λ_ _ _ h=>h) ⟨dh,pa,la,fd,L,h1,hP,ok,n0,hL,nZ,kvs,i6,by omega,jf⟩ (hx.same (Ja H fd))⟩⟩
  |none=>
   refine bV ⟨_,rfl,rfl,_,rfl,bW (λq=>?_) λq=>?_⟩
   ·have mf:k=0:=by have:=V.int.inj (of_decide_eq_true q);omega
    refine⟨_,rfl,gH h1 T.kL.c T.HN rfl ⟨fd,kvs,i6,pa,cp r.labels,Z.ju r,rfl,hP,ok,λx H2 nx s2 hF n2=>?_⟩⟩;have Ot:lF A H2 (cp r.labels) x (if k=0 then r.code else jo r k):=by rw[if_pos mf];exact hF
    obtain⟨a1,a2,a3,a4⟩:=mK.put h1 hP ok n0 hL nZ i6 hn jf s2 n2 Ot;have h2:upd H2 fd (.dK kvs) h=some (.ins A.fX dh (BU (.ref pa) (.ref la) (.ref fd))):=by have n:h≠fd:=cf h1 i6 (by simp);rw[aj n];exact s2 _ _ (ir h1 n)
    refine⟨_,rfl,gH h2 T.kL.c T.wD rfl ⟨_,rfl,fd,_,rfl,oU.k (k:=bT (k:Int)) ag (cI (by omega)),?_⟩⟩;have dg:=dC.k (k:=bT (k:Int)) a4
    rw[A7,if_pos rfl]at dg;exact⟨_,rfl,gH (a1 _ _ (by intro _ z;cases z) h1) T.kL.c T.wD rfl ⟨_,rfl,fd, .ref x,rfl,dg,kk x _ a1 a2 a3⟩⟩
   ·have mf:k≠0:=λz=>q (by rw[z];rfl);have hk3:=Zn.mp (hk.resolve_left mf);refine⟨_,rfl,gH h1 T.kL.c T.HN rfl ⟨_,rfl,fd,kvs,i6,pa,cp r.labels,Z.ju r,k,65,rfl,hP,ok,hk3.1,by omega,aqF n0,λx H2 nx s2 hF n2=>?_⟩⟩;have Ot:lF A H2 (cp r.labels) x (if k=0 then r.code else jo r k):=by rw[if_neg mf];exact hF
    obtain⟨a1,a2,a3,a4⟩:=mK.put h1 hP ok n0 hL nZ i6 hn jf s2 n2 Ot;have h2:upd H2 fd (.dK kvs) h=some (.ins A.fX dh (BU (.ref pa) (.ref la) (.ref fd))):=by have n:h≠fd:=cf h1 i6 (by simp);rw[aj n];exact s2 _ _ (ir h1 n)
    refine ai rfl h2 T.kL.c T.wD rfl (vI rfl (aB fd _ rfl (oU.k (k:=bT (k:Int)) ag (cI (by omega))) ?_));have dg:=dC.k (k:=bT (k:Int)) a4
    rw[A7,if_pos rfl]at dg;exact ai rfl (a1 _ _ (by intro _ z;cases z) h1) T.kL.c T.wD rfl (vI rfl (aB fd (.ref x) rfl dg (kk x _ a1 a2 a3)))
end
end
section
theorem Zp(k:Nat):∀(f:Nat)(w:fg),Z.aN (PM k f w)=Z.aN w.code
 |0,w=>rfl
 |f+1,w=>by
  rw[Z.Kn];by_cases h:Z.dv w k=[]
  ·rw[if_pos h,Z.Q8]
  ·rw[if_neg h,Zp k f];exact Z.vh _ _ _ _
def aqI(r:jn)(k:Nat):Z.aN (jo r k)=Z.aN r.code:=by rw[Z.aci,Zp];rfl
section
variable{P:Program}{w:a9}{K:aV}{mg:Str->Option Value}{A:aO}{base:Heap}
def aqJ(A:aO):Sp:=λvs H Q _=>∃(d:Addr)(s:ot)(n k most:Nat),vs=[.ref d,nI k,nI most]/\jm A H d s n/\n<=1000/\zB A H d (cS s [[3,(k:Int),(most:Int)]]).1 (n+1) (cS s [[3,(k:Int),(most:Int)]]).2 Q
def aqK(T:Txt K mg A):aZ P w K mg base bu 8 A.Hh A.Hi ["desk","k","most"] (aqJ A):=by
 refine T.write.F.bM WI (λvs H Q E h=>?_) (λaK Ar outer s H vs Q E hr h=>?_)
 ·refine qY h λd s n k most bp _=>?_;obtain rfl:=bp;rfl
 ·refine lT h λd s' n k most bA hD c0=>?_;refine eA c0 λhn kk=>?_;obtain rfl:=bA;have nd:=WI.nd
  intro X_ D_;refine aq (au (bx (iV (vB (aD (pv 0) rfl))) (ax (aQ (cK (ae (cU rfl T.MM) az)))) bI) (au (bx (PW.pt (l6 (vC (je (bF (Zl T) T.MG hr (ae (pv 1) az)))) (pZ (bz oO (pv 2) (cU rfl T.ak_) (bt _))))) (ax (aQ (cK (ae (cU rfl T.BR) az)))) bI) (au (pS nd 3 (bF (ao4 T) T.written hr (ae (bF (Zo T) T.MH hr (ae (aD (pv 0) rfl) (ae (pv 1) az))) az))) (au (bx (bz oO (cV fD T.dF dQ (pv 3)) (pv 2) (bt _)) (ax (aQ (cK (ae (cU rfl T.alc) az)))) bI) (ax (aQ (b9 Ln (cK (ae (cV fD T.dF dQ (pv 3)) az)) (pv 3)))))))) ?_;cases s' with
  |none=>
   obtain⟨dx,hd⟩:=id hD;refine ai rfl hd T.j2.c T.lD rfl (jg ⟨by show 1<=sizeLine;decide,λb hb=>?_⟩);exact kk b _ (af.new hb).l (sj hb) ag ((hD.same (af.new hb)).more (sJ n))
  |some r=>
   refine bZ (id hD) λdx h hd hH=>?_;have bad:(kh k=false\/awk<most)->∀b,H b=none->Q (.ref b) (upd H b (.lst [V.int (-1)])):=λq b hb=>by
    have e:cS (some r) [[3,(k:Int),(most:Int)]]=(some r,[-1]):=by simp only[cS,ou,ow,gR,if_pos q];rfl
    rw[e]at kk;exact kk b _ (af.new hb).l (sj hb) ag ((hD.same (af.new hb)).more (sJ n))
   refine ai rfl hd T.j2.c T.lD rfl (jC (vI rfl (aF k rfl (aq rfl ?_))));cases km:kh k with
   |false=>exact bV (bV ⟨by show 1<=sizeLine;decide,λb hb=>bad (.inl km) b hb⟩)
   |true=>
    refine bS (vI rfl (iI (aq rfl (bW (λq=>?_) λq=>?_))))
    ·have hq:(262144:Int)<(most:Int):=of_decide_eq_true q;exact⟨by show 1<=sizeLine;decide,λb hb=>bad (.inr (by show 262144<most;omega)) b hb⟩
    ·have hm:¬(kh k=false\/awk<most):=by
      rintro(z|z)
      ·rw[km]at z;cases z
      ·have z':262144<most:=z;exact q (decide_eq_true (by omega))
     have mf:k≠0:=λz=>by have:=(Zn.mp km).1;lia
     refine lT (id hH) λ_ _ _ _ _ _ _ c0=>?_;refine cT c0 λ_ n0 _=>?_;refine ai rfl hd T.j2.c T.lD rfl (vI rfl (gC h r n k rfl hH hn (.inr km) λx H2 s2 CI hF=>?_));rw[if_neg mf]at hF;refine⟨x,cp r.labels,jo r k,r.labels,rfl,hF,by rw[aqI];exact ap4 n0,λb H3 hb s3 hI hlen=>?_⟩;have bj:jm A H3 d (some r) (n+1):=(cD dx h (s3 _ _ (s2 _ _ (by intro _ z;cases z) hd)) (CI.same s3))
     have qI:((BI ((jo r k).flatMap (iB r.labels))).map V.int).length=((jo r k).flatMap (iB r.labels)).length:=by unfold BI;rw[aA,aA]
     have e0:cS (some r) [[3,(k:Int),(most:Int)]]=(some r,if most<((jo r k).flatMap (iB r.labels)).length then [-5]else((((jo r k).flatMap (iB r.labels)).length:Nat):Int)::BI ((jo r k).flatMap (iB r.labels))):=by
      simp only[cS,ou,ow,gR,if_neg hm];by_cases z:most<((jo r k).flatMap (iB r.labels)).length
      ·rw[if_pos z,if_pos z];rfl
      ·rw[if_neg z,if_neg z];show(some r,_)=_;simp only[J0,qR];rfl
     rw[e0]at kk;generalize(jo r k).flatMap (iB r.labels)=tx at*;have sL:i5 H H3:=s2.l.trans s3.l
     refine vI rfl (aB b _ rfl (.inl (ah.of hI)) (vI rfl (iI (aq rfl (bW (λq2=>?_) λq2=>?_)))))
     ·have nR:=of_decide_eq_true q2;have bH:most<tx.length:=by rw[qI]at nR;lia
      refine⟨by show 1<=sizeLine;decide,λb2 jh=>?_⟩;rw[if_pos bH]at kk;exact kk b2 _ (sL.trans (af.new jh).l) (zA sL jh) ag (bj.same (af.new jh))
     ·have lU:¬most<tx.length:=λz=>q2 (decide_eq_true (by rw[qI];omega));rw[if_neg lU]at kk;refine vI rfl (cC b _ rfl (.inl (ah.of hI)) (by show 1<=sizeLine;decide) λl1 Zq=>vI rfl (cO l1 b _ _ rfl rfl ag (af.new Zq _ _ hI) ?_ λb2 jh=>?_))
      ·have hmr:most<=262144:=aaJ λz=>hm (.inr z);rw[qI];show 1+tx.length<=sizeLine;exact g9 (by lia)
      ·have s4:=af.new (o:= .lst [V.int ((BI tx).map V.int).length]) Zq;have s5:=s4.trans (af.new (o:= .lst ([V.int ((BI tx).map V.int).length]++(BI tx).map V.int)) jh);refine kk b2 _ (sL.trans s5.l) (zA (sL.trans s4.l) jh) ?_ (bj.same s5);show upd _ _ _ _=_;rw[ag,qI];rfl
def aqL(A:aO):Sp:=λvs H Q _=>∃(d ga:Addr)(s:ot)(n k steps most:Nat)(nums:List Int),vs=[.ref d,nI k,nI steps,nI most, .ref ga]/\jm A H d s n/\n<=1000/\IL H ga nums/\(∀z∈nums,Z.cz z)/\
 zB A H d (cS s [[4,(k:Int),(nums.length:Int),(steps:Int),(most:Int)],nums]).1 (n+1) (cS s [[4,(k:Int),(nums.length:Int),(steps:Int),(most:Int)],nums]).2 Q
def aqM(T:Txt K mg A)(OD:lA P w K A.lC (lH A)):aZ P w K mg base bu 8 A.Hj A.Hk ["desk","k","steps","most","given"] (aqL A):=by
 refine T.Vz.F.bM WJ (λvs H Q E h=>?_) (λaK Ar outer s H vs Q E hr h=>?_)
 ·refine dS h λd ga s n k steps kx=>?_;refine bZ kx λmost nums bX _=>?_;obtain rfl:=bX;rfl
 ·refine dS h λd ga s' n k steps gF=>?_;refine iE gF λmost nums cA hD hn Jc NH=>?_;refine eA NH λuy kk=>?_;obtain rfl:=cA;have nd:=WJ.nd
  intro X_ D_;refine aq (au (bx (iV (vB (aD (pv 0) rfl))) (ax (aQ (cK (ae (cU rfl T.MM) az)))) bI) (au (bx (PW.pt (rA (bz vG (pv 1) aS (bt _)) (yx (vC (je (bF (Zl T) T.MG hr (ae (pv 1) az))))))) (ax (aQ (cK (ae (cU rfl T.BR) az)))) bI) (au (bx (PW.pt (l6 (bz oO (cV fD T.dF dQ (pv 4)) (cU rfl T.ak3) (bt _)) (l6 (bz oO (pv 3) (cU rfl T.ak4) (bt _)) (pZ (bz oO (pv 2) (cU rfl T.ak6) (bt _)))))) (ax (aQ (cK (ae (cU rfl T.BR) az)))) bI) (ax (aQ (bF (aoz T OD) T.run hr (ae (bF (Zo T) T.MH hr (ae (aD (pv 0) rfl) (ae (pv 1) az))) (ae (pv 4) (ae (pv 2) (ae (pv 3) az)))))))))) ?_;cases s' with
  |none=>
   obtain⟨dx,hd⟩:=id hD;refine ai rfl hd T.j2.c T.lD rfl (jg ⟨by show 1<=sizeLine;decide,λb hb=>?_⟩);exact kk b _ (af.new hb).l (sj hb) ag ((hD.same (af.new hb)).more (sJ n))
  |some r=>
   refine bZ (id hD) λdx h hd hH=>?_;have bad:((k !=0&&!(kh k))=true\/x8<nums.length\/x8<most\/aaK<steps)->∀b,H b=none->Q (.ref b) (upd H b (.lst [V.int (-1)])):=λq b hb=>by
    have e:cS (some r) [[4,(k:Int),(nums.length:Int),(steps:Int),(most:Int)],nums]=(some r,[-1]):=by simp only[cS,ou,ow,gR,if_pos q];rfl
    rw[e]at kk;exact kk b _ (af.new hb).l (sj hb) ag ((hD.same (af.new hb)).more (sJ n))
   refine ai rfl hd T.j2.c T.lD rfl (jC (vI rfl (cg rfl _ rfl (bW (λq=>?_) λq=>?_))))
   ·have mf:k≠0:=λz=>by subst z;cases q
    refine vI rfl (aF k rfl (aq rfl ?_));cases km:kh k with
    |false=>exact bV ⟨by show 1<=sizeLine;decide,λb hb=>bad (.inl (by rw[km];simpa using mf)) b hb⟩
    |true=>
     have hk:k=0\/kh k=true:= .inr km;refine bS ?_;refine vI rfl (aB ga _ rfl (.inl (ah.of Jc)) (iI (aq rfl (bW (λq1=>bV ⟨by show 1<=sizeLine;decide,λb hb=>bad (.inr (.inl (by have z:(65536:Int)<((nums.map V.int).length:Int):=of_decide_eq_true q1;rw[aA]at z;show 65536<nums.length;lia))) b hb⟩) λq1=>vI rfl (iI (aq rfl (bW (λq2=>bV ⟨by show 1<=sizeLine;decide,λb hb=>bad (.inr (.inr (.inl (by have z:(65536:Int)<(most:Int):=of_decide_eq_true q2;show 65536<most;omega)))) b hb⟩) λq2=>vI rfl (iI (aq rfl (bW (λq3=>⟨by show 1<=sizeLine;decide,λb hb=>bad (.inr (.inr (.inr (by have z:(10000000:Int)<(steps:Int):=of_decide_eq_true q3;show 10000000<steps;omega)))) b hb⟩) λq3=>?_))))))))));have fZ:¬(65536:Int)<((nums.map V.int).length:Int):=λz=>q1 (decide_eq_true z);have nR:¬(65536:Int)<(most:Int):=λz=>q2 (decide_eq_true z);have Cs:¬(10000000:Int)<(steps:Int):=λz=>q3 (decide_eq_true z);rw[aA]at fZ;refine ai rfl hd T.j2.c T.lD rfl (vI rfl (gC h r n k rfl hH hn hk λx H2 s2 CI hF=>vI rfl (vI rfl (vI rfl ⟨x,ga,cp r.labels,_,steps,most,nums,rfl,hF,s2.l.il Jc,uy,by lia,by lia,λb H3 hb s3 hI=>?_⟩))));have hm:¬((k !=0&&!(kh k))=true\/x8<nums.length\/x8<most\/aaK<steps):=by
      rintro(z|z|z|z)
      ·rcases hk with e|e
       ·subst e;cases z
       ·rw[e]at z;simp at z
      ·have z':65536<nums.length:=z;lia
      ·have z':65536<most:=z;lia
      ·have z':10000000<steps:=z;lia
     have e0:cS (some r) [[4,(k:Int),(nums.length:Int),(steps:Int),(most:Int)],nums]=(some r,Iw (lR (if k=0 then r.code else jo r k) most steps 0 (pF nums))):=by simp only[cS,ou,ow,gR,if_neg hm];rfl
     rw[e0]at kk;exact kk b H3 (s2.l.trans s3.l) (zA s2.l hb) hI (cD dx h (s3 _ _ (s2 _ _ (by intro _ z;cases z) hd)) (CI.same s3))
   ·have mf:k=0:=by
     cases hd:decide (nI k=V.int 0)with
     |true=>have:=V.int.inj (of_decide_eq_true hd);lia
     |false=>exact absurd (by rw[hd];rfl) q
    have hk:k=0\/kh k=true:= .inl mf;refine bS ?_;refine vI rfl (aB ga _ rfl (.inl (ah.of Jc)) (iI (aq rfl (bW (λq1=>bV ⟨by show 1<=sizeLine;decide,λb hb=>bad (.inr (.inl (by have z:(65536:Int)<((nums.map V.int).length:Int):=of_decide_eq_true q1;rw[aA]at z;show 65536<nums.length;lia))) b hb⟩) λq1=>vI rfl (iI (aq rfl (bW (λq2=>bV ⟨by show 1<=sizeLine;decide,λb hb=>bad (.inr (.inr (.inl (by have z:(65536:Int)<(most:Int):=of_decide_eq_true q2;show 65536<most;omega)))) b hb⟩) λq2=>vI rfl (iI (aq rfl (bW (λq3=>⟨by show 1<=sizeLine;decide,λb hb=>bad (.inr (.inr (.inr (by have z:(10000000:Int)<(steps:Int):=of_decide_eq_true q3;show 10000000<steps;omega)))) b hb⟩) λq3=>?_))))))))));have fZ:¬(65536:Int)<((nums.map V.int).length:Int):=λz=>q1 (decide_eq_true z);have nR:¬(65536:Int)<(most:Int):=λz=>q2 (decide_eq_true z);have Cs:¬(10000000:Int)<(steps:Int):=λz=>q3 (decide_eq_true z);rw[aA]at fZ;refine ai rfl hd T.j2.c T.lD rfl (vI rfl (gC h r n k rfl hH hn hk λx H2 s2 CI hF=>vI rfl (vI rfl (vI rfl ⟨x,ga,cp r.labels,_,steps,most,nums,rfl,hF,s2.l.il Jc,uy,by lia,by lia,λb H3 hb s3 hI=>?_⟩))));have hm:¬((k !=0&&!(kh k))=true\/x8<nums.length\/x8<most\/aaK<steps):=by
     rintro(z|z|z|z)
     ·rcases hk with e|e
      ·subst e;cases z
      ·rw[e]at z;simp at z
     ·have z':65536<nums.length:=z;lia
     ·have z':65536<most:=z;lia
     ·have z':10000000<steps:=z;lia
    have e0:cS (some r) [[4,(k:Int),(nums.length:Int),(steps:Int),(most:Int)],nums]=(some r,Iw (lR (if k=0 then r.code else jo r k) most steps 0 (pF nums))):=by simp only[cS,ou,ow,gR,if_neg hm];rfl
    rw[e0]at kk;exact kk b H3 (s2.l.trans s3.l) (zA s2.l hb) hI (cD dx h (s3 _ _ (s2 _ _ (by intro _ z;cases z) hd)) (CI.same s3))
end
end
section
section
variable{P:Program}{w:a9}{K:aV}{mg:Str->Option Value}{A:aO}{base:Heap}
def aqN(A:aO):Sp:=λvs H Q _=>∃(d ta:Addr)(s:ot)(n:Nat)(zs:List Int),vs=[.ref d, .ref ta]/\jm A H d s n/\IL H ta zs/\(zs.all λz=>i_ z 8)=true/\
 zB A H d (cS s [[1,(zs.length:Int)],zs]).1 (n+1) (cS s [[1,(zs.length:Int)],zs]).2 Q
def aqO(T:Txt K mg A)(OD:lA P w K A.lC (lH A)):aZ P w K mg base bu 7 A.Hc A.He ["desk","text"] (aqN A):=by
 refine T.read.F.bM WH (λvs H Q E h=>?_) (λaK Ar outer s H vs Q E hr h=>?_)
 ·refine qY h λd ta s n zs bp _=>?_;obtain rfl:=bp;rfl
 ·refine lT h λd ta s' n zs bA hD c0=>?_;refine cT c0 λZr h8 kk=>?_;obtain rfl:=bA;have nd:=WH.nd
  intro X_ D_;refine aq (au (bx (bz oO (cV fD T.dF dQ (pv 1)) (cU rfl T.ak8) (bt _)) (ax (aQ (cK (ae (cU rfl T.BR) az)))) bI) (au (aku 2 3 rfl rfl T.BP (aqc T OD) hr T.HI.m T.HI.F.kp T.HI.b T.MJ nd (λW=>pv 1) (λe=>ax (aQ (cK (ae (akf T.BP Y3 (pv 3) rfl) az))))) (au (fj (pv 0) (gk (aqx T) T.kL hr (ae (pv 2) az)) rfl) (ax (aQ (cK (ae aS az))))))) ?_;refine vI rfl (aB ta _ rfl (.inl (ah.of Zr)) (iI (aq rfl (bW (λq=>?_) λq=>?_))))
  ·have hq:(65536:Int)<((zs.map V.int).length:Int):=of_decide_eq_true q;rw[aA]at hq;have hl:x8<zs.length:=by show 65536<zs.length;lia
   refine⟨by show 1<=sizeLine;decide,λb hb=>?_⟩;have e:cS s' [[1,(zs.length:Int)],zs]=(s',[-1]):=by simp only[cS,ou,ow,gR,if_pos hl];rfl
   rw[e]at kk;exact kk b _ (af.new hb).l (sj hb) ag ((hD.same (af.new hb)).more (sJ n))
  ·have hq:¬(65536:Int)<((zs.map V.int).length:Int):=λz=>q (decide_eq_true z);rw[aA]at hq;have hl:¬x8<zs.length:=λz=>by have z':65536<zs.length:=z;lia
   have e0:cS s' [[1,(zs.length:Int)],zs]=match Dn (x6 zs)with
     | .ok r=>(some r,[0])
     | .error k=>(s',[(k:Int)]):=by
    simp only[cS,ou,ow,gR,if_neg hl];cases Dn (x6 zs)<;>rfl
   refine vI rfl (gU ta (x6 zs) rfl (by rw[aqs h8];exact Zr) (by rw[aqt];lia) (λr km p H2 np s2 hP ok n0=>?_) λk hk x dx H2 nx s2 Me bQ=>?_)
   ·rw[km]at e0;rw[e0]at kk;refine lh hD.there λdd v hd=>?_;refine vI rfl λh sk nh Zs neh=>⟨h,sk,p,cp r.labels,Z.ju r,rfl,ag,hP.same ((af.new Zs).upd nh),ok,λla L fd H3 fr hL nZ i6 hh=>⟨rfl,?_⟩⟩;have sA:af H2 (upd (upd H2 sk (.own h)) h (.ins A.fX sk [])):=(af.new Zs).upd nh
    have hPA:=hP.same sA;have hhA:upd (upd H2 sk (.own h)) h (.ins A.fX sk []) h=some (.ins A.fX sk []):=ag;generalize upd (upd H2 sk (.own h)) h (.ins A.fX sk [])=HA at*;have s23:af H2 H3:=λb o e=>(v_ (fr b o (bL e nh) (sA _ _ e))).1;have s3:=s2.trans s23;have ur:=s3 _ _ hd;have hP3:=hPA.but hhA (by show 0<=1;decide) fr;have nhd:h≠d:=(bL (s2 _ _ hd) nh).symm;have Zt:fd≠d:=cf i6 ur (by simp);have IW:la≠d:=cf hL ur (by simp);refine vI rfl (cO d _ dd _ rfl ur T.j2.c T.lD (by show 1<1000;decide) ?_);have nL:jm A (upd H3 d (.ins A.kK dd (dN "held" (.ref h) (rS v)))) d (some r) (n+1):=by refine cD dd h ag ⟨sk,p,la,fd,L,by rw[aj nhd];exact hh,?_,ok,n0,by show upd _ _ _ _=_;rw[aj IW];exact hL,nZ,aW [] (by rw[aj Zt];exact i6) (iO _) λj v' e=>by cases e⟩;refine hP3.but (p:=d) (ir ur Zt.symm) (by show 1<=1;decide) λb o hb hq=>?_;obtain⟨e1,e2⟩:=v_ hq;exact ir (by rw[aj hb];exact e1) e2
    have sL:i5 H (upd H3 d (.ins A.kK dd (dN "held" (.ref h) (rS v)))):=i5.Zk s3.l ur;generalize upd H3 d (.ins A.kK dd (dN "held" (.ref h) (rS v)))=H4 at*;refine⟨by show 1<=sizeLine;decide,λb hb=>?_⟩;exact kk b _ (sL.trans (af.new hb).l) (zA sL hb) ag (nL.same (af.new hb))
   ·rw[hk]at e0;rw[e0]at kk;refine aB x dx rfl rfl λvs hx fT=>?_;have s3:af H (upd H2 x (.ext (XO x A.qk (some dx) fT))):=s2.upd nx
    refine vI rfl (gC x dx fT _ rfl ag (by rw[aj bQ];exact Me) (by show 1<=sizeLine;decide) λb hb=>?_);exact kk b _ (s3.trans (af.new hb)).l (zA s3.l hb) ag ((hD.same (s3.trans (af.new hb))).more (sJ n))
end
end
section
variable{z:Int}
def Ou(p:Int)(nums row:List Int)(c:List (List Int)):Prop:=
 (p=0/\c=[[0]])\/(p=1/\c=[[1,(row.length:Int)],row])\/(p=2/\∃a,nums=[a]/\c=[[2,a]])\/(p=3/\∃a b,nums=[a,b]/\c=[[3,a,b]])\/(p=4/\∃a b e,nums=[a,b,e]/\c=[[4,a,(row.length:Int),b,e],row])
def uE{n:Nat}(h:i_ z n=true):∃k:Nat,z=(k:Int):=by unfold i_ at h;rw[eW,decide_eq_true_eq,decide_eq_true_eq]at h;exact⟨z.toNat,by lia⟩
def aqU(h:PU z=true):Z.cz z:=by unfold PU at h;rw[eW,decide_eq_true_eq,decide_eq_true_eq]at h;exact h
section
variable{P:Program}{w:a9}{K:aV}{mg:Str->Option Value}{A:aO}{base:Heap}
def aqV(A:aO):Sp:=λvs H Q _=>∃(d na ra:Addr)(s:ot)(n:Nat)(p:Int)(nums row:List Int)(c:List (List Int)),vs=[.ref d, .int p, .ref na, .ref ra]/\jm A H d s n/\n<=1000/\IL H na nums/\IL H ra row/\Ou p nums row c/\aaL c=true/\
 zB A H d (cS s c).1 (n+1) (cS s c).2 Q
def aqW(T:Txt K mg A)(OD:lA P w K A.lC (lH A)):aZ P w K mg base bu 9 A.G8 A.G9 ["desk","call","numbers","row"] (aqV A):=by
 refine T.answer.F.bM WG (λvs H Q E h=>?_) (λaK Ar outer s H vs Q E hr h=>?_)
 ·refine dS h λd na ra s n p ib=>?_;refine gb ib λnums row c bp _=>?_;obtain rfl:=bp;rfl
 ·refine dS h λd na ra s' n p c0=>?_;refine bR c0 λnums row c bA hD rP=>?_;refine iR rP λhn fm CJ hc ha kk=>?_;obtain rfl:=bA;have nd:=WG.nd
  intro X_ D_;refine aq (au (bx (bz b_ (pv 1) (cU rfl T.akY) (bt _)) (ax (aQ (bF (aqC T) T.begin hr (ae (pv 0) az)))) bI) (au (bx (bz b_ (pv 1) (cU rfl T.alb) (bt _)) (ax (aQ (bF (aqO T OD) T.read hr (ae (pv 0) (ae (pv 3) az))))) bI) (au (bx (bz b_ (pv 1) (cU rfl T.ak0) (bt _)) (ax (aQ (bF (aqE T) T.live hr (ae (pv 0) (ae (bK bU (pv 2) aS (λ_ _=>rfl)) az))))) bI) (au (bx (bz b_ (pv 1) (cU rfl T.ale) (bt _)) (ax (aQ (bF (aqK T) T.write hr (ae (pv 0) (ae (bK bU (pv 2) aS (λ_ _=>rfl)) (ae (bK bU (pv 2) aS (λ_ _=>rfl)) az)))))) bI) (ax (aQ (bF (aqM T OD) T.Vz hr (ae (pv 0) (ae (bK bU (pv 2) aS (λ_ _=>rfl)) (ae (bK bU (pv 2) aS (λ_ _=>rfl)) (ae (bK bU (pv 2) aS (λ_ _=>rfl)) (ae (pv 3) az)))))))))))) ?_;rcases hc with⟨rfl,rfl⟩|⟨rfl,rfl⟩|⟨rfl,a,rfl,rfl⟩|⟨rfl,a,b,rfl,rfl⟩|⟨rfl,a,b,e,rfl,rfl⟩
  ·exact vI rfl (dP rfl (vI rfl (fQ d s' n rfl hD kk)))
  ·have jr:(i_ (row.length:Int) 32&&(row.all (λ(z:Int)=>i_ z 8)&&aaM row (row.length:Int) 0 65536))=true:=ha;rw[eW,eW]at jr;exact vI rfl (aE rfl (vI rfl (dP rfl (vI rfl (vI rfl ⟨d,ra,s',n,row,rfl,hD,CJ,jr.2.1,kk⟩)))))
  ·obtain⟨i,rfl⟩:=uE (show i_ a 32=true from ha);exact vI rfl (aE rfl (vI rfl (aE rfl (vI rfl (dP rfl (vI rfl (vI rfl (br (nI i) (ah.of fm) (bw (j:=0) rfl rfl) ⟨d,s',n,i,rfl,hD,kk⟩))))))))
  ·have jr:(i_ a 32&&i_ b 32)=true:=ha;rw[eW]at jr;obtain⟨k,rfl⟩:=uE jr.1;obtain⟨m,rfl⟩:=uE jr.2;exact vI rfl (aE rfl (vI rfl (aE rfl (vI rfl (aE rfl (vI rfl (dP rfl (vI rfl (vI rfl (br (nI k) (ah.of fm) (bw (j:=0) rfl rfl) (vI rfl (br (nI m) (ah.of fm) (bw (j:=1) rfl rfl) (sW d s' n k m rfl hD hn kk)))))))))))))
  ·have jr:(i_ a 32&&(i_ (row.length:Int) 32&&(i_ b 32&&(i_ e 32&&(row.all PU&&aaM row (row.length:Int) 0 65536)))))=true:=ha;rw[eW,eW,eW,eW,eW]at jr;refine iR jr λh1 _ h2 h3 h4 _=>?_;obtain⟨k,rfl⟩:=uE h1;obtain⟨st,rfl⟩:=uE h2;obtain⟨m,rfl⟩:=uE h3;exact vI rfl (aE rfl (vI rfl (aE rfl (vI rfl (aE rfl (vI rfl (aE rfl (vI rfl (vI rfl (br (nI k) (ah.of fm) (bw (j:=0) rfl rfl) (vI rfl (br (nI st) (ah.of fm) (bw (j:=1) rfl rfl) (vI rfl (br (nI m) (ah.of fm) (bw (j:=2) rfl rfl) (vI rfl ⟨d,ra,s',n,k,st,m,row,rfl,hD,hn,CJ,λz hz=>aqU (uR.mp h4 z hz),kk⟩)))))))))))))))
end
end
section
variable{p:Int}{c:List (List Int)}
def aqX{r t:List Int}(h:Js kZ (p::r)=some (c,t)):∃(j wn:Nat)(b:Bool)(row:List Int),p=(j:Int)/\([0,0,1,2,3]:List Nat)[j]?=some wn/\([false,true,false,false,true]:List Bool)[j]?=some b/\wn<=r.length/\
  Ou p (r.take wn) row (gT c)/\(b=false->row=[]/\t=r.drop wn)/\(b=true->∃n r',r.drop wn=n::r'/\0<=n/\n.toNat<=r'.length/\row=r'.take n.toNat/\t=r'.drop n.toNat):=by
 rcases Z.acv h with⟨rfl,rfl,rfl⟩|⟨rfl,n,r',rfl,h1,h2,rfl,rfl⟩|⟨rfl,a,r',rfl,rfl,rfl⟩|⟨rfl,a,b,r',rfl,rfl,rfl⟩|⟨rfl,a,b,e,n,r',rfl,h1,h2,rfl,rfl⟩
 ·exact⟨0,0,false,[],rfl,rfl,rfl,iO _, .inl ⟨rfl,rfl⟩,λ_=>⟨rfl,rfl⟩,λz=>nomatch z⟩
 ·exact⟨1,0,true,r'.take n.toNat,rfl,rfl,rfl,iO _, .inr (.inl ⟨rfl,rfl⟩),(λz=>nomatch z),λ_=>gU n r' rfl h1 h2 rfl rfl⟩
 ·exact⟨2,1,false,[],rfl,rfl,rfl,by simp, .inr (.inr (.inl (cg rfl a rfl rfl))),λ_=>⟨rfl,rfl⟩,λz=>nomatch z⟩
 ·exact⟨3,2,false,[],rfl,rfl,rfl,by simp, .inr (.inr (.inr (.inl (k_ rfl a b rfl rfl)))),λ_=>⟨rfl,rfl⟩,λz=>nomatch z⟩
 ·exact⟨4,3,true,r'.take n.toNat,rfl,rfl,rfl,by simp, .inr (.inr (.inr (.inr ⟨rfl,a,b,e,rfl,rfl⟩))),(λz=>nomatch z),λ_=>gU n r' rfl h1 h2 rfl rfl⟩
def Zu{s:ot}{nums row:List Int}(hc:Ou p nums row c)(ha:aaL c=true):(cS s c).2.length<=Z.cost c:=by
 unfold Z.cost;rcases hc with⟨rfl,rfl⟩|⟨rfl,rfl⟩|⟨rfl,a,rfl,rfl⟩|⟨rfl,a,b,rfl,rfl⟩|⟨rfl,a,b,e,rfl,rfl⟩
 ·show 1<=_;lia
 ·simp only[cS,ou,ow];split
  ·show 1<=_;lia
  ·cases Dn (x6 row)<;>(show 1<=_;omega)
 ·simp only[cS,ou,ow];cases s with
  |none=>show 1<=_;lia
  |some r=>
   simp only[];split
   ·show 1<=_;lia
   ·show 2<=_;lia
 ·have jr:(i_ a 32&&i_ b 32)=true:=ha;rw[eW]at jr;obtain⟨m,rfl⟩:=uE jr.2;simp only[cS,ou,ow,gR];cases s with
  |none=>show 1<=_;lia
  |some r=>
   simp only[];split
   ·show 1<=_;omega
   ·rename_i h;split
    ·show 1<=_;lia
    ·rename_i h2;have hm:m<=262144:=aaJ λz=>h (.inr z)
     have e:O0 [[3,a,(m:Int)]]=m:=by show(if(m:Int)<=262144 then(m:Int).toNat else 0)=m;rw[if_pos (by lia),gR]
     rw[e];simp[J0]at h2⊢;lia
 ·have jr:(i_ a 32&&(i_ (row.length:Int) 32&&(i_ b 32&&(i_ e 32&&(row.all PU&&aaM row (row.length:Int) 0 65536)))))=true:=ha;rw[eW,eW,eW,eW,eW]at jr;obtain⟨m,rfl⟩:=uE jr.2.2.2.1;simp only[cS,ou,ow,gR];cases s with
  |none=>show 1<=_;lia
  |some r=>
   simp only[];split
   ·show 1<=_;omega
   ·rename_i h;have hm:m<=65536:=aaJ λz=>h (.inr (.inr (.inl z)))
    have eM:O0 [[4,a,(row.length:Int),b,(m:Int)],row]=m:=by show(if(m:Int)<=65536 then(m:Int).toNat else 0)=m;rw[if_pos (by lia),gR]
    rw[eM];have ho:=Z.Ra (if a.toNat=0 then r.code else jo r a.toNat) m b.toNat 0 (pF row) (iO _)
    simp[J0]at ho⊢;lia
def Zv(ns:List Int){lo hi:Int}{a k:Nat}(h1:lo=(a:Int))(h2:hi=((a+k:Nat):Int))(h3:a+k<=ns.length):yG (ns.map V.int) (some lo) (some hi)=((ns.drop a).take k).map V.int:=by subst h1 h2;unfold yG;rw[HT.Lb,HT.Lb,aA,aaH (by lia),aaH (by lia),Nat.add_sub_cancel_left,<-List.map_drop,<-List.map_take]
section
variable{P:Program}{w:a9}{K:aV}{mg:Str->Option Value}{A:aO}{base:Heap}
def Jd(K:aV):Sp:=λvs H Q _=>∃(ca:Addr)(ns:List Int),vs=[.ref ca]/\ah K H ca (ns.map V.int)/\ns.length<=16000/\PB ns=true/\∀b H',H' b=some (.lst ((uW ns).map V.int))->Q (.ref b) H'
def aqY(T:Txt K mg A)(OD:lA P w K A.lC (lH A)):aZ P w K mg base bu 10 A.G7 A.BC ["calls"] (Jd K):=by
 refine T.answers.F.bM WE (λvs H Q E h=>?_) (λaK Ar outer s H vs Q E hr h=>?_)
 ·refine bZ h λca ns bp _=>?_;obtain rfl:=bp;rfl
 ·refine iE h λca ns bA hS hl aqZ kk=>?_;obtain rfl:=bA;have nd:=WE.nd
  have CK:=aqZ;unfold PB awl at CK;cases yY:xQ kZ ns.length ns with
  |none=>rw[yY]at CK;cases CK
  |some zC=>
   rw[yY]at CK;have Zw:(PyFlat.atMost 400 (zC.map gT)&&awm (zC.map gT))=true:=CK
   rw[eW]at Zw;obtain⟨fZ,nR⟩:=Zw;have hlen:zC.length<=400:=by have:=of_decide_eq_true fZ;rw[aA]at this;exact this
   unfold awm at nR;rw[eW,eW,eW]at nR;refine fz nR λfb _ _ aq0=>?_;have axa:=of_decide_eq_true aq0
   have aq1:uW ns=z4 (z6 cS none (zC.map gT)):=by unfold uW awl;rw[yY];rfl
   have aq2:(((zC.map gT).map λc=>1+Z.cost c)).sum<=1000000:=by
    have key:∀l:List (List (List Int)),(l.map λc=>1+Z.cost c).sum=7*l.length+(l.map O0).sum:=by
     intro l;induction l with
     |nil=>rfl
     |cons c r ih=>rw[cM,qL,ih,cM,qL,cG];unfold Z.cost;lia
    rw[key,aA];lia
   intro X_ D_;refine aq (au (pS nd 1 (Tz (aqv T) T.j2 hr)) (au (pS nd 2 (cK az)) (au (pS nd 3 aS) (au (Az fP (bz tT (pv 3) (cV fD T.dF dQ (pv 0)) (bt _)) (au (pS nd 4 (bK bU (pv 0) (pv 3) (λ_ _=>rfl))) (au (pA nd 3 aS AF) (au (pS nd 5 (Ld Si (pv 0) (AM (pv 3)) (AM (b9 jx (pv 3) (bK Lf (Bo rfl T.alm) (pv 4) (λ_ _=>rfl)))))) (au (pA nd 3 (cV fD T.dF dQ (pv 5)) AF) (au (pS nd 6 (cK az)) (au (bx (je (bK Lf (Bo rfl T.alh) (pv 4) (λ_ _=>rfl))) (au (pS nd 6 (Ld Si (pv 0) (AM (b9 jx (pv 3) aS)) (AM (b9 jx (b9 jx (pv 3) aS) (bK bU (pv 0) (pv 3) (λ_ _=>rfl)))))) (ax (pA nd 3 (b9 jx aS (cV fD T.dF dQ (pv 6))) AF))) bI) (au (pS nd 7 (bF (aqW T OD).akM T.answer hr (ae (pv 1) (ae (pv 4) (ae (pv 5) (ae (pv 6) az)))))) (au (fJ (g6 (pv 2) (cV fD T.dF dQ (pv 7)))) (ax (fJ (EU (pv 2) (pv 7))))))))))))) (ax (aQ (pv 2))))))) ?_;refineλd Je Aa ndd ned=>cC d Je rfl ag rfl ?_;obtain⟨sD,_,dD,AH⟩:=Made.of (C:=A.kK) (fs:=rS .aL) (gs:=[]) Aa ndd ned;have hS1:=sD.seq hS
   generalize upd (upd (upd H Je (.own d)) d (.ins A.kK Je [])) d (.ins A.kK Je (rS .aL))=H1 at*;refine⟨by show 0<=sizeLine;decide,λtd Ov=>?_⟩;have sT:=af.new (o:= .lst []) Ov
   refine⟨λm σ H2=>∃(d td:Addr)(at_:Nat)(Ow:Int)(v4 v5 v6 v7:Option V)(s:ot)(n f:Nat)(cs:List (List (List Int)))(zs:List Int),Ow=(at_:Int)/\σ=[some (.ref ca),some (.ref d),some (.ref td),some (.int Ow),v4,v5,v6,v7]/\ah K (eK H2 td) ca (ns.map V.int)/\IL H2 td zs/\jm A (eK H2 td) d s n/\at_<=ns.length/\xQ kZ f (ns.drop at_)=some cs/\n+cs.length<=400/\(∀c∈cs,aaL (gT c)=true)/\zs++z4 (z6 cS s (cs.map gT))=uW ns/\zs.length+((cs.map gT).map λc=>1+Z.cost c).sum<=1000000/\m=ns.length-at_,⟨ns.length,d,td,0,0,none,none,none,none,none,0,ns.length,zC,[],rfl,rfl,by rw[j1,wc Ov];exact hS1,ag,by rw[j1,wc Ov];exact⟨dD,AH⟩,iO _,yY,by lia,λc hc=>uR.mp fb _ (awc hc),by rw[aq1];rfl,by simpa using aq2,by simp⟩,?_⟩;rintro m σ H2 ⟨d,td,at_,Ow,v4,v5,v6,v7,s',n,f,cs,zs,rfl,rfl,pq,zD,r6,zl,CL,hn,BB,heq,hbd,rfl⟩;have NW:(ns.map V.int).length=ns.length:=aA ..
   have Ox:=(Ja H2 td).seq pq;refine vI rfl (vI rfl (aB ca _ rfl (.inl Ox) (iI (aq rfl (bW (λq=>aq (λ_ _ h=>h) ?_) λq=>?_)))))
   ·have hq:=of_decide_eq_true q;rw[NW]at hq;have bH:at_<ns.length:=by lia
    obtain⟨p,hp⟩:=d_ bH;have edr:ns.drop at_=p::ns.drop (at_+1):=by rw[xY bH];rw[(d0.mp hp).2]
    rw[edr]at CL;refine fR (Z.acs CL) λf' c t rj bX gF=>?_;refine cT gF λaq8 Oy cA=>?_;obtain rfl:=bX;obtain rfl:=cA;refine ox (aqX aq8) λj wn b row di hw0 Oc ji Jf Cw=>?_;refine eA Cw λZx Zy=>?_;obtain rfl:=di;rw[sO]at ji;rw[Dg]at Zx Zy;have Jg:=BB c pE
    have hw:([V.int 0,V.int 0,V.int 1,V.int 2,V.int 3]:List V)[j]?=some (nI wn):=cF (f:=nI) hw0;have hb:([V.bl false,V.bl true,V.bl false,V.bl false,V.bl true]:List V)[j]?=some (V.bl b):=cF (f:=V.bl) Oc;simp only[cM,qL,cG]at hbd hn;refine vI rfl (vI rfl (br (nI j) Ox (bw rfl (cF hp)) ?_));refine aq rfl (iI ?_);refine vI rfl (vI rfl (aq rfl (vI rfl (vI rfl (gC A.BG _ _ (nI wn) rfl rfl (T.aln H2) (bw (j:=j) rfl hw) (iI (aq rfl (aB ca _ rfl Ox λna fm=>?_))))))));rw[Zv ns (a:=at_+1) (k:=wn) (by lia) (by lia) (by lia)];have CM:(((ns.drop (at_+1)).take wn).map V.int).length=wn:=by rw[aA,fw,sO];lia
    have s3:=af.new (o:= .lst (((ns.drop (at_+1)).take wn).map V.int)) fm;have h3:IL (upd H2 na (.lst (((ns.drop (at_+1)).take wn).map V.int))) na ((ns.drop (at_+1)).take wn):=ag;generalize upd H2 na (.lst (((ns.drop (at_+1)).take wn).map V.int))=H3 at*;have Zz:na≠td:=(bL zD fm).symm;refine aq rfl (vI rfl (aB na _ rfl (.inl (ah.of h3)) (iI ?_)));refine⟨by show 0<=sizeLine;decide,λra CJ=>?_⟩;have s4:=af.new (o:= .lst []) CJ;have h4:IL (upd H3 ra (.lst [])) ra []:=ag;generalize upd H3 ra (.lst [])=H4 at*;have qD:=s3.trans s4;have ZA:=s4 _ _ h3;have nrt:ra≠td:=(bL (s3 _ _ zD) CJ).symm;refine vI rfl (gC A.BF _ _ (.bl b) rfl rfl (T.ali H4) (bw (j:=j) rfl hb) (aq rfl ?_));cases b with
    |false=>
     obtain⟨rfl,rfl⟩:=Zx rfl;refine bS ?_;refine vI rfl (vI rfl (vI rfl (vI rfl (cD td _ (qD _ _ zD) ⟨d,na,ra,s',n,_,(ns.drop (at_+1)).take wn,[],gT c,rfl,(r6.same (qD.off td)),by lia,(ir ZA Zz),(ir h4 nrt),Jf,Jg,λb H5 sL nb hI Oz n5=>?_⟩))));have hle:=Zu (s:=s') Jf Jg
     have mE:=sL.seq ((qD.off td).seq pq);have xE:b≠td:=bL hI n5;have qI:(((cS s' (gT c)).2).map V.int).length=(cS s' (gT c)).2.length:=aA ..;have qg:(zs.map V.int).length=zs.length:=aA ..;refine vI rfl ⟨.inl ⟨rfl,_,ah.of ag⟩,vI rfl (aB b _ rfl (.inl (ah.of (by rw[aj xE];exact hI))) (gI ag (by rw[qg];exact cI (by lia)) ?_))⟩;refine vI rfl ⟨.inl ⟨rfl,_,ah.of ag⟩,vI rfl (cO td b _ _ rfl rfl ag (by rw[aj xE,aj xE];exact hI) (by rw[cj,qg,qI];show zs.length+1+_<=sizeLine;exact g9 (by lia)) ?_)⟩;refine aF (ns.length-(at_+1+wn)) (by lia) ⟨d,td,at_+1+wn,_,_,_,_,_,(cS s' (gT c)).1,n+1,f',rj,zs++(((cS s' (gT c)).2.length:Int)::(cS s' (gT c)).2),by rw[CM];lia,rfl,by rw[j1,j1,j1,wc n5];exact mE,?_,by rw[j1,j1,j1,wc n5];exact Oz,by lia,Oy,by lia,λc' kC=>BB c' (dn _ kC),?_,?_,rfl⟩
     ·show upd _ _ _ _=_;rw[ag,qI];simp
     ·rw[<-heq];show _=zs++z4 (z6 cS s' (gT c::rj.map gT));simp[z6,z4]
     ·rw[cj,cG];lia
    |true=>
     refine iE (Zy rfl) λnn r' e1 e2 e3 eS eT=>?_;obtain rfl:=eS;obtain rfl:=eT;obtain⟨k,rfl⟩:∃k:Nat,nn=(k:Int):=⟨nn.toNat,by omega⟩;rw[gR]at*;have OA:at_+1+wn<ns.length:=by have:=congrArg sN e1;rw[sO,cG]at this;omega
     have ig:ns[at_+1+wn]?=some (k:Int):=by rw[xY OA]at e1;rw[mN OA,(mT e1).1]
     have er':r'=ns.drop (at_+1+wn+1):=by rw[xY OA]at e1;exact(mT e1).2.symm
     subst er';rw[sO]at e3;have kO:=(Ja H4 td).seq ((qD.off td).seq pq)
     refine bV ?_;refine vI rfl (vI rfl (iI (aq rfl (vI rfl (iI (vI rfl (vI rfl (br (nI k) kO (bw (j:=at_+1+wn) (by rw[CM];lia) (cF ig)) (iI (aq rfl (aB ca _ rfl kO λrb gL=>?_)))))))))));rw[Zv ns (a:=at_+1+wn+1) (k:=k) (by rw[CM];lia) (by rw[CM];lia) (by omega)];have Md:(((ns.drop (at_+1+wn+1)).take k).map V.int).length=k:=by rw[aA,fw,sO];lia
     have s5:=af.new (o:= .lst (((ns.drop (at_+1+wn+1)).take k).map V.int)) gL;have h5:IL (upd H4 rb (.lst (((ns.drop (at_+1+wn+1)).take k).map V.int))) rb ((ns.drop (at_+1+wn+1)).take k):=ag;generalize upd H4 rb (.lst (((ns.drop (at_+1+wn+1)).take k).map V.int))=H6 at*;have OB:=qD.trans s5;have nbt:rb≠td:=(bL (qD _ _ zD) gL).symm;refine aq rfl (vI rfl (aB rb _ rfl (.inl (ah.of h5)) (iI (iI ?_))));generalize axb:(ns.drop (at_+1+wn+1)).take k=row at*;refine vI rfl (vI rfl (vI rfl (vI rfl (cD td _ (OB _ _ zD) ⟨d,na,rb,s',n,_,(ns.drop (at_+1)).take wn,row,gT c,rfl,(r6.same (OB.off td)),by lia,(ir (s5 _ _ ZA) Zz),(ir h5 nbt),Jf,Jg,λb H5 sL nb hI Oz n5=>?_⟩))));have hle:=Zu (s:=s') Jf Jg;have mE:=sL.seq ((OB.off td).seq pq);have xE:b≠td:=bL hI n5;have qI:(((cS s' (gT c)).2).map V.int).length=(cS s' (gT c)).2.length:=aA ..;have qg:(zs.map V.int).length=zs.length:=aA ..;refine vI rfl ⟨.inl ⟨rfl,_,ah.of ag⟩,vI rfl (aB b _ rfl (.inl (ah.of (by rw[aj xE];exact hI))) (gI ag (by rw[qg];exact cI (by lia)) ?_))⟩;refine vI rfl ⟨.inl ⟨rfl,_,ah.of ag⟩,vI rfl (cO td b _ _ rfl rfl ag (by rw[aj xE,aj xE];exact hI) (by rw[cj,qg,qI];show zs.length+1+_<=sizeLine;exact g9 (by lia)) ?_)⟩;refine aF (ns.length-(at_+1+wn+1+k)) (by omega) ⟨d,td,at_+1+wn+1+k,_,_,_,_,_,(cS s' (gT c)).1,n+1,f',rj,zs++(((cS s' (gT c)).2.length:Int)::(cS s' (gT c)).2),by rw[CM,Md];lia,rfl,by rw[j1,j1,j1,wc n5];exact mE,?_,by rw[j1,j1,j1,wc n5];exact Oz,by omega,(by rw[Dg]at Oy;exact Oy),by lia,λc' kC=>BB c' (dn _ kC),?_,?_,rfl⟩
     ·show upd _ _ _ _=_;rw[ag,qI];simp
     ·rw[<-heq];show _=zs++z4 (z6 cS s' (gT c::rj.map gT));simp[z6,z4]
     ·rw[cj,cG];lia
   ·have hq:¬((at_:Int)<((ns.map V.int).length:Int)):=λz=>q (decide_eq_true z);rw[NW]at hq;have e:ns.drop at_=[]:=PD (by lia);rw[e]at CL;have ecs:cs=[]:=by cases f<;>(simp[xQ]at CL;exact CL)
    subst ecs;have ez:zs=uW ns:=by rw[<-heq];simp[z6,z4]
    subst ez;exact vI rfl (kk td H2 zD)
end
end
end Rg
namespace L2
open PySem PySem.Spec PyProof.Rows
variable{x q p0 p1 p2 p3 p4:Str}{st:Stmt}{K:aV}{h:Heap}{mg:Str->Option Value}{ps:List Str}{f C:Addr}{oc doc pm aK ct:Value}{od an:Option Addr}{l_:Array (Option Value)}{t:Tok}
def Bd(x q:Str)(st:Stmt)(ps:List Str):Prop:=∀(kV doc pm:Value)(an:Option Addr)(aK ct:Value)(us:List Value),us.length=ps.length->sH (jK x q (j0 st) (iX st) (aU st) .none kV doc pm an aK ct) ⟨us,[]⟩=pure (ps.zip us)
def b0(h:(λ(kV doc pm:Value)(an:Option Addr)(aK ct:Value)=>sH (jK x q (j0 st) (iX st) (aU st) .none kV doc pm an aK ct) ⟨[],[]⟩)=λ_ _ _ _ _ _=>pure (z7 [] [])):Bd x q st []:=λa b c d e f us hl=>match us,hl with|[],_=>congrFun (congrFun (congrFun (congrFun (congrFun (congrFun h a) b) c) d) e) f
def b1(h:(λ(kV doc pm:Value)(an:Option Addr)(aK ct:Value)(u0:Value)=>sH (jK x q (j0 st) (iX st) (aU st) .none kV doc pm an aK ct) ⟨[u0],[]⟩)=λ_ _ _ _ _ _ u0=>pure (z7 [p0] [u0])):Bd x q st [p0]:=λa b c d e f us hl=>match us,hl with|[u0],_=>congrFun (congrFun (congrFun (congrFun (congrFun (congrFun (congrFun h a) b) c) d) e) f) u0
def b2(h:(λ(kV doc pm:Value)(an:Option Addr)(aK ct:Value)(u0 u1:Value)=>sH (jK x q (j0 st) (iX st) (aU st) .none kV doc pm an aK ct) ⟨[u0,u1],[]⟩)=λ_ _ _ _ _ _ u0 u1=>pure (z7 [p0,p1] [u0,u1])):Bd x q st [p0,p1]:=λa b c d e f us hl=>match us,hl with|[u0,u1],_=>congrFun (congrFun (congrFun (congrFun (congrFun (congrFun (congrFun (congrFun h a) b) c) d) e) f) u0) u1
def b3(h:(λ(kV doc pm:Value)(an:Option Addr)(aK ct:Value)(u0 u1 u2:Value)=>sH (jK x q (j0 st) (iX st) (aU st) .none kV doc pm an aK ct) ⟨[u0,u1,u2],[]⟩)=λ_ _ _ _ _ _ u0 u1 u2=>pure (z7 [p0,p1,p2] [u0,u1,u2])):Bd x q st [p0,p1,p2]:=λa b c d e f us hl=>match us,hl with|[u0,u1,u2],_=>congrFun (congrFun (congrFun (congrFun (congrFun (congrFun (congrFun (congrFun (congrFun h a) b) c) d) e) f) u0) u1) u2
def b4(h:(λ(kV doc pm:Value)(an:Option Addr)(aK ct:Value)(u0 u1 u2 u3:Value)=>sH (jK x q (j0 st) (iX st) (aU st) .none kV doc pm an aK ct) ⟨[u0,u1,u2,u3],[]⟩)=λ_ _ _ _ _ _ u0 u1 u2 u3=>pure (z7 [p0,p1,p2,p3] [u0,u1,u2,u3])):Bd x q st [p0,p1,p2,p3]:=λa b c d e f us hl=>match us,hl with|[u0,u1,u2,u3],_=>congrFun (congrFun (congrFun (congrFun (congrFun (congrFun (congrFun (congrFun (congrFun (congrFun h a) b) c) d) e) f) u0) u1) u2) u3
def b5(h:(λ(kV doc pm:Value)(an:Option Addr)(aK ct:Value)(u0 u1 u2 u3 u4:Value)=>sH (jK x q (j0 st) (iX st) (aU st) .none kV doc pm an aK ct) ⟨[u0,u1,u2,u3,u4],[]⟩)=λ_ _ _ _ _ _ u0 u1 u2 u3 u4=>pure (z7 [p0,p1,p2,p3,p4] [u0,u1,u2,u3,u4])):Bd x q st [p0,p1,p2,p3,p4]:=λa b c d e f us hl=>match us,hl with|[u0,u1,u2,u3,u4],_=>congrFun (congrFun (congrFun (congrFun (congrFun (congrFun (congrFun (congrFun (congrFun (congrFun (congrFun h a) b) c) d) e) f) u0) u1) u2) u3) u4
def b6{p5:Str}(h:(λ(kV doc pm:Value)(an:Option Addr)(aK ct:Value)(u0 u1 u2 u3 u4 u5:Value)=>sH (jK x q (j0 st) (iX st) (aU st) .none kV doc pm an aK ct) ⟨[u0,u1,u2,u3,u4,u5],[]⟩)=λ_ _ _ _ _ _ u0 u1 u2 u3 u4 u5=>pure (z7 [p0,p1,p2,p3,p4,p5] [u0,u1,u2,u3,u4,u5])):Bd x q st [p0,p1,p2,p3,p4,p5]:=λa b c d e f us hl=>match us,hl with|[u0,u1,u2,u3,u4,u5],_=>congrFun (congrFun (congrFun (congrFun (congrFun (congrFun (congrFun (congrFun (congrFun (congrFun (congrFun (congrFun h a) b) c) d) e) f) u0) u1) u2) u3) u4) u5
def bY{kV:Value}(X:K.In h)(G:h.Ns mO mg)(hb:Bd x x st ps)
  (a:k7 K mO x=some (some (.ref f))) (l:K.lookup f=some ⟨oc,od, .func (jK x x (j0 st) (iX st) (aU st) .none kV doc pm an aK ct),l_⟩) (c:JN K aK x=true) (k:qU K (.ref f)=true):bP K mg x st ps f (jK x x (j0 st) (iX st) (aU st) .none kV doc pm an aK ct):=
 ⟨Bl l c k,(Bl l c k).binds hb,PV X G a⟩
def uF{qual:Str}{kV:Value}(X:K.In h)(G:h.Ns mO mg)(hb:Bd "__init__" qual st ps)
  (a:k7 K mO x=some (some (.ref C))) (i:uN K (.ref C) "__init__"=some (some (.ref f))) (fn:JL K (.ref f)=true) (l:K.lookup f=some ⟨oc,od, .func (jK "__init__" qual (j0 st) (iX st) (aU st) .none kV doc pm an aK ct),l_⟩) (c:JN K aK qual=true) (k:qU K (.ref f)=true)
  (pg:JE K C aaa=true) (hd:O8 K C=true) (po:Z8 K C=true) (sa:uN K (.ref C) "__setattr__"=some (some (.builtin "object.__setattr__"))) (mk:Z_ K C=true) (kc:qU K (.ref C)=true):oY K mg x qual st ps C f (jK "__init__" qual (j0 st) (iX st) (aU st) .none kV doc pm an aK ct):=
 ⟨Bl l c k,(Bl l c k).binds hb,⟨mk,i,fn,kc⟩,PV X G a,⟨pg,hd,po,sa⟩⟩
def fN{i:Int}(X:K.In h)(G:h.Ns mO mg)(a:k7 K mO x=some (some (.int i t))):∃t,mg x=some (.int i t):=⟨t,PV X G a⟩
def CO{i:Str}(X:K.In h)(G:h.Ns mO mg)(a:k7 K mO x=some (some (.str i t))):∃t,mg x=some (.str i t):=⟨t,PV X G a⟩
def OC{a:Addr}{xs:List V}{u0 u1 u2 u3 u4:Value}{n:Nat}{sl:Array (Option Value)}(l:K.lookup a=some ⟨.type "tuple",od, .seq #[u0,u1,u2,u3,u4] n,sl⟩)(r:bB xs [u0,u1,u2,u3,u4]):ES K a xs:=
 λ_=> .inr (iC _ (#[u0,u1,u2,u3,u4]) n l rfl rfl (by show 5<=sizeLine;decide) r)
def ard{fI N:Addr}{f nm:Str}{bs sub:List Value}{sn:List Str}{ab:Bool}{col:Option Bool}{dd:Option Addr}{k0 k1 k2 k3 k5:Option Value}(l:K.lookup C=some (aay nm q C N bs [.type "Exception", .type "BaseException", .type "object"] true sn sub ab col dd k0 k1 k2 k3 k5 "Exception.__new__"))
  (e1:k7 K N "__init__"=some (some (.ref fI))) (e2:k7 K N "__setattr__"=some none) (e3:k7 K N "__getattribute__"=some none) (e4:k7 K N "__getattr__"=some none) (e5:k7 K N f=some none) (fn:JL K (.ref fI)=true) (kp:qU K (.ref C)=true) (ok:avR K N=true):ue K C fI f:=
 ⟨⟨N,nm,q,bs,sn,sub,ab,col,dd,k0,k1,k2,k3,k5,l,ok,e1,e2,e3,e4,e5⟩,fn,kp⟩
end L2
namespace Rg
open PySem PySem.Spec PyProof.Rows L2
variable{P:Program}{w:a9}{K:aV}
def arf:Bd "answers" "answers" MB ["calls"]:=b1 rfl
def arh:Bd "__init__" "WrongLine.__init__" Mt ["self","number"]:=b2 rfl
def ari{a:Addr}{t0 t1 t2 t3 t4 t5 t6 t7 t8 t9 OE OF:Tok}{f0 f1 f2 f3 f4 f5 f6 f7 f8 f9 ZC ZD:Addr}{n:Nat}(l:K.lookup a=some ⟨.type "dict",none, .dict #[⟨pG w.params "+", .str "+" t0, .ref f0⟩,⟨pG w.params "-", .str "-" t1, .ref f1⟩,⟨pG w.params "*", .str "*" t2, .ref f2⟩,⟨pG w.params "/", .str "/" t3, .ref f3⟩,⟨pG w.params "@", .str "@" t4, .ref f4⟩,⟨pG w.params "&", .str "&" t5, .ref f5⟩,⟨pG w.params "|", .str "|" t6, .ref f6⟩,⟨pG w.params "^", .str "^" t7, .ref f7⟩,⟨pG w.params "<<", .str "<<" t8, .ref f8⟩,⟨pG w.params ">>", .str ">>" t9, .ref f9⟩,⟨pG w.params "<", .str "<" OE, .ref ZC⟩,⟨pG w.params "==", .str "==" OF, .ref ZD⟩] n,#[]⟩)(ns:(a==oh)=false):
 lA P w K a [(aJ "+", .ref f0),(aJ "-", .ref f1),(aJ "*", .ref f2),(aJ "/", .ref f3),(aJ "@", .ref f4),(aJ "&", .ref f5),(aJ "|", .ref f6),(aJ "^", .ref f7),(aJ "<<", .ref f8),(aJ ">>", .ref f9),(aJ "<", .ref ZC),(aJ "==", .ref ZD)]:=⟨ns,λh X=>⟨_,_,n,X _ _ l,⟨rfl,rfl,rfl⟩,rfl,λe he=>by
 simp only[List.mem_toArray,cu,hU,or_false]at he
 rcases he with rfl|rfl|rfl|rfl|rfl|rfl|rfl|rfl|rfl|rfl|rfl|rfl
 ·exact⟨aJ "+",gi _ t0,rfl⟩
 ·exact⟨aJ "-",gi _ t1,rfl⟩
 ·exact⟨aJ "*",gi _ t2,rfl⟩
 ·exact⟨aJ "/",gi _ t3,rfl⟩
 ·exact⟨aJ "@",gi _ t4,rfl⟩
 ·exact⟨aJ "&",gi _ t5,rfl⟩
 ·exact⟨aJ "|",gi _ t6,rfl⟩
 ·exact⟨aJ "^",gi _ t7,rfl⟩
 ·exact⟨aJ "<<",gi _ t8,rfl⟩
 ·exact⟨aJ ">>",gi _ t9,rfl⟩
 ·exact⟨aJ "<",gi _ OE,rfl⟩
 ·exact⟨aJ "==",gi _ OF,rfl⟩, .cons (gi _ t0) rfl (.cons (gi _ t1) rfl (.cons (gi _ t2) rfl (.cons (gi _ t3) rfl (.cons (gi _ t4) rfl (.cons (gi _ t5) rfl (.cons (gi _ t6) rfl (.cons (gi _ t7) rfl (.cons (gi _ t8) rfl (.cons (gi _ t9) rfl (.cons (gi _ OE) rfl (.cons (gi _ OF) rfl (.nil)))))))))))),by show([aJ "+",aJ "-",aJ "*",aJ "/",aJ "@",aJ "&",aJ "|",aJ "^",aJ "<<",aJ ">>",aJ "<",aJ "=="]:List aT).Nodup;decide+kernel⟩⟩
def all_mk{mg:Str->Option Value}{fa:Addr}(zo:mg "answers"=some (.ref fa)){E_ Fc Fe Fg Fi Fm Fp Fs Fu Fx Fz FC FE FG FI FK FN FP FR we wg wj wm wo f_both wq wt wu wx wy wz F_ Gb Ge Gg Gi Gk Gn Gq Gu Gx Gz GB GD GG GI GK GN GP GR GU GW GY G5 G7 G8 G_ Hc Hf Hh Hj Hl Hn c_ Hq lB Hs nF Hu dE Hw o9 Hy fL HB fX HD kK HF qk BD BF HH lC BG:Addr}{Fb Fd Ff Fh Fj Fo Fq Ft Fw Fy FA FD FF FH FJ FL FO FQ FT FU FV FW FX FY FZ F4 F5 F6 F7 F8 F9 Ga Gd Gf Gh Gj Gm Gp Gs Gw Gy GA GC GF GH GJ GL GO GQ GS GV GX GZ G6 BC G9 Hb He Hg Hi Hk Hm Ho Hr Ht Hv Hx Hz HC HE HG BE:bg}
  (T:Txt K mg ⟨E_,Fb,Fc,Fd,Fe,Ff,Fg,Fh,Fi,Fj,Fm,Fo,Fp,Fq,Fs,Ft,Fu,Fw,Fx,Fy,Fz,FA,FC,FD,FE,FF,FG,FH,FI,FJ,FK,FL,FN,FO,FP,FQ,FR,FT,we,FU,wg,FV,wj,FW,wm,FX,wo,FY,f_both,FZ,wq,F4,wt,F5,wu,F6,wx,F7,wy,F8,wz,F9,F_,Ga,Gb,Gd,Ge,Gf,Gg,Gh,Gi,Gj,Gk,Gm,Gn,Gp,Gq,Gs,Gu,Gw,Gx,Gy,Gz,GA,GB,GC,GD,GF,GG,GH,GI,GJ,GK,GL,GN,GO,GP,GQ,GR,GS,GU,GV,GW,GX,GY,GZ,G5,G6,G7,BC,G8,G9,G_,Hb,Hc,He,Hf,Hg,Hh,Hi,Hj,Hk,Hl,Hm,Hn,Ho,c_,Hq,Hr,lB,Hs,Ht,nF,Hu,Hv,dE,Hw,Hx,o9,Hy,Hz,fL,HB,HC,fX,HD,HE,kK,HF,HG,qk,BD,BE,BF,HH,lC,BG⟩)
  (OD:lA P w K lC [(aJ "+", .ref we),(aJ "-", .ref wg),(aJ "*", .ref wj),(aJ "/", .ref wm),(aJ "@", .ref wo),(aJ "&", .ref f_both),(aJ "|", .ref wq),(aJ "^", .ref wt),(aJ "<<", .ref wu),(aJ ">>", .ref wx),(aJ "<", .ref wy),(aJ "==", .ref wz)]):
  ∃fd:bg,(∀(s:aw)(u:Value),C_ s fd ⟨[u],[]⟩ [("calls",u)])/\∀base:Heap,aZ P w K mg base bu 10 fa fd ["calls"] (Jd K):=by
 have e:=zo.symm.trans T.answers.m;cases e;refine aF BC (λs u=>?_) λbase=>aqY T OD;refine dS T.answers.F.ex λoc od kV doc pm an ib=>?_;refine bR ib λaK ct l_ bp _ _=>?_;obtain rfl:=bp;exact .of_eq (arf kV doc pm an aK ct [u] rfl)
def walk{q:Program}{loose:List Str}{XP:(Str->Option Value)->Heap->Prop}{YP:a9->Heap->Prop}{d:DefRec}{K:Params->aV}(kw:RR.wellSaid=true)(Mj:d.params.defaults=[])(hY:∀(w:a9)(h:Heap),YP w h->(K w.params).In h)
  (F:∀(w:a9)(mg:Str->Option Value)(fa:Addr)(h:Heap),(K w.params).In h->h.Ns mO mg->mg d.name=some (.ref fa)->∃fd:bg,(∀(s:aw)(u:Value),C_ s fd ⟨[u],[]⟩ [("calls",u)])/\∀base:Heap,aZ RR.prog w (K w.params) mg base bu 10 fa fd ["calls"] (Jd (K w.params))):
  av1 q loose XP YP RR d [] (λf vs=>av2 f vs):=
 L2.akU (k:=10) (x:="calls") (K:=K) (CX:=λ_=>bu) (sp:=λw=>Jd (K w.params)) kw Mj ⟨rfl,by decide,by decide⟩ hY F (λw H a ns hl _ ha hS=>gU a ns rfl hS hl ha λb H' e=>aF b rfl e) λ_ _ _ _ _ z=>z
end Rg
set_option genInjectivity false
set_option genSizeOf false
set_option genSizeOfSpec false
structure PySem.W.Fast:Prop where(tw13877309845191529604 tw4433415872447100287 tw6666797551188066876 tw1012236420167315612 tw14394995288961107300 tw7134187026767448754 tw15783977451584038117 tw1426736330706127003 tw15368769931478043077 tw16398551851029564625 tw1610677842193339039 tw339268727354114879 tw17033993680903796174 tw1980033582794531585 tw6884364011609716955 tw6423565616181971683 tw17904585425912992101 tw1772405498117794297 tw12649261633995658877 tw1490332753228104636 tw8752338444070054805 tw3299457354067478345 tw4278515022033825768 tw8534893510112765255 tw5701389611453163939 tw8135755212358146780 tw8236884651992047832 tw4034284397340428629 tw2927288050698391408 tw832531852369152191 tw11516623115846708742 tw13510972084147060958 tw4225887313432875688 tw2955769776986654784 tw2259798311633620174 tw4375375590673832327 tw13770433365363363823 tw15781420637693556448 tw1095245092287525456 tw18276378121582291887 tw6078005976952272397 tw5296258723212671200 tw4978060326583742228 tw16962771769527684901 tw9693872545029057022 tw6898538196785338217 tw14274859710850985000 tw1063149710390626339 tw9875450542249900432 tw10455872873796564993 tw7972351020551180327 tw3255432622131897365 tw3815649197731936157 tw2274551071415585941 tw5053588272000450484 tw2392840073221399934 tw11859982001460560915 tw3786591316347761528 tw1311960619975254885 tw16899314196946504191 tw4594831272668448531 tw9900803907678655609 tw12291581928266576086 tw13434838756442259233 tw4834661373834369744 tw10963281767719556707 tw13312882406655337648 tw8978069176502459561 tw12046274864442508093 tw16092544180465047984 tw9760483853672452397 tw9670637108121460551 tw15081472383376522227 tw1481588260844604239 tw10501368551878783184 tw6984667684512089968 tw2633025549662683686 tw10130724919877103495 tw14854052747536017138 tw12084337159268921930 tw4338077910761292379 tw2358485499632219082 tw15382628161024035301 tw6511308823440280327 tw11712031467908389268 tw7467227922887191276 tw2870580874418420095 tw7044692697701986519 tw15645146250826802202 tw6064250479233160367 tw13675405888160084511 tw5095985374852345058 tw15122114212521497545 tw1651923215624336473 tw554152742638427823 tw9524939623729307514 tw12990719041413945394 tw17747129858823331897 tw1969764584797231732 tw2863764851702200041 tw7492581423236773237 tw13930833388702446792 tw1736278008604908496 tw6626415721349619121 tw18042677914901761022 tw4323904108526292286 tw14934511825858722755 tw17377572796433701823 tw11636249892363445297 tw6765446934876753062 tw12548313680798508721 tw6629907225420127019 tw16887218529847517132 tw10873459798600020052 tw13578365605342403886 tw5883356165876721231 tw6931325861962233070 tw17943187256130122508 tw13150331421983167832 tw14772032145117554771 tw5524380714196356191 tw3803290258925038844 tw12672336592108045521 tw14958888059031875139 tw8923560656166194596 tw12240849671190401670 tw9184707868988002355 tw2189281024459883085 tw14226919669723309881 tw8294264093127596742 tw2223320301652745301 tw17057541583572719505 tw13801677888717640708 tw10203591128859337767 tw9827989333525809764 tw7471407398787512527 tw8278609584481405478 tw2273874753087846874 tw7324170065297615081 tw366222298939242440 tw9302332848270287522 tw9357754001682893609 tw1468803332690505381 tw344975806927426053 tw13545946430494987748 tw17634636195860252522 tw9970851605327733592 tw4802231722632306229 tw15862024101642841424 tw3348711447350274508 tw11764386351277803993 tw17541944050148526611 tw9511255201440961396 tw4771146327414269799 tw9323707291373447307 tw16713032360451585338 tw2681924076401854087 tw3648179918830361623 tw14874155990096305249 tw2603674527792422082 tw11452117203572114225 tw9884508091367740561 tw10958843632785414851 tw7021431507143142227 tw11590333613601298698 tw10273415142523988574 tw11044714653345980033 tw12799240722823816655 tw11728422648450666958 tw9092745621893417854 tw12416341400455067986 tw6393962517290412259 tw14615955943454134692 tw600766786697331975 tw12128721370358391202 tw1777100760004592053 tw17308373724011705496 tw1585695218424118333 tw5183899330967167942 tw6792199251000930203 tw17647870922480258241 tw7426175466154074510 tw12923126374476052003 tw8201281992333341733 tw2070348574218491918 tw12875721493094395726 tw17781731511901153397 tw5713283668289869273 tw11831815622429805849 tw45176968843829917 tw15368066613797284038 tw16829353944934048163 tw14386557035825228123 tw6070430139585807445 tw11187895544690931262 tw2503547067180187255 tw15060652747875437682 tw4099974743300487064 tw13392601662707992058 tw10191200085266893634 tw10291900315397231506 tw5085247313587416713 tw15848137367627169137 tw2883258156787487219 tw17962397739068252931 tw5161601025799182204 tw2785792779425439038 tw6769167395491628159 tw12159053615214767556 tw15252956591913524574 tw2798527759258740534 tw16669196666671932992 tw10137092180236089874 tw2745113530067594174 tw8885833153912764351 tw14616711483493898326 tw4716360351733627757 tw8653514852025654710 tw5948858353043111269 tw4894685190888163502 tw6007497613018680600 tw16981372561898069561 tw4124553053118537976 tw4977921412469733891 tw7992866117268824275 tw8023338774784094286 tw16197216038352641083 tw9622617843624771880 tw16331655753168009170 tw8391520414254195312 tw2510388907258564084 tw7762440869509466657 tw5700048063762255100 tw16535975893035610239 tw14836361974623115441 tw9940447556226426092 tw1144949265202036017 tw14492418160988383800 tw5845720311297800964 tw3553187148408996744 tw14822730405156349018 tw5761907529601233191 tw11506090079662179549 tw10510342806865675184 tw8781772490390053154 tw10770482358776176845 tw2058112121796696302 tw2587764527395241059 tw6645602150129045390 tw6400637032138631740 tw15539497001675462300 tw6626360204038000574 tw1812098366766193689 tw165306689344574045 tw4241432661203152040 tw17116592553410076314 tw15437128499579433634 tw5943732589613616416 tw7369875031685191448 tw16115036357234790453 tw12390210212165166875 tw10360922575664287598 tw13122042287079323840 tw6382911716292271404 tw4132103865906595648 tw7296299531204695602 tw5586900749275662288 tw8483130020668118802 tw16485183409773868286 tw5889422951064816543 tw6061086872742529197 tw17353994141304263835 tw2360727718955373186 tw12126482929603556094 tw18182360693062392490 tw14626464651878992883 tw9843728960127553853 tw1479763770994395720 tw2101999483906665867 tw6739566615141532272 tw13850090761254635118 tw15180911526976097196 tw2842593398318426349 tw2312029053729395368 tw7478303172349576702 tw10286655180186470553 tw6227066834110856809 tw13893716279376982795 tw3350731423285436377 tw12768607014416083281 tw17011930103988661526 tw15113875254276262372 tw2161210720059420991 tw6856910522672913209 tw3880977364641711504 tw10719938131817253789 tw472713686760578337 tw3938327002874278950 tw8123412941417612362 tw5497134430352673741 tw1079141152224850909 tw8666848915226125189 tw16173189006844315589 tw16360566641868078759 tw18271010224551705248 tw4801519953228071061 tw2401501439079326016 tw10628789257863562232 tw11288668487531964027 tw7625792465966304894 tw6713467050138509639 tw2569886808077269253 tw6940767140456592197 tw16405502913424822925 tw10339177242378112468 tw15776527483253774864 tw7758029999606115143 tw325875334225048375 tw7730965759913619658 tw16870222829054971637 tw5555501548909564836 tw14440303857061130337 tw10374194720586501911 tw11211810041644245048 tw10514811464843557901 tw17933720720214779029 tw1854240619535708682 tw15142381657824426289 tw11893634209626340925 tw4268717563345666595 tw18004834237595524645 tw10734298891992225770 tw18098459886775267405 tw1755386076039378498 tw13502608353480560097 tw11277271141879728345 tw9113305534961585358 tw8963575646374930174 tw16364553194319037601 tw15230067447662790074 tw4486576487830999425 tw15350915697455494117 tw12168430057234293163 tw5015970406920507199 tw17495556668404538547 tw15596470253707009713 tw9791353077451309797 tw5195207225521712008 tw1709195788536910609 tw5157960249625987186 tw16960472340863654543 tw13141153572376004025 tw10277970650982790215 tw6453064510219237107 tw6411800437800722308 tw14584692926837260161 tw7122624793315937073 tw13246154959992249621 tw564207444516772240 tw13192405073352963920 tw13239810380279450649 tw6181893280886382422 tw15342732798493993684 tw16222954415058657491 tw9765361509954558059 tw16766291037348757406 tw10869815490384445802 tw5919878164269472864 tw6161604149474361213 tw4693066209534049467 tw18288924017369397744 tw11633619572307039607 tw5761973747235822411 tw17437514083563716947 tw8313290327225339462 tw2822186091099189503 tw5448953898223562363 tw16041428085994476646 tw8824943919054017808 tw8810747867896058084 tw4483189470197234143 tw4356298264006759533 tw8714622425242192934 tw9146964429613805550 tw869291684102781709 tw12337016635598342573 tw10744563357548401363 tw6439964937880227095 tw11793105743069460234 tw12614398455396261152 tw8150745125469982756 tw12742708729671274558 tw3823664911405348526 tw11778840838897751187 tw4571048110046352178 tw7661576009743435665 tw714109287494355788 tw13624234691367439625 tw17483009962408701472 tw9267283801981685812 tw747238968133743045 tw9731199187409843949 tw14455431471628288492 tw7433632773556209453 tw6026178559687883268 tw18219065083903121042 tw8468361868883078109 tw13369575770089105788 tw8472164139673109895 tw7434023010613367355 tw11506605008822529568 tw14846111964618196864 tw13522956963351324845 tw4674940025815016482 tw8374150135537796293 tw15395087707349183387 tw2717314142450810747 tw1440100746378790546 tw12114623224223217477 tw9733228157490931009 tw4847057124336778981 tw14832046317882407583 tw8426085183607321062 tw5709610632069129314 tw16846634531103831853 tw7478709371515247283 tw4179375122277551861 tw13296873080900995788 tw11871193253981511600 tw16154997951580319641 tw13408785951392756471 tw11175948091892845725 tw12397702458504052225 tw8331135967804626910 tw7761157351155909259 tw1791982217338914486 tw11063968359680701317 tw1664471060364479022 tw5596039213075920075 tw15486230048979784922 tw8754426564019909128 tw1995568073639471570 tw10639146953362877477 tw1832396204803043477 tw7530811880671838998 tw138867728948826114 tw5096323331169450806 tw7368159688472972265 tw1380843927578712908 tw18009776255568844118 tw15731244501581828501 tw11290345104969014957 tw2244622485593310463 tw12041608835560691643 tw5134984223610657026 tw11474341452111637604 tw5419384985200869605 tw5306436095485714419 tw14149577413341821816 tw95684141274447862 tw11356352414866346982 tw7376910158942203628 tw3231749511906932505 tw14823053805451101089 tw6176717893403036348 tw8370031861836045655 tw14792325529906632203 tw17368889020057440792 tw17213531729404070867 tw7695192602693345390 tw3181124447201586126 tw2501332734193440314 tw10959418275649705494 tw397524253071423880 tw1089761016947939305 tw10163429590153672812 tw16876051396820332598 tw5652520382688317522 tw8219088808777935781 tw15689223763019180904 tw14884448400890612210 tw7445208300898683596 tw5659922508774385764 tw16217144701859448863 tw6923389336407035912 tw12150918152576474052 tw16630353883015283408 tw13461104272845573371 tw3103797238710368468 tw18167799790728233370 tw7732657226150083108 tw14661615834362262568 tw5978682774282778448 tw2418631297120385851 tw5321949621590792126 tw12377044883705681992 tw7550152195873646717 tw17696200700449167129 tw14353340138154661492 tw300586167803725321 tw12166993385299476137 tw14891736488528829224 tw16490518663387649451 tw662230094282717034 tw2941303413409838487 tw9458696944458573388 tw16662060006992905673 tw9696193817905484140 tw11878803496936179490 tw7381450647417075693 tw12314917828847268286 tw4757783128621495943 tw10588098209287662364 tw11080455419655740918 tw7831020965898458968 tw9212317259341084621 tw15367261983118117680 tw1845609059663477527 tw12832676391734028845 tw270239307087910738 tw8293145160825380274 tw14619513359263329290 tw4908524255277896510 tw5636594671547838427 tw10913495326853427043 tw13648922652434380411 tw15402073556272490624 tw3454842614281803002 tw8420169723534769330 tw2164478793487434415 tw3018387661999569647 tw6102024236353462462 tw15266598606306393120 tw221893092465636832 tw1199854628160177081 tw1629892270262456263 tw7052153116767175009 tw13126792643525275415 tw6703377144328208344 tw15140948430652126787 tw7835414559945316052 tw4071302934815007192 tw18240709766949124471 tw472960111495896697 tw4258146301554587326 tw3698456390765020644 tw1337049739352738800 tw10173348120683137364 tw9003228778955668316 tw14956293158215624365 tw9945838973907815749 tw4124864619111535401 tw1971566072639660141 tw7999164322195984457 tw12222678712593828811 tw1805077056485702751 tw12757893271852340238 tw10167168022524203712 tw1143571221769434212 tw4111748988071094062 tw6700305107528316239 tw1302346011354172361 tw15374858377344952932 tw5676054754010078533 tw13178656089650051637 tw17768173938936191080 tw13800449035098591684 tw12065115561804746687 tw1394335918704140638 tw1928348872397037964 tw7931141616621552008 tw9111160159750013931 tw10688151701915693755 tw3467502800376756295 tw3890184481260329241 tw1657918337740229252 tw2164388343459733411 tw4343103400568208151 tw11114676018536836437 tw17435169470112531461:True)
open PySem PySem.W PyProof.Rows
set_option maxRecDepth 100000 in
set_option maxHeartbeats 0 in
theorem PySem.Challenge.cw_fewregisters_s01_answers_holds : PySem.Challenge.rw_fewregisters_s01_answers.Holds := by
 w_on;k_headS;(case hw=>exact⟨[.list [.int 0]],by decide+kernel,by decide+kernel⟩);k_fillS
 refine Rg.walk (by decide+kernel) rfl (λw h Y=>PySem.W.kIn_of Y) ?F
 case F=>
  intro w mg fa h KX G Bz
  refine' Rg.all_mk Bz ⟨?arj,?ark,?arl,?arn,?aro,?arp,?arq,?ars,?art,?aru,?arv,?arw,?arx,?ary,?arz,?arA,?arB,?arC,?arD,?arE,?arF,?arG,?arH,?arI,?arJ,?arK,?arL,?arM,?arN,?arO,?arP,?arQ,?arR,?arS,?arT,?arU,?arV,?arW,?arX,?arY,?arZ,?ar0,?ar1,?ar2,?ar3,?ar4,?ar5,?ar6,?ar7,?ar8,?ar9,?ar_,?asa,?asb,?asd,?ase,?asf,?ash,?asi,?asj,?asl,?asm,?asn,?aso,?asp,?asq,?asr,?ass,?asu,?asv,?asw,?asx,?asy,?asz,?asA,?asB,?asC,?asD,?asE,?asF,?asG,?asH,?asI,?asJ,?asK,?asL,?asM,?asN,?asO,?asP,?asQ,?asR,?asS,?asT,?asU,?asV,?asW,?asX,?ZE,L2.mn.binds ?ZE Rg.arh,?asY,?asZ,?as0,?as1,?as2,?as3,?as4,?as5,?as6,?as7,?as8,?as9,?as_,?ata,?atb,?atc,?atd,?ate,?atf,?atg,?ath,?ati,?atj,?atk,?atl,?atm,?atn,?ato,?atp,?atq,?atr,?ats,?att,?atu,?atw,?atx,?aty,?atz,?atA,?atB,?atD,?atE,?atF,?atG,?atH,?atJ,?atL,?atM,?atN,?atO,?atP,?atQ,?atR⟩ ?OD
  (case arj|ark|arn|arp|arq|ars|art|ary|arC|arD|arQ|arR|arS|arT|arW|arY|ar0|ar1|ar2|ar4|ar8|asd|asf|asm=>dsimp only;refine' L2.bY KX G (L2.b1 rfl) ?_ ?_ ?_ ?_<;>(try k_is))
  (case arl|aro|arw|arx|arz|arA|arB|arE|arF|arG|arH|arI|arJ|arK|arL|arM|arN|arO|arP|arU|arV|arX|arZ|ar5|ar9|ar_|asa|asb|ash|asi|asn=>dsimp only;refine' L2.bY KX G (L2.b2 rfl) ?_ ?_ ?_ ?_<;>(try k_is))
  (case aru|arv|asj=>dsimp only;refine' L2.bY KX G (L2.b3 rfl) ?_ ?_ ?_ ?_<;>(try k_is))
  (case ar3|ar7|ase=>dsimp only;refine' L2.bY KX G (L2.b4 rfl) ?_ ?_ ?_ ?_<;>(try k_is))
  (case ar6|asl=>dsimp only;refine' L2.bY KX G (L2.b5 rfl) ?_ ?_ ?_ ?_<;>(try k_is))
  (case aso=>dsimp only;refine' L2.uF KX G (L2.b5 rfl) ?_ ?_ ?_ ?_ ?_ ?_ ?_ ?_ ?_ ?_ ?_ ?_<;>(try k_is))
  (case asu|asM=>dsimp only;refine' L2.uF KX G (L2.b6 rfl) ?_ ?_ ?_ ?_ ?_ ?_ ?_ ?_ ?_ ?_ ?_ ?_<;>(try k_is))
  (case asA=>dsimp only;refine' L2.uF KX G (L2.b4 rfl) ?_ ?_ ?_ ?_ ?_ ?_ ?_ ?_ ?_ ?_ ?_ ?_<;>(try k_is))
  (case asE=>dsimp only;refine' L2.uF KX G (L2.b3 rfl) ?_ ?_ ?_ ?_ ?_ ?_ ?_ ?_ ?_ ?_ ?_ ?_<;>(try k_is))
  (case asI|asW=>dsimp only;refine' L2.uF KX G (L2.b1 rfl) ?_ ?_ ?_ ?_ ?_ ?_ ?_ ?_ ?_ ?_ ?_ ?_<;>(try k_is))
  (case asS=>dsimp only;refine' L2.uF KX G (L2.b2 rfl) ?_ ?_ ?_ ?_ ?_ ?_ ?_ ?_ ?_ ?_ ?_ ?_<;>(try k_is))
  (case asp|asq|asr|ass|asv|asw|asx|asy|asz|asB|asC|asD|asF|asG|asH|asJ|asK|asL|asN|asO|asP|asQ|asR|asT|asU|asV|asX=>dsimp only;show PySem.W.findIn _ _ _=_;k_is)
  (case asY|atw|aty|atA|atD=>refine' PySem.W.mg_of KX G ?_<;>(try k_is))
  (case asZ=>dsimp only;refine' L2.ard ?_ ?_ ?_ ?_ ?_ ?_ ?_ ?_ ?ok<;>(try k_is);(case ok=>kernel_rfl))
  (case as0|as1|as2|as3|as4|as5|as6|as7|as8|as9|as_|ata|atb|atc|atd|ate|atf|atg|ath|ati|atj|atk|atl|atm|atn|ato|atp=>refine' L2.fN KX G ?_<;>(try k_is))
  (case atq|atr|ats|att|atu=>refine' L2.CO KX G ?_<;>(try k_is))
  (case atx=>dsimp only;refine' L2.OC ?_ ?r<;>(try k_is);(case r=>exact .cons rfl (.cons rfl (.cons rfl (.cons rfl (.cons rfl (.nil)))))))
  (case atz|atB=>dsimp only;refine' L2.OC ?_ ?r<;>(try k_is);(case r=>exact .cons ⟨_,rfl⟩ (.cons ⟨_,rfl⟩ (.cons ⟨_,rfl⟩ (.cons ⟨_,rfl⟩ (.cons ⟨_,rfl⟩ (.nil)))))))
  (case atE|atF|atG|atH|atJ|atL|atM|atN|atO|atP|atQ|atR=>refine' PySem.W.mg_none_of KX G ?_<;>(try k_is))
  (case ZE=>dsimp only;refine' L2.Bl ?_ ?_ ?_<;>(try k_is))
  (case OD=>refine' Rg.ari ?_ ?n<;>(try k_is);(case n=>decide))
