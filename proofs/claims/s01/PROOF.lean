import PyProof.Rows.All
import Wide.All
import OpenK.AllK
import Wide.FinOn
import PyProof.EqAt
import PyProof.EqKinds
import PyProof.TupleCall
import KE.BitLaws
import Open.SpecLaws
import KE.OsHead
import KE.OsGo
import KE.SpHead
import KE.OsShapes
import KE.KDictList
import KE.KMinKey
import KE.KItemsList
import PySem.Challenge.RW_goodsplans_s01_answers
set_option Elab.async false
set_option linter.all false
set_option maxRecDepth 100000
set_option maxHeartbeats 2000000
open Array renaming append_assoc->Z3,forIn_toList->Z4,getElem?_eq_getElem->PG,getElem?_eq_none->Z5,length_toList->rP,toArray_toList->Hf,toList->Z6
open Bool renaming and_comm->Z7,and_eq_false_imp->Hg,and_eq_true->e7,and_eq_true_iff->Z8,and_false->Hh,and_true->PH,decide_and->Z9,eq_iff_iff->mf,false->aE,false_eq_true->xp,false_ne_true->eM,noConfusion->nJ,not_eq_true'->PI,or_eq_false_iff->Ad,or_eq_true->pz,or_eq_true_iff->C_,or_false->Hi,true->ah
open Decidable renaming not_not->Z_
open False renaming elim->iD
open ForInStep renaming yield->Hj
open Int renaming toNat_natCast->Hk
open List renaming all_cons->nK,all_eq_true->jA,all_map->ow,any_append->Ae,any_cons->rQ,any_eq_false->Hm,any_eq_true->Hn,any_map->aab,append_assoc->j2,append_nil->iP,contains_iff_mem->aac,count_append->qA,count_pos_iff->aad,dropLast_eq_take->aae,drop_drop->C',drop_eq_getElem_cons->kK,drop_eq_nil_of_le->PJ,drop_length->xq,drop_of_length_le->Dc,drop_zero->rR,eq_nil_of_length_eq_zero->kL,eraseIdxIfInBounds_toArray->aaf,erase_eq_eraseIdx_of_idxOf->aag,ext_getElem?->aah,filterMap_cons->Af,filter_append->Dd,filter_congr->Ho,filter_cons->nL,filter_eq_self->aai,filter_filter->PK,filter_map->aaj,find?_cons->nM,find?_range_eq_some->PL,flatMap_append->k6,flatMap_cons->kM,foldl_append->qB,foldl_cons->rS,forIn_cons->Hp,forIn_nil->De,getD_eq_getElem?_getD->aak,getElem?_append_left->pA,getElem?_append_right->mS,getElem?_cons_succ->Hq,getElem?_cons_zero->PM,getElem?_drop->Hr,getElem?_eq_getElem->gB,getElem?_eq_none->aal,getElem?_eq_none_iff->qC,getElem?_eq_some_iff->ej,getElem?_map->dI,getElem?_range->rT,getElem?_set_ne->PN,getElem?_set_self->PO,getElem?_take_of_lt->Df,getElem_idxOf->Hs,getElem_mem->PP,idxOf->aam,idxOf_append->aan,idxOf_lt_length_iff->PQ,isEmpty_iff->aao,length->Ag,length_append->cA,length_cons->cW,length_drop->j3,length_dropLast->Ah,length_eq_one_iff->rU,length_filter_le->tZ,length_map->aU,length_nil->j4,length_pos_iff->aap,length_range->e8,length_replicate->aaq,length_reverse->t2,length_singleton->j5,length_take->fo,length_zip->aar,lookup->t4,lookup_cons->xr,map_append->eU,map_congr_left->jB,map_cons->dO,map_drop->Ht,map_id->j6,map_inj_right->PR,map_map->dn,map_nil->t5,map_reverse->aas,map_take->Ai,mem_append->gn,mem_append_left->Hu,mem_append_right->pB,mem_cons->ek,mem_cons_of_mem->j7,mem_cons_self->mT,mem_filter->j8,mem_filterMap->PS,mem_flatMap->pC,mem_iff_getElem?->Dg,mem_map->fq,mem_of_find?_eq_some->PT,mem_of_getElem?->eN,mem_of_mem_take->rV,mem_range->gC,mem_range'_1->Hv,mem_singleton->gp,nil_append->t6,nodup_append->qD,nodup_cons->hz,nodup_nil->qE,nodup_range->xt,not_mem_nil->Hw,not_of_lt_findIdx->aat,of_mem_zip->Hx,pairwise_cons->qF,range->cf,range'->ox,range_add->aau,range_succ->pD,range_succ_eq_map->PU,replicate->PV,reverse_append->Hy,reverse_cons->t7,set_set->xu,size_toArray->fO,sum_cons->oy,takeWhile_cons->t8,takeWhile_sublist->aav,take_append_drop->Aj,take_append_of_le_length->PW,take_length->hA,take_of_length_le->pE,take_sublist->Hz,take_succ_eq_append_getElem->HA,take_take->aaw,take_zero->qG,toList_toArray->aax,zip_append->PX,zip_cons_cons->aay,zip_map_right->aaz
open List.Mem renaming head->eB,tail->fe
open List.Nodup renaming idxOf_getElem->apc,length_le_of_subset->apd,sublist->ape
open List.Pairwise renaming filter->Hl,nil->Z'
open List.Perm renaming cons_inv->apf,refl->aaa,swap->apg
open List.cons renaming inj->fN
open Nat renaming add_zero->HB,le_add_right->Dh,le_of_eq->HC,le_of_lt->kN,le_of_succ_le->HD,le_refl->bR,le_succ->Di,le_trans->b3,lt_irrefl->pF,lt_of_le_of_lt->k7,lt_of_lt_of_le->h5,lt_or_gt_of_ne->aaA,lt_succ_of_lt->Ak,lt_succ_self->t9,lt_trans->aaB,min_eq_left->mU,min_le_left->PY,ne_of_gt->oz,ne_of_lt->hS,sub_self->Al,sub_zero->aaC,zero_add->Am,zero_le->ec,zero_lt_one->HE,zero_lt_succ->Dj
open Ne renaming symm->bQ
open NeutralIO renaming bytes->aph
open Option renaming getD_none->aaD,isSome_iff_exists->aaE,isSome_map->PZ,isSome_some->aaF,map_eq_some_iff->aaG,map_some->HF,none->af,some->U
open Option.some renaming inj->bS,injEq->aaH
open Or renaming inl->bA,inr->qH
open Prod.mk renaming inj->qI
open PyFlat renaming call->Dk,calls->qJ,played->Dl,rows->t_,told->Dm
open PyProof.Rows renaming AllBare->xv,FormattedValue_plain->aaJ,IntsAre->oA,StrsAre->P1,callWith_builtin1->apn,callWith_type1->An,envOfC->qK,formatField_int_small->aaK,in_str->apo,joinParts_cons->P2,join_list->apq,join_tuple->apr,lt_int->aaL,sortedAll_at->aps,sortedAll_old->apt,sorted_strs->apu,split_le->apv,subscriptTail->P4,subscriptTail_builtinR->aaM
open PyProof.Rows.F renaming entry_set_update_loop->aaI,plain_set_update_loop->P0
open PySem renaming Around->dQ,BindsTo->Ao,Builtin->oB,CmpOp->rY,DictEntry->mV,FuncData->jd,GenState->HK,IsPair->nN,Keyword->xx,Meets->HL,Model->Ar,NameKind->lD,Operator->Qc,Params->rZ,Program->b6,Result->xy,Shared->aT,Value->ar,World->bX,ZipApart->Qk,am_miss_of_fast->abo,assign->Dt,assignEach->Du,atKey->r2,attributeBase->oC,backTo->jC,backToKw->Dv,behindInMarks->ud,binaryOp->Dw,bindArgs->ue,bindC->uf,bindL->ug,bootBuiltins->jD,builtinsNs->Ql,callWith->Qm,call_list_seq->abp,call_meets->uh,call_meetsIn->Dx,callerA->Aw,cellOf->Qn,cellsFrom->je,codeAny->oD,codeAny_mono->xA,compEnvC->nP,compPost->Qo,compareOp->jf,comprehension->abt,eval->c',evalPart_none->abu,field->HQ,findBy->Qp,firstArgMember->abv,foldedSetIterable->HR,getAttr->Qq,getItem->Ax,getMethod->HS,getattributeRaised->abw,hashInt->HT,holding->oE,inplaceOp->Qr,intBits_le_64->abx,isSubtype_stop->abz,isTrue->Ay,keywordEach->Dy,letOwnedTupleGo->HU,mainGlobals->k9,merged->Dz,model->bO,newFunctionEnv->abA,notedBy->Az,nums_intItems->abB,operate->Qs,pairTrees->Qt,plainId_quiet->pG,pushCells->ui,pushCells_keeps->HV,pyIter->AA,pyNext->j9,rawInt->oF,richCompare->Qu,seqItems?->Qv,sizeLine_eq->AB,sliceBounds->xB,slot_list_getitem->abF,spliced->Qw,standAt->HW,starEach->eO,storeName->Qx,stored->AC,stored_length_le->abG,strLen_append->nQ,strValues->Qy,subscripted->HX,swapsWith->xC,sysModules->kO,truthy->Qz,tupleKind->uj,tupleKind_room_in1->AD,typeIs_str->xD,typeLookup->HY,typeOf->QA,valueAt->xE,wants->DA,wpAny->bp,wpAny_Name->QB,wpAny_attempt->HZ,wpAny_bind->bg,wpAny_call->DB,wpAny_callSpecial?_slot->DC,wpAny_call_entry->xF,wpAny_dictEntries->H0,wpAny_dictEpoch->QC,wpAny_execs_nil->H2,wpAny_field->AE,wpAny_fieldsOf->abI,wpAny_getItem_of->abJ,wpAny_holding->lE,wpAny_isInstance->abK,wpAny_isOneOf_keyiter->abL,wpAny_letGo->DE,wpAny_loadName_cell->abM,wpAny_loadName_local->abN,wpAny_loadPart'->oG,wpAny_mono->lF,wpAny_newObj_type->H3,wpAny_nextOf_list_item->abP,wpAny_notOrdered_dict->abQ,wpAny_passesOwn->xG,wpAny_pure->cD,wpAny_pyIter_enum->abS,wpAny_pyIter_keyiter->abT,wpAny_pyIter_list->H4,wpAny_pyIter_revIter->abU,wpAny_pyIter_slot->abV,wpAny_pyIter_zip->QD,wpAny_pyNext_zip_end->abW,wpAny_pyNext_zip_item->abX,wpAny_seqItems->AF,wpAny_setField->abY,wpAny_standAt->QE,wpAny_truthy_bool->oH,wpAny_tryCatch->xH,wpAny_typeNameOfWhole_keyiter->H5,wpAny_typeNameOf_keyiter->H6,wpAny_updateSeq->QF
open PySem.Around renaming under->P5,under_plainId->qL
open PySem.Builtin.Builtins renaming bindParams->apy
open PySem.Builtin.Dict renaming addKeywords->aaN,dictSlotNone->apz,pairItems->aaO,pendingCount->apA,selfAndRest->apB,showsAll->aaP,updateFrom->aaQ
open PySem.Builtin.Dict_items renaming ownsTuple->aaR
open PySem.Builtin.Frozenset renaming updateFrom->apC
open PySem.Builtin.List renaming listTooLong->P6
open PySem.Builtin.Range renaming rangeSize->aaS,small->apD
open PySem.Builtin.SmallTypes renaming nextOf->P7,ownedTupleIsFree->HG
open PySem.Builtin.Str renaming occurrences->P8,partsBetween->aaT,strKind->rW,strSliceIndices->rX
open PySem.Calls renaming Constant_str->aaU,Name_function_global->aaV,callWith_builtin->Dn,evalArgs_plain->HH,spliced_cons->Ap,spliced_nil->Dp
open PySem.CmpOp renaming In->aaW,NotIn->aaX
open PySem.Code renaming frames->aaY,isFrame->P9
open PySem.Data renaming dict->aaZ,seq->HI
open PySem.DictEntry renaming refKey->apE
open PySem.F renaming args_dict_keyiterator_next_1->aa0,args_str_split_2->P_,called_set->ua,entry_dict_keyiterator_next->aa1,entry_str_split->P',slot_dict_items->aa2,slot_dict_iter->aa3,slot_dict_keyiterator_iter->aa4,slot_dict_keyiterator_next->Aq,slot_dict_len->aa5,slot_str_split->HJ
open PySem.Heap renaming SameBut->xw,get?_push_of_some->fG,get?_push_size->fX,get?_update_other->Qa,lt_size->ef,size_push->k8
open PySem.Heap.DictOf renaming new->aa6
open PySem.Heap.IsSliceOf renaming new->apF
open PySem.Heap.SameBut renaming refl->apJ,update->aa7
open PySem.NameKind renaming cell->Qb,free->As
open PySem.Obj renaming data_mapFields->aa8,mapFields->aa9,mapSeq->aba
open PySem.PassesOwn renaming never->gD
open PySem.PyData renaming canLayAll0->Qd,depthAll->Qe,eqv->abc,eqvAll->abd,strOk->abe
open PySem.SeqAt renaming EqAt->Qg,shaped->HM
open PySem.SeqAt.EqAt renaming bool_bool->apO,bool_int->apP,bool_none->apQ,bool_str->apR,int_bool->apS,int_int->abf,int_none->apT,int_str->abg,none_bool->apU,none_int->apV,none_str->apW,same->apX,str_bool->apY,str_int->abh,str_none->apZ,str_str->ap0
open PySem.Str renaming empty->Qh,join->Qi,length->Qj,ofString->dY
open PySem.Value renaming bool->nO,bytes->abi,float->abj,int->HN,isInt->ub,isStrOf->abk,none->r0,ref->eZ,str->Dq,type->r1
open PySem.Value.type renaming inj->abl
open PySem.W renaming WData->hT,Well->Ds,WellAll->uc
open PySem.W.Codec renaming app->Dr,denoteAll->HO,encAll->Au,withinAll->abm
open PySem.W.ReadsAllW renaming cons->ap4,nil->ap5
open PySem.W.WData renaming int->abn,weightAll->HP
open PySem.Walks renaming list->Av
open PyVanetm renaming answers->DF,answers_asked->ab0,calls->ab1,shape->lG,whole->H7
open Sum renaming inl->h6,inr->uk
open Sum.inl renaming inj->DG
open Sum.inr renaming inj->ab2
open True renaming intro->xI
open UInt8 renaming lt_iff_toNat_lt->DH,ofNat->pH,toNat_inj->QG
open UInt8.toNat renaming inj->xJ
open Vaneta renaming Formula->gq,Name->dq,OPEN->jE,Text->dT,Token->g4,allOf->ab4,before->hB,chain->H8,cutAt->H9,dual->dg,form->gQ,formulaIn->ul,formulaOf->QJ,isName->gb,isSign->pI,isSmall->ab5,isTwo->nR,level->dA,namesIn->jF,paren->ab6,sequentForm->QK,signOf->pJ,tokens->AG,tokensFrom->hc,two->xM
open Vaneta.Formula renaming atom->ap6,par->ab3
open Vaneta.Token renaming arrow->QH,name->QI,sign->xK
open Vanetc renaming decimal->um,linksText->H_,spaced->QL
open Vanetm renaming Call->H',Out->xN,Recipe->jG,after->fl,apart->Ib,bag->jH,before->QM,below->jI,conclusionOf->uo,conclusions->jg,does->eC,done->AH,doneWith->oI,exchanged->nS,few->ab8,firstUnit->cn,followed->r3,given->oJ,given_->hC,independent->nT,«ints»->hg,isIn->AI,isKept->Ic,isSmall->QN,isUnits->xO,lacking->uq,leastOf->Ie,less->DI,lessAll->AJ,moved->DJ,nameOf->dh,newNumber->DK,oneEach->DL,otherLeaf->kP,picked->iQ,reachFrom->qM,reached->ur,recipeAt->dw,recipeForm->qN,recipeOf->uu,span->e0,starred->qO,start->QO,stock->cE,swapped->AK,tell->r4,tensorNames->fy,tensorOf->k_,told->AL,toldList->lH,toldText->jJ,tooMuch->jK,unitsOfLeaves->hh,weight->k',weightOf->uv
open Vanetm.Call renaming back->ap7,begin->ap8,exchange->ap9,follow->aqa,need->aqb,net->aqc,plan->aqd,reach->aqe,recipe->aqf,«show»->aqg,stock->aqh,told->aqi,use->aqj,weigh->aqk
open Vanetm.Left renaming place->ab7,units->Ia
open VanetmNeutral renaming asked->aql,asked1->AM,callOf->xP,natural->xQ,start->aqm,step->r5,text?->xR,whole60->Ig
theorem I{α:Sort u}{a:α}:a=a:=rfl
theorem aD{p:Prop}(h:p:=by decide+kernel):p:=h
theorem aG{p:Prop}(h:p:=by omega):p:=h
theorem a5{p:Prop}(h:p:=by decide):p:=h
theorem bl{p:Prop}(h:p:=by simp):p:=h
theorem arv{p:Prop}(h:p:=by rfl):p:=h
theorem df{p:Prop}(h:p:=by intro z;cases z):p:=h
theorem me{p:Prop}(h:p:=by with_unfolding_all rfl):p:=h
theorem eH{p:Prop}(h:p:=by show 1<=PySem.sizeLine;decide):p:=h
theorem iC{p:Prop}(h:p:=by show 2<=PySem.sizeLine;decide):p:=h
theorem Aa{p:Prop}(h:p:=by show 0+1<1000;decide):p:=h
theorem Ab{p:Prop}(h:p:=by show 0<1000;decide):p:=h
abbrev ars:=@if_neg
abbrev art:=@if_pos
abbrev arq:=@decide_eq_true
abbrev arp:=@decide_eq_false
abbrev aru:=@of_decide_eq_true
abbrev aro:=@absurd
inductive asy{t0 t1 k4 asz:Type}(p:t0->t1->k4->asz->Prop):Prop
 |mk (A1 a1 a2 hi) (h:p A1 a1 a2 hi)
inductive asA{t0 t1 k4 asz Pl:Type}(p:t0->t1->k4->asz->Pl->Prop):Prop
 |mk (A1 a1 a2 hi qY) (h:p A1 a1 a2 hi qY)
inductive asB{t0 t1 k4 asz Pl asC oq:Type}(p:t0->t1->k4->asz->Pl->asC->oq->Prop):Prop
 |mk (A1 a1 a2 hi qY oO pN) (h:p A1 a1 a2 hi qY oO pN)
inductive asE{t0 t1 k4 asz Pl asC oq asF asG:Type}(p:t0->t1->k4->asz->Pl->asC->oq->asF->asG->Prop):Prop
 |mk (A1 a1 a2 hi qY oO pN x4 D1) (h:p A1 a1 a2 hi qY oO pN x4 D1)
namespace bL
open PySem PySem.Spec PyProof.Rows
abbrev Key:=Sum Int Str
def kq:Key->ar->Bool
 | .inl k,v=>ub k v
 | .inr x,v=>abk x v
def aiz(w:bX):Key->Int
 | .inl k=>HT k
 | .inr x=>hashStr w x
theorem n':∀{k:Key}{v:ar},kq k v=ah->(∃i t,k=h6 i/\v=HN i t)\/(∃x t,k=uk x/\v=Dq x t)
 | .inl i,v,h=>by obtain⟨t,e⟩:=Value.isInt_shape (k:=i) (v:=v) h;exact .inl ⟨i,t,I,e⟩
 | .inr x,v,h=>by obtain⟨t,e⟩:=Value.isStrOf_shape (x:=x) (v:=v) h;exact .inr ⟨x,t,I,e⟩
theorem aiA(i:Int)(t:Tok):kq (.inl i) (.int i t)=ah:=by simp[kq,ub]
theorem aiB(x:Str)(t:Tok):kq (.inr x) (.str x t)=ah:=by simp[kq,abk]
theorem aiD(a b:Int):decide ((h6 a:Key)=h6 b)=(a==b):=by
 by_cases e:a=b
 ·subst e;simp
 ·have h:¬(h6 a:Key)=h6 b:=λq=>e (DG q);rw[arp h];exact(beq_eq_false_iff_ne.mpr e).symm
theorem aiG(a b:Str):decide ((uk a:Key)=uk b)=decide (a=b):=by
 by_cases e:a=b
 ·subst e;simp
 ·have h:¬(uk a:Key)=uk b:=λq=>e (ab2 q);rw[arp h,arp e]
theorem aiE(a:Int)(b:Str):decide ((h6 a:Key)=uk b)=aE:=arp (λq=>nomatch q)
theorem aiF(a:Str)(b:Int):decide ((uk a:Key)=h6 b)=aE:=arp (λq=>nomatch q)
def eF(prog:b6)(w:bX):PySem.KeyKind prog w Key where
 is:=kq
 hash:=aiz w
 inj:=λv a b ay ak=>by
  rcases n' ay with⟨i,t,rfl,rfl⟩|⟨x,t,rfl,rfl⟩
  ·rcases n' ak with⟨j,u,rfl,e⟩|⟨y,u,rfl,e⟩
   ·injection e with aS _;rw[aS]
   ·exact nomatch e
  ·rcases n' ak with⟨j,u,rfl,e⟩|⟨y,u,rfl,e⟩
   ·exact nomatch e
   ·injection e with aS _;rw[aS]
 byValue:=λk v h=>by rcases n' h with⟨i,t,rfl,rfl⟩|⟨x,t,rfl,rfl⟩<;>rfl
 pyHash:=λbU h=>by
  rcases n' bU with⟨i,t,rfl,rfl⟩|⟨x,t,rfl,rfl⟩
  ·exact wpAny_pyHash_int h
  ·exact wpAny_pyHash_str h
 eqBool:=λa4 bU h=>by
  rcases n' a4 with⟨i,t,rfl,rfl⟩|⟨x,t,rfl,rfl⟩
  ·rcases n' bU with⟨j,u,rfl,rfl⟩|⟨y,u,rfl,rfl⟩
   ·rw[aiD]at h;exact wpAny_eqBool_int h
   ·rw[aiE]at h;exact abg i t y u _ _ _ _ h
  ·rcases n' bU with⟨j,u,rfl,rfl⟩|⟨y,u,rfl,rfl⟩
   ·rw[aiF]at h;exact abh x t j u _ _ _ _ h
   ·rw[aiG]at h;exact wpAny_eqBool_str h
 «strs»:=λk x t v h=>by
  rcases n' h with⟨i,u,rfl,e⟩|⟨y,u,rfl,e⟩
  ·exact nomatch e
  ·injection e with aS _;subst aS;cases v<;>rfl
theorem ajj(prog:b6)(w:bX)(i:Int)(t:Tok):(eF prog w).is (.inl i) (.int i t)=ah:=aiA i t
theorem ajk(prog:b6)(w:bX)(x:Str)(t:Tok):(eF prog w).is (.inr x) (.str x t)=ah:=aiB x t
inductive V where
 |bZ|bB (b:Bool)|int (i:Int)|str (x:Str)|kc (b:Array UInt8)|Eu (b:UInt64)|ref (a:Addr)|ty (n:String)
 deriving DecidableEq
def RelV:V->ar->Prop
 | .bZ,u=>u=r0
 | .bB b,u=>u=nO b
 | .int i,u=>∃t,u=HN i t
 | .str x,u=>∃t,u=Dq x t
 | .kc b,u=>∃t,u=abi b t
 | .Eu b,u=>∃t,u=abj b t
 | .ref a,u=>u=eZ a
 | .ty n,u=>u=r1 n
abbrev bT:List V->List ar->Prop:=Paired RelV
theorem bT.length{xs:List V}{us:List ar}(r:bT xs us):xs.length=us.length:=Paired.length r
theorem bT.get:∀{xs:List V}{us:List ar}{i:Nat}{x:V},bT xs us->xs[i]? =U x->∃u,us[i]? =U u/\RelV x u
 |_,_,_,_,.nil,e=>by simp at e
 |_,_,0,_,.cons r _,e=>by simp at e;subst e;exact⟨_,I,r⟩
 |_,_,i+1,x,.cons _ t,e=>by obtain⟨u,ag,ai⟩:=bT.get (i:=i) (x:=x) t (by simpa using e);exact⟨u,by simpa using ag,ai⟩
theorem bT.set{x:V}{u:ar}(r:RelV x u):∀{xs:List V}{us:List ar}(i:Nat),bT xs us->bT (xs.set i x) (us.set i u)
 |_,_,_,.nil=>.nil
 |_,_,0,.cons _ t=>.cons r t
 |_,_,i+1,.cons q t=>.cons q (bT.set r i t)
theorem bT.append:∀{xs ys:List V}{us ws:List ar},bT xs us->bT ys ws->bT (xs++ys) (us++ws)
 |_,_,_,_,.nil,s=>s
 |_,_,_,_,.cons r t,s=>.cons r (bT.append t s)
theorem bT.take:∀{xs:List V}{us:List ar}(n:Nat),bT xs us->bT (xs.take n) (us.take n)
 |_,_,0,_=>.nil
 |_,_,_+1,.nil=>.nil
 |_,_,n+1,.cons r t=>.cons r (bT.take n t)
theorem bT.drop:∀{xs:List V}{us:List ar}(n:Nat),bT xs us->bT (xs.drop n) (us.drop n)
 |_,_,0,r=>r
 |_,_,_+1,.nil=>.nil
 |_,_,n+1,.cons _ t=>bT.drop n t
theorem bT.none_of:∀{xs:List V}{us:List ar}{i:Nat},bT xs us->xs[i]? =af->us[i]? =af:=λ{xs us i}r e=>by have ag:=r.length;have ai:xs.length<=i:=qC.mp e;exact qC.mpr aG
def jO:Option V->Option ar->Prop
 |some v,U u=>RelV v u
 |none,af=>True
 |_,_=>False
def fh{dy:Type}:List (dy×V)->List (dy×ar)->Prop:=Paired λ(p:dy×V)(q:dy×ar)=>p.1=q.1/\RelV p.2 q.2
def cc:Key->V
 | .inl i=>.int i
 | .inr x=>.str x
inductive dE where
 |lst (xs:List V)
 |tup (xs:List V)
 |cC (kvs:List (Key×V))|e3 (kvs:List (List Key×V))
 |set (S:Int->Bool) (n:Nat)
 |ins (C aq:Addr) (bk:List (Str×V))
 |own (x:Addr)
 |PF (bk:List (Str×V))
 |met (f x:Addr)
 |i8 (lo av:Int)
 |dV (o:Obj) (u:dE)
 |gO (ps:Array ar)
 |ext (xo:Heap->Prop)
abbrev ax:=Addr->Option dE
def upd(H:ax)(a:Addr)(o:dE):ax:=λb=>if b=a then U o else H b
theorem aW{H:ax}{a:Addr}{o:dE}:upd H a o a=U o:=by unfold upd;rw[art I]
theorem aY{H:ax}{a b:Addr}{o:dE}(h:b≠a):upd H a o b=H b:=by unfold upd;rw[ars h]
theorem tR{H:ax}{a:Addr}{o u:dE}:upd (upd H a o) a u=upd H a u:=by funext b;unfold upd;split<;>rfl
theorem cH{H:ax}{a b:Addr}{o u:dE}(h:H a=U o)(h':H b=U u)(d:o≠u):a≠b:=by intro e;subst e;rw[h]at h';exact d (bS h')
theorem bj{H:ax}{a b:Addr}{o:dE}(h:H a=U o)(h':H b=af):a≠b:=by intro e;subst e;rw[h]at h';cases h'
section
variable(P:b6)(w:bX)
def gF(H:ax)(h:Heap)(a:Addr):dE->Prop
 | .lst xs=>xs.length<=sizeLine/\∃(its:List ar)(n:Nat),bT xs its/\h.get? a=U {cls:=.type "list",data:=.seq its.toArray n}
 | .tup xs=>xs.length<=sizeLine/\∃its:List ar,bT xs its/\IsTup h a its.toArray
 | .cC kvs=>kvs.length<=sizeLine/\(a==kO)=aE/\∃vs,fh kvs vs/\h.DictOf (eF P w) a vs
 | .e3 kvs=>kvs.length<=sizeLine/\(a==kO)=aE/\∃xs:List (List Key×Addr×ar),Paired (λ(p:List Key×V)(q:List Key×Addr×ar)=>p.1=q.1/\H q.2.1=U (.tup (p.1.map cc))/\RelV p.2 q.2.2) kvs xs/\∃o es ep,h.get? a=U o/\o.ExactDict/\o.data=.dict es ep/\es.toList=xs.map (entryOfKey (uj (eF P w)))/\(xs.map (·.1)).Nodup
 | .set S n=>h.SetOf (intKind P w) a S n
 | .ins C aq bk=>H aq=U (.own a)/\bk.length<=1000/\aq≠a/\h.get? a=U (PySem.W.instObj C aq)/\∃e5,h.Ns1 aq e5/\(∀f,jO (bk.lookup f) (e5 f))/\PySem.Within e5 (bk.map (·.1))
 | .own _=>∃o,h.get? a=U o
 | .PF bk=>∃e5,h.Ns1 a e5/\∀f,jO (bk.lookup f) (e5 f)
 | .i8 lo av=>∃t u v,h.get? a=U {cls:=.type "range",data:=.fields #[.int lo t,.int av u,.int 1 v]}
 | .dV o u=>h.get? a=U o/\gF H h a u
 | .gO ps=>h.get? a=U {cls:=.none,data:=.fields ps}
 | .met f x=>h.get? a=U (PySem.W.methodObj (.ref f) (.ref x))
 | .ext xo=>xo h/\(∃o,h.get? a=U o)/\∀ag ai:Heap,xo ag->(∀o,ag.get? a=U o->ai.get? a=U o)->xo ai
def fI(H:ax)(h:Heap):Prop:=∀a o,H a=U o->gF P w H h a o
end
section
variable{P:b6}{w:bX}{H ae:ax}{h h':Heap}{a:Addr}{o:dE}
theorem gF.lt(x:gF P w H h a o):a<h.objs.size:=by
 cases o with
 |lst xs=>obtain⟨_,_,_,_,e⟩:=x;exact ef e
 |tup xs=>obtain⟨_,_,_,p⟩:=x;exact p.lt
 |cC kvs=>obtain⟨_,_,_,_,o,_,_,e,_⟩:=x;exact ef e
 |e3 kvs=>obtain⟨_,_,_,_,o,_,_,e,_⟩:=x;exact ef e
 |set S n=>obtain⟨o,_,_,_,e,_⟩:=x;exact ef e
 |ins C aq bk=>obtain⟨_,_,_,e,_⟩:=x;exact ef e
 |own y=>obtain⟨_,e⟩:=x;exact ef e
 |PF bk=>obtain⟨_,⟨_,_,_,e,_⟩,_⟩:=x;exact ef e
 |i8 lo av=>obtain⟨_,_,_,e⟩:=x;exact ef e
 |dV ob u=>obtain⟨e,_⟩:=x;exact ef e
 |gO ps=>exact ef (show h.get? a=U _ from x)
 |met f y=>exact ef (show h.get? a=U _ from x)
 |ext xo=>obtain⟨_,⟨_,e⟩,_⟩:=x;exact ef e
theorem Paired.Ml{α β:Type}{F G:α->β->Prop}:∀{l₁:List α}{l₂:List β},Paired F l₁ l₂->(∀a b,F a b->G a b)->Paired G l₁ l₂
 |_,_,.nil,_=>.nil
 |_,_,.cons r t,f=>.cons (f _ _ r) (Paired.Ml t f)
theorem gF.qu(x:gF P w H h a o)(k:∀b u,(b=a\/H b=U (.own a))->h.get? b=U u->h'.get? b=U u)(aA:∀b,H b=U (.own a)->ae b=U (.own a))(bV:∀b xs,H b=U (.tup xs)->ae b=U (.tup xs)):gF P w ae h' a o:=by
 induction o with
 |lst xs=>obtain⟨z,its,n,r,e⟩:=x;exact⟨z,its,n,r,k _ _ (.inl I) e⟩
 |tup xs=>obtain⟨z,its,r,ob,e,c⟩:=x;exact⟨z,its,r,ob,k _ _ (.inl I) e,c⟩
 |cC kvs=>obtain⟨z,y,vs,r,ob,es,ep,e,c⟩:=x;exact⟨z,y,vs,r,ob,es,ep,k _ _ (.inl I) e,c⟩
 |e3 kvs=>obtain⟨z,y,xs,r,ob,es,ep,e,c⟩:=x;exact⟨z,y,xs,Paired.Ml r λp q z=>⟨z.1,bV _ _ z.2.1,z.2.2⟩,ob,es,ep,k _ _ (.inl I) e,c⟩
 |set S n=>obtain⟨ob,es,ep,t,e,c⟩:=x;exact⟨ob,es,ep,t,k _ _ (.inl I) e,c⟩
 |ins C aq bk=>obtain⟨d,z,ne,e,e5,⟨cO,es,ep,aQ,c⟩,r⟩:=x;exact⟨aA _ d,z,ne,k _ _ (.inl I) e,e5,⟨cO,es,ep,k _ _ (.inr d) aQ,c⟩,r⟩
 |own y=>obtain⟨ob,e⟩:=x;exact⟨ob,k _ _ (.inl I) e⟩
 |PF bk=>obtain⟨e5,⟨cO,es,ep,e,c⟩,r⟩:=x;exact⟨e5,⟨cO,es,ep,k _ _ (.inl I) e,c⟩,r⟩
 |i8 lo av=>obtain⟨t,u,v,e⟩:=x;exact⟨t,u,v,k _ _ (.inl I) e⟩
 |dV ob u ih=>obtain⟨e,q⟩:=x;exact⟨k _ _ (.inl I) e,ih q⟩
 |gO ps=>have e:h.get? a=U {cls:=.none,data:=.fields ps}:=x;show h'.get? a=U {cls:=.none,data:=.fields ps};exact k a _ (.inl I) e
 |met f y=>have e:h.get? a=U (PySem.W.methodObj (.ref f) (.ref y)):=x;show h'.get? a=U (PySem.W.methodObj (.ref f) (.ref y));exact k a _ (.inl I) e
 |ext xo=>obtain⟨p,⟨o,e⟩,st⟩:=x;exact⟨st _ _ p λo q=>k _ _ (.inl I) q,⟨o,k _ _ (.inl I) e⟩,st⟩
theorem fI.lt(x:fI P w H h)(e:H a=U o):a<h.objs.size:=(x a o e).lt
theorem fI.fresh(x:fI P w H h)(e:h.objs.size<=a):H a=af:=by
 cases q:H a with
 |none=>rfl
 |some u=>exact aro (h5 (x.lt q) e) (pF _)
theorem fI.kept(x:fI P w H h)(k:∀b u,h.get? b=U u->h'.get? b=U u):fI P w H h':=λa o e=>(x a o e).qu (λb u _ q=>k b u q) (λ_ q=>q) λ_ _ q=>q
theorem fI.laid(x:fI P w H h)(k:∀b u,h.get? b=U u->h'.get? b=U u)(aO:h.objs.size<=a)(new:gF P w (upd H a o) h' a o):fI P w (upd H a o) h':=λb u e=>by
 have aC:=x.fresh aO;by_cases ak:b=a
 ·subst ak;rw[aW]at e;cases e;exact new
 ·rw[aY ak]at e;exact(x b u e).qu (λc v _ q=>k c v q) (λc q=>by rw[aY (bj q aC)];exact q) λc xs q=>by rw[aY (bj q aC)];exact q
end
def mh(H:ax)(a:Addr)(u:dE):Prop:=H a=U u\/∃o,H a=U (.dV o u)
theorem mh.of{H:ax}{a:Addr}{u:dE}(h:H a=U u):mh H a u:=.inl h
theorem mh.ok{P:b6}{w:bX}{H:ax}{h:Heap}{a:Addr}{u:dE}(r:mh H a u)(x:fI P w H h):gF P w H h a u:=by
 rcases r with r|⟨o,r⟩
 ·exact x a u r
 ·obtain⟨_,q⟩:=x a _ r;exact q
def qW:Option dE->Prop
 |some (.lst _)=>True
 |some (.cC _)=>True
 |some (.e3 _)=>True
 |some (.set _ _)=>True
 |some (.ins _ _ _)=>True
 |some (.ext _)=>True
 |_=>False
section
variable{P:b6}{w:bX}{H:ax}{h h':Heap}{x e:Addr}{o':dE}
theorem fI.write(ok:fI P w H h)(eA:qW (H x))(he:e=x\/H e=U (.own x))(k:∀b u,b≠e->h.get? b=U u->h'.get? b=U u)(zh:∃u,h'.get? e=U u)(new:gF P w (upd H x o') h' x o'):fI P w (upd H x o') h':=λb u q=>by
 have Wq:∀c y,H c=U (.own y)->c≠x:=λc y r z=>by subst z;rw[r]at eA;exact eA
 have akc:∀c xs,H c=U (.tup xs)->c≠x:=λc xs r z=>by subst z;rw[r]at eA;exact eA
 by_cases ak:b=x
 ·subst ak;rw[aW]at q;cases q;exact new
 ·rw[aY ak]at q;by_cases wh:b=e
  ·have gM:H b=U (.own x):=by
    rcases he with z|z
    ·exact aro (wh.trans z) ak
    ·rw[wh];exact z
   rw[q]at gM;cases gM;obtain⟨v,bU⟩:=zh;exact⟨v,by rw[wh];exact bU⟩
  ·refine(ok b u q).qu (λc v aF r=>k c v ?_ r) (λc r=>by rw[aY (Wq c b r)];exact r) λc xs r=>by rw[aY (akc c xs r)];exact r
   rcases aF with rfl|aF
   ·exact wh
   ·rintro rfl;rcases he with z|z
    ·exact Wq c b aF z
    ·rw[aF]at z;cases z;exact ak I
end
structure gR(bk ex:List Addr)(H ae:ax)(h h':Heap):Prop where
 keep:∀b o,h.get? b=U o->H b=af->b∉bk->b∉ex->h'.get? b=U o
 slot:∀b o,h.get? b=U o->H b=af->b∈bk->b∉ex->∃hP,h'.get? b=U {o with slots:=hP}
 free:∀b o,h.get? b=U o->H b=af->b∉ex->ae b=af
 there:∀b o,h.get? b=U o->b∉ex->∃o',h'.get? b=U o'
 nG:∀b xs,H b=U (.tup xs)->ae b=U (.tup xs)
 lU:∀b o u,H b=U (.dV o u)->ae b=U (.dV o u)
 nE:∀b ps,H b=U (.gO ps)->∃more,ae b=U (.gO (ps++more))
section
variable{bk ms ex Sm:List Addr}{H H1 az:ax}{h ag ai h':Heap}{a x e:Addr}{o:dE}
theorem gR.any(u:gR bk ex H H1 h ag){b:Addr}{ob:Obj}(q:h.get? b=U ob)(n:H b=af)(ao:b∉ex):∃hP,ag.get? b=U {ob with slots:=hP}:=by
 by_cases ak:b∈bk
 ·exact u.slot b ob q n ak ao
 ·exact⟨ob.slots,u.keep b ob q n ak ao⟩
theorem gR.trans(a:gR bk ex H H1 h ag)(b:gR bk ex H1 az ag ai):gR bk ex H az h ai where
 keep:=λc ob q n aF ao=>b.keep c ob (a.keep c ob q n aF ao) (a.free c ob q n ao) aF ao
 slot:=λc ob q n aF ao=>by obtain⟨hP,aS⟩:=a.slot c ob q n aF ao;obtain⟨OW,aQ⟩:=b.slot c _ aS (a.free c ob q n ao) aF ao;exact⟨OW,aQ⟩
 free:=λc ob q n ao=>by obtain⟨o',aS⟩:=a.there c ob q ao;exact b.free c o' aS (a.free c ob q n ao) ao
 there:=λc ob q ao=>by obtain⟨o',aS⟩:=a.there c ob q ao;exact b.there c o' aS ao
 nG:=λc xs q=>b.nG c xs (a.nG c xs q)
 lU:=λc ob xs q=>b.lU c ob xs (a.lU c ob xs q)
 nE:=λc ps q=>by obtain⟨gx,aS⟩:=a.nE c ps q;obtain⟨ku,aQ⟩:=b.nE c _ aS;exact⟨gx++ku,by rw[aQ,Z3]⟩
theorem gR.kept(k:∀b u,h.get? b=U u->h'.get? b=U u):gR bk ex H H h h':=⟨λb ob q _ _ _=>k b ob q,λb ob q _ _ _=>⟨ob.slots,k b ob q⟩,λ_ _ _ n _=>n,λb ob q _=>⟨ob,k b ob q⟩,λ_ _ q=>q,λ_ _ _ q=>q,λ_ ps q=>⟨#[],by rw[q];simp⟩⟩
theorem gR.refl:gR bk ex H H h h:=gR.kept λ_ _ q=>q
theorem gR.laid(k:∀b u,h.get? b=U u->h'.get? b=U u)(aO:h.objs.size<=a)(aC:H a=af):gR bk ex H (upd H a o) h h' where
 keep:=λb u q _ _ _=>k b u q
 slot:=λb u q _ _ _=>⟨u.slots,k b u q⟩
 free:=λb u q n _=>by rw[aY (hS (h5 (ef q) aO))];exact n
 there:=λb u q _=>⟨u,k b u q⟩
 nG:=λb xs q=>by rw[aY (bj q aC)];exact q
 lU:=λb u xs q=>by rw[aY (bj q aC)];exact q
 nE:=λb ps q=>⟨#[],by rw[aY (bj q aC),q];simp⟩
theorem gR.write(eA:qW (H x))(he:e=x\/H e=U (.own x))(k:∀b u,b≠e->h.get? b=U u->h'.get? b=U u)(zh:∃u,h'.get? e=U u):gR bk ex H (upd H x o) h h':=by
 have ao:∀b,H b=af->b≠x:=λb n z=>by subst z;rw[n]at eA;exact eA
 have ak:∀b,H b=af->b≠e:=λb n z=>by
  subst z;rcases he with r|r
  ·exact ao b n r
  ·rw[n]at r;cases r
 have hm:∀b u,H b=U u->¬qW (U u)->b≠x:=λb u q nm z=>by subst z;rw[q]at eA;exact nm eA
 refine⟨λb u q n _ _=>k b u (ak b n) q,λb u q n _ _=>⟨u.slots,k b u (ak b n) q⟩,λb u q n _=>by rw[aY (ao b n)];exact n,λb u q _=>?_,
  λb xs q=>by rw[aY (hm b _ q λz=>z)];exact q,λb u xs q=>by rw[aY (hm b _ q λz=>z)];exact q,λb ps q=>⟨#[],by rw[aY (hm b _ q λz=>z),q];simp⟩⟩
 by_cases wh:b=e
 ·subst wh;exact zh
 ·exact⟨u,k b u wh q⟩
theorem gR.mono(u:gR bk ex H H1 h ag)(aP:∀b∈bk,b∈ms)(ao:∀b∈ex,b∈Sm):gR ms Sm H H1 h ag:=⟨λb ob q n ak he=>u.keep b ob q n (λz=>ak (aP b z)) λz=>he (ao b z),λ_ _ q n _ he=>u.any q n λz=>he (ao _ z),λb ob q n he=>u.free b ob q n λz=>he (ao b z),λb ob q he=>u.there b ob q λz=>he (ao b z),u.nG,u.lU,u.nE⟩
end
def G5(h:Heap)(H:ax):List Addr:=(cf h.objs.size).filter λa=>(H a).isSome
def rj(h:Heap)(H:ax):Heap:=PySem.W.hideAll h (G5 h H)
theorem agG(h:Heap)(H:ax):(rj h H).objs.size=h.objs.size:=PySem.W.hideAll_size _ _
theorem agF{h:Heap}{H:ax}{b:Addr}{o:Obj}(e:h.get? b=U o)(n:H b=af):(rj h H).get? b=U o:=PySem.W.hideAll_get _ e λhm=>by have q:(H b).isSome=ah:=(j8.mp hm).2;rw[n]at q;simp at q
theorem akn{h:Heap}{H:ax}{b:Addr}{o:Obj}(e:(rj h H).get? b=U o):h.get? b=U o/\H b=af:=by
 have e':h.get? b=U o:=PySem.W.of_hideAll (G5 h H) e;refine⟨e',?_⟩;cases q:H b with
 |none=>rfl
 |some x=>have hm:b∈G5 h H:=j8.mpr ⟨gC.mpr (ef e'),by simp[q]⟩;have z:(rj h H).get? b=af:=PySem.W.hideAll_none (G5 h H) hm;rw[z]at e;cases e
def acL(g h:Heap)(L:Addr):List (Addr×Obj):=(cf h.objs.size).filterMap λa=>if a=L\/(g.get? a).isSome=ah then af else(h.get? a).map λo=>(a,o)
def rest(g h:Heap)(L d:Addr):List (Addr×Obj):=(acL g h L).filter λp=>decide (p.1≠d)
structure Mod(K:PySem.W.Frag)(ap:Str->Option ar)(base:Heap):Prop where
 Cd:K.In base
 glob:base.Ns k9 ap
 blt:∃tm,base.Ns Ql tm/\∀x:Str,x≠"__name__"->tm x=jD x
 nolimit:base.NoLimit
structure bN where
 prog:b6
 w:bX
 K:PySem.W.Frag
 ap:Str->Option ar
 base:Heap
 A:dQ
 N:List Str
 jv:aT
 uG:ax
 env:Env
 outer:List Env
 stack:List Env
 ex:List Addr
 fn:Str->Bool
 calm:Bool
 cm:List (Addr×Obj)
 d2:ar->aT->Prop
def oU(l:List Env):List Addr:=l.filterMap (·.frame)
abbrev bN.bk(X:bN):List Addr:=oU X.outer
def xZ(sc:Scope)(x:Str):Prop:=sc.names.lookup x=U .local\/sc.names.lookup x=U .cell\/sc.names.lookup x=U .free
def Loc(sc:Scope)(x:Str):Prop:=sc.names.lookup x=U .local\/sc.names.lookup x=U .cell
def Look(env:Env)(h:Heap)(m:Str->Option ar)(x:Str)(u:ar):Prop:=(env.kindOf x=U .local/\m x=U u)\/((env.kindOf x=U .cell\/env.kindOf x=U .free)/\∃c,env.cells.lookup x=U c/\h.IsCell c (U u))
structure bN.Ok(X:bN):Prop where
 mod:Mod X.K X.ap X.base
 kind:X.env.scope.kind=.function
 glob:X.env.globals=k9
 blt:X.env.builtins=Ql
 above:X.jv.heap.objs.size<=X.env.locals
 inj:∀x y c,X.env.cells.lookup x=U c->X.env.cells.lookup y=U c->x=y
 has:∀x,(X.env.kindOf x=U .cell\/X.env.kindOf x=U .free)->∃c,X.env.cells.lookup x=U c
 A8:∀x c,X.fn x=ah->X.env.cells.lookup x=U c->X.jv.heap.objs.size<=c
 hd:X.calm=ah->X.A.handled=af
 frames:X.A.frames=U X.stack
 GS:X.stack=X.outer\/(X.stack=X.env::X.outer/\X.env.frame=U X.env.locals)
 Er:∀b∈X.ex,b≠X.env.locals/\∀x c,X.env.cells.lookup x=U c->c≠b
 bs:∀b o,X.base.get? b=U o->X.jv.heap.get? b=U o/\X.uG b=af
 pX:X.base.objs.size<=X.jv.heap.objs.size
 Cs:∀b o,X.base.get? b=U o->b∉X.ex
 Bj:∀b∈X.ex,b∉X.bk
 nc:X.jv.heap.FunFrames X.base X.outer
 sH:∀b∈X.bk,X.uG b=af
structure Inv(X:bN)(pins:List (Addr×Obj))(σ:List (Option V))(H:ax)(s:aT):Prop where
 ok:X.Ok
 os:s.os=X.jv.os
 bare:xv s.gens
 base:gR X.bk X.ex X.uG H X.jv.heap s.heap
 loc:∃m,s.heap.Ns X.env.locals m/\∀(i:Nat)(x:Str)(v:V),X.N[i]? =U x->σ[i]? =U (U v)->xZ X.env.scope x->∃u,RelV v u/\Look X.env s.heap m x u
 cell:∀x c,X.env.cells.lookup x=U c->∃v,s.heap.IsCell c v
 free:H X.env.locals=af
 m_:∀x c,X.env.cells.lookup x=U c->H c=af
 pin:∀p∈X.cm++pins,s.heap.get? p.1=U p.2/\H p.1=af/\p.1≠X.env.locals/\p.1∉X.bk/\∀v,p.2.data≠.cell v
 bo:fI X.prog X.w H s.heap
 len:σ.length=X.N.length
section
variable{X:bN}{pins:List (Addr×Obj)}{σ:List (Option V)}{H ae:ax}{s:aT}{h':Heap}
theorem bN.Ok.ajY(ok:X.Ok){b:Addr}{o:Obj}(e:X.base.get? b=U o):b∉X.bk:=λak=>by have:=(ok.nc.mem ak).1;rw[e]at this;cases this
theorem Inv.bs(ab:Inv X pins σ H s):∀b o,X.base.get? b=U o->s.heap.get? b=U o/\H b=af:=λb o e=>⟨ab.base.keep b o (ab.ok.bs b o e).1 (ab.ok.bs b o e).2 (ab.ok.ajY e) (ab.ok.Cs b o e),ab.base.free b o (ab.ok.bs b o e).1 (ab.ok.bs b o e).2 (ab.ok.Cs b o e)⟩
theorem Inv.iH(ab:Inv X pins σ H s):∀b o,X.base.get? b=U o->s.heap.get? b=U o:=λb o e=>(ab.bs b o e).1
theorem Inv.mod(ab:Inv X pins σ H s):Mod X.K X.ap X.base:=ab.ok.mod
theorem Inv.jW(ab:Inv X pins σ H s):X.K.In s.heap:=ab.ok.mod.Cd.keeps ab.iH
theorem Inv.nolimit(ab:Inv X pins σ H s):s.heap.NoLimit:=ab.ok.mod.nolimit.keeps ab.iH
theorem Inv.lt(ab:Inv X pins σ H s):X.env.locals<s.heap.objs.size:=let⟨_,aC,_⟩:=ab.loc;aC.lt
theorem Inv.ma(ab:Inv X pins σ H s):X.jv.heap.objs.size<=s.heap.objs.size:=b3 ab.ok.above (kN ab.lt)
theorem Inv.aj0(ab:Inv X pins σ H s){a:Addr}(h:s.heap.objs.size<=a):a∉X.bk:=λak=>by obtain⟨_,o,aA,_⟩:=ab.ok.nc.mem ak;exact aro (h5 (ef aA) (b3 ab.ma h)) (pF _)
theorem Inv.vK(ab:Inv X pins σ H s):∀x c,X.env.cells.lookup x=U c->c≠X.env.locals:=λx c e z=>by obtain⟨v,o,aA,hd⟩:=ab.cell x c e;obtain⟨m,⟨o',es,ep,kX,kW,_⟩,_⟩:=ab.loc;rw[z,kX]at aA;cases aA;rw[kW]at hd;cases hd
theorem Inv.nc(ab:Inv X pins σ H s):s.heap.FunFrames X.base X.outer:=by
 have all:∀(l:List Env),(∀b∈oU l,b∈X.bk)->X.jv.heap.FunFrames X.base l->s.heap.FunFrames X.base l:=by
  intro l;induction l with
  |nil=>intro _ _;trivial
  |cons env r ih=>intro aP au;obtain⟨aH,⟨L,o,hf,aC,aA,hd⟩,aL⟩:=au;have iY:L∈X.bk:=aP L (by unfold oU;rw[Af,hf];exact mT);obtain⟨hP,e⟩:=ab.base.slot L o aA (ab.ok.sH L iY) iY λz=>ab.ok.Bj L z iY;exact⟨aH,⟨L,_,hf,aC,e,hd⟩,ih (λb ak=>aP b (by unfold oU;rw[Af,hf];exact j7 _ ak)) aL⟩
 exact all X.outer (λ_ ak=>ak) ab.ok.nc
theorem Inv.stack(ab:Inv X pins σ H s):s.heap.FunFrames X.base X.stack:=by
 rcases ab.ok.GS with e|⟨e,hf⟩
 ·rw[e];exact ab.nc
 ·rw[e];obtain⟨m,aC,_⟩:=ab.loc;refine .cons (by rw[ab.ok.kind];decide) hf aC ?_ ab.nc;exact Heap.get?_none_of_le (b3 ab.ok.pX ab.ok.above)
theorem Inv.Pe(ab:Inv X pins σ H s):∀b∈oU X.stack,b∈X.env.locals::X.bk:=λb ak=>by
 rcases ab.ok.GS with e|⟨e,hf⟩
 ·rw[e]at ak;exact j7 _ ak
 ·rw[e]at ak;unfold oU at ak;rw[Af,hf]at ak;exact ak
theorem Inv.Y9(ab:Inv X pins σ H s):∀b∈oU X.stack,H b=af:=λb ak=>by
 rcases ek.mp (ab.Pe b ak)with e|ak
 ·rw[e];exact ab.free
 ·obtain⟨_,o,aA,_⟩:=ab.ok.nc.mem ak;exact ab.base.free b o aA (ab.ok.sH b ak) λz=>ab.ok.Bj b z ak
theorem Inv.step{g':Array HK}{t':Nat}{d':Drawn}{ch:List Addr}(ab:Inv X pins σ H s)(p8:∀b∈ch,(b∈X.ex\/X.jv.heap.objs.size<=b)/\b≠X.env.locals/\(∀x c,X.env.cells.lookup x=U c->c≠b)/\∀p∈X.cm++pins,p.1≠b)(keep:∀b o,b≠X.env.locals->b∉X.bk->b∉ch->s.heap.get? b=U o->H b=af->h'.get? b=U o)(slot:∀b o,b≠X.env.locals->b∈X.bk->b∉ch->s.heap.get? b=U o->H b=af->∃hP,h'.get? b=U {o with slots:=hP})(free:∀b o,b∉ch->s.heap.get? b=U o->H b=af->ae b=af)(there:∀b o,b∉ch->s.heap.get? b=U o->∃o',h'.get? b=U o')(nG:∀b xs,H b=U (.tup xs)->ae b=U (.tup xs))(lU:∀b o u,H b=U (.dV o u)->ae b=U (.dV o u))(nE:∀b ps,H b=U (.gO ps)->∃more,ae b=U (.gO (ps++more)))(ns:∀m,s.heap.Ns X.env.locals m->h'.Ns X.env.locals m)(bo:fI X.prog X.w ae h')(bM:xv g'):Inv X pins σ ae {s with heap:=h',gens:=g',drawn:=d',toks:=t'}:=by
 have Wf:∀b o,X.jv.heap.get? b=U o->b≠X.env.locals:=λb o e=>hS (h5 (ef e) ab.ok.above);have FK:∀b o,X.jv.heap.get? b=U o->b∉X.ex->b∉ch:=λb o e ao ak=>by
  rcases(p8 b ak).1 with z|z
  ·exact ao z
  ·exact aro (h5 (ef e) z) (pF _)
 have cellK:∀x c,X.env.cells.lookup x=U c->∀v,s.heap.IsCell c v->h'.IsCell c v:=λx c e v⟨o,aA,hd⟩=>by
  have Co:c∉ch:=λz=>(p8 c z).2.2.1 x c e I;by_cases aF:c∈X.bk
  ·obtain⟨hP,q⟩:=slot c o (ab.vK x c e) aF Co aA (ab.m_ x c e);exact⟨_,q,hd⟩
  ·exact⟨o,keep c o (ab.vK x c e) aF Co aA (ab.m_ x c e),hd⟩
 refine⟨ab.ok,ab.os,bM,⟨λb o e n ak ao=>?_,λb o e n ak ao=>?_,λb o e n ao=>?_,λb o e ao=>?_,λb xs e=>nG b xs (ab.base.nG b xs e),λb o xs e=>lU b o xs (ab.base.lU b o xs e),λb ps e=>?_⟩,?_,λx c e=>?_,?_,λx c e=>?_,λp aO=>?_,bo,ab.len⟩
 ·exact keep b o (Wf b o e) ak (FK b o e ao) (ab.base.keep b o e n ak ao) (ab.base.free b o e n ao)
 ·obtain⟨hP,aS⟩:=ab.base.slot b o e n ak ao;obtain⟨OW,aQ⟩:=slot b _ (Wf b o e) ak (FK b o e ao) aS (ab.base.free b o e n ao);exact⟨OW,aQ⟩
 ·obtain⟨o',aS⟩:=ab.base.there b o e ao;exact free b o' (FK b o e ao) aS (ab.base.free b o e n ao)
 ·obtain⟨o',aS⟩:=ab.base.there b o e ao;exact there b o' (FK b o e ao) aS
 ·obtain⟨gx,aS⟩:=ab.base.nE b ps e;obtain⟨ku,aQ⟩:=nE b _ aS;exact⟨gx++ku,by rw[aQ,Z3]⟩
 ·obtain⟨m,aC,au⟩:=ab.loc;refine⟨m,ns m aC,λi x v aS aQ b0=>?_⟩;obtain⟨u,r,l⟩:=au i x v aS aQ b0;refine⟨u,r,?_⟩;rcases l with l|⟨k,c,e,z⟩
  ·exact .inl l
  ·exact .inr ⟨k,c,e,cellK x c e _ z⟩
 ·obtain⟨v,z⟩:=ab.cell x c e;exact⟨v,cellK x c e v z⟩
 ·obtain⟨m,⟨o,_,_,aA,_⟩,_⟩:=ab.loc;exact free _ o (λz=>(p8 _ z).2.1 I) aA ab.free
 ·obtain⟨v,o,aA,hd⟩:=ab.cell x c e;exact free c o (λz=>(p8 c z).2.2.1 x c e I) aA (ab.m_ x c e)
 ·obtain⟨e,n,ne,zH,d⟩:=ab.pin p aO;have Co:p.1∉ch:=λz=>(p8 p.1 z).2.2.2 p aO I;exact⟨keep p.1 p.2 ne zH Co e n,free p.1 p.2 Co e n,ne,zH,d⟩
theorem Inv.un{t':Nat}(ab:Inv X pins σ H s)(u:gR X.bk [] H ae s.heap h')(bo:fI X.prog X.w ae h'):Inv X pins σ ae {s with heap:=h',toks:=t'}:=by obtain⟨m,⟨o,es,ep,aA,r⟩,_⟩:=id ab.loc;obtain⟨hP,iY⟩:=u.any aA ab.free bl;exact ab.step (g':=s.gens) (d':=s.drawn) (ch:=[]) (λ_ z=>nomatch z) (λb o _ ak _ e n=>u.keep b o e n ak bl) (λb o _ ak _ e n=>u.slot b o e n ak bl) (λb o _ e n=>u.free b o e n bl) (λb o _ e=>u.there b o e bl) u.nG u.lU u.nE (λm' hm=>by obtain⟨o',n1,n0,kX,r'⟩:=hm;rw[aA]at kX;cases kX;exact⟨_,n1,n0,iY,r'⟩) bo ab.bare
theorem Inv.call{g':Array HK}{t':Nat}{d':Drawn}{ch:List Addr}(ab:Inv X pins σ H s)(u:gR (oU X.stack) ch H ae s.heap h')(bo:fI X.prog X.w ae h')(bM:xv g')(p8:∀b∈ch,(b∈X.ex\/X.jv.heap.objs.size<=b)/\b≠X.env.locals/\(∀x c,X.env.cells.lookup x=U c->c≠b)/\∀p∈X.cm++pins,p.1≠b):Inv X pins σ ae {s with heap:=h',gens:=g',drawn:=d',toks:=t'}:=by obtain⟨m,⟨o,es,ep,aA,r⟩,_⟩:=id ab.loc;obtain⟨hP,iY⟩:=u.any aA ab.free λz=>(p8 _ z).2.1 I;exact ab.step (ch:=ch) p8 (λb o iY ak aF e n=>u.keep b o e n (λz=>(ek.mp (ab.Pe b z)).elim iY ak) aF) (λb o _ _ aF e n=>u.any e n aF) (λb o aF e n=>u.free b o e n aF) (λb o aF e=>u.there b o e aF) u.nG u.lU u.nE (λm' hm=>by obtain⟨o',n1,n0,kX,r'⟩:=hm;rw[aA]at kX;cases kX;exact⟨_,n1,n0,iY,r'⟩) bo bM
theorem Inv.turned{t':Nat}{it:Addr}(ab:Inv X pins σ H s)(k:∀b o,b≠it->s.heap.get? b=U o->h'.get? b=U o)(aC:H it=af)(iY:it≠X.env.locals)(ag:it∈X.ex\/X.jv.heap.objs.size<=it)(ai:∀x c,X.env.cells.lookup x=U c->c≠it)(aN:∀p∈X.cm++pins,p.1≠it):Inv X pins σ H {s with heap:=h',toks:=t'}:=by
 have tr:∀b u,H b=U u->b≠it:=λb u e z=>by rw[z,aC]at e;cases e
 refine ab.step (g':=s.gens) (d':=s.drawn) (ch:=[it]) (λb ak=>?_) (λb o _ _ aF e _=>k b o (λz=>aF (by simp[z])) e) (λb o _ _ aF e _=>⟨o.slots,k b o (λz=>aF (by simp[z])) e⟩) (λ_ _ _ _ n=>n) (λb o aF e=>⟨o,k b o (λz=>aF (by simp[z])) e⟩) (λ_ _ e=>e) (λ_ _ _ e=>e) (λb ps e=>⟨#[],by rw[e];simp⟩) (λm hm=>?_) (λb u e=>?_) ab.bare
 ·have e:b=it:=by simpa using ak
  subst e;exact⟨ag,iY,ai,aN⟩
 ·obtain⟨o,es,ep,aA,r⟩:=hm;exact⟨o,es,ep,k _ o (bQ iY) aA,r⟩
 ·refine(ab.bo b u e).qu (λc v aF q=>k c v ?_ q) (λ_ q=>q) λ_ _ q=>q;rcases aF with z|z
  ·rw[z];exact tr b u e
  ·exact tr c _ z
theorem Inv.tok(ab:Inv X pins σ H s)(t:Nat):Inv X pins σ H {s with toks:=t}:=ab.un (h':=s.heap) (t':=t) gR.refl ab.bo
theorem Inv.kept{t':Nat}(ab:Inv X pins σ H s)(k:∀b u,s.heap.get? b=U u->h'.get? b=U u):Inv X pins σ H {s with heap:=h',toks:=t'}:=ab.un (gR.kept k) (ab.bo.kept k)
theorem Inv.laid{a:Addr}{o:dE}{t':Nat}(ab:Inv X pins σ H s)(k:∀b u,s.heap.get? b=U u->h'.get? b=U u)(aO:s.heap.objs.size<=a)(new:gF X.prog X.w (upd H a o) h' a o):Inv X pins σ (upd H a o) {s with heap:=h',toks:=t'}:=ab.un (gR.laid k aO (ab.bo.fresh aO)) (ab.bo.laid k aO new)
theorem Inv.write{x e:Addr}{o:dE}{t':Nat}(ab:Inv X pins σ H s)(eA:qW (H x))(he:e=x\/H e=U (.own x))(k:∀b u,b≠e->s.heap.get? b=U u->h'.get? b=U u)(zh:∃u,h'.get? e=U u)(new:gF X.prog X.w (upd H x o) h' x o):Inv X pins σ (upd H x o) {s with heap:=h',toks:=t'}:=ab.un (gR.write eA he k zh) (ab.bo.write eA he k zh new)
theorem Inv.weak{cj:List (Option V)}(ab:Inv X pins σ H s)(au:cj.length=σ.length)(w:∀(i:Nat)v,cj[i]? =U (U v)->σ[i]? =U (U v)):Inv X pins cj H s:=⟨ab.ok,ab.os,ab.bare,ab.base,let⟨m,aC,sW⟩:=ab.loc;⟨m,aC,λi x v aS aQ b0=>sW i x v aS (w i v aQ) b0⟩,ab.cell,ab.free,ab.m_,ab.pin,ab.bo,au.trans ab.len⟩
theorem Inv.W6{W5:List (Addr×Obj)}(ab:Inv X pins σ H s)(h:∀p∈W5,s.heap.get? p.1=U p.2/\H p.1=af/\p.1≠X.env.locals/\p.1∉X.bk/\∀v,p.2.data≠.cell v):Inv X W5 σ H s:=⟨ab.ok,ab.os,ab.bare,ab.base,ab.loc,ab.cell,ab.free,ab.m_,λp aO=>(gn.mp aO).elim (λz=>ab.pin p (Hu _ z)) (h p),ab.bo,ab.len⟩
theorem Mz{N:List Str}(gh:N.Nodup){i j:Nat}{x:Str}(a:N[i]? =U x)(b:N[j]? =U x):i=j:=by obtain⟨ag,aS⟩:=ej.mp a;obtain⟨ai,aQ⟩:=ej.mp b;exact(List.getElem_inj gh).mp (aS.trans aQ.symm)
theorem Zb{M:Ar}{A:dQ}{E:ar->aT->Prop}{i:Nat}{x:Str}{v:V}{u:ar}{Q:Unit->aT->Prop}(ab:Inv X pins σ H s)(gh:X.N.Nodup)(av:X.N[i]? =U x)(ao:Loc X.env.scope x)(r:RelV v u)(h:∀s',Inv X pins (σ.set i (U v)) H s'->(∃a,xw a s.heap s'.heap/\(a=X.env.locals\/X.env.cells.lookup x=U a))->Q () s')(hf:X.fn x=ah\/X.env.scope.names.lookup x=U .local:=by first|exact .inl I|exact .inr I|assumption):bp M A (Qx X.env x u) Q E s:=by
 obtain⟨m,aC,au⟩:=id ab.loc;have agj:(X.env.scope.kind== .class||(X.env.scope.kind== .module&&X.env.locals !=X.env.globals))=aE:=by rw[ab.ok.kind];rfl
 have UH:i<σ.length:=by rw[ab.len];exact(ej.mp av).1
 have vK:=ab.vK;have tracked:∀{a:Addr}{h':Heap},(∃o,s.heap.get? a=U o/\H a=af)->xw a s.heap h'->fI X.prog X.w H h':=λ{a h'}ay aP b ob e=>by
  obtain⟨_,_,zl⟩:=ay;refine(ab.bo b ob e).qu (λc fc aF q=>(aP.2 c ?_).trans q) (λ_ q=>q) λ_ _ q=>q;rintro rfl;rcases aF with rfl|aF
  ·rw[zl]at e;cases e
  ·rw[zl]at aF;cases aF
 rcases ao with aH|aH
 ·refine wpAny_storeName_local aH aC (λh' BO aP=>?_) agj;obtain⟨akj,_,_,aha,_⟩:=id aC;refine h _ ⟨ab.ok,ab.os,ab.bare,⟨λb o e n ak ao=>?_,λb o e n ak ao=>?_,ab.base.free,λb o e ao=>?_,ab.base.nG,ab.base.lU,ab.base.nE⟩,⟨_,BO,λj y v' aS aQ b0=>?_⟩,λy c e=>?_,ab.free,ab.m_,λp aO=>?_,tracked ⟨akj,aha,ab.free⟩ aP,by simpa using ab.len⟩ ⟨_,aP,.inl I⟩
  ·exact(aP.2 b (hS (h5 (ef e) ab.ok.above))).trans (ab.base.keep b o e n ak ao)
  ·obtain⟨hP,aS⟩:=ab.base.slot b o e n ak ao;exact⟨hP,(aP.2 b (hS (h5 (ef e) ab.ok.above))).trans aS⟩
  ·obtain⟨o',aS⟩:=ab.base.there b o e ao;exact⟨o',(aP.2 b (hS (h5 (ef e) ab.ok.above))).trans aS⟩
  ·by_cases bw:j=i
   ·subst bw;rw[av]at aS;cases aS;rw[PO UH]at aQ;cases aQ;exact⟨u,r,.inl ⟨aH,bl⟩⟩
   ·rw[PN (bQ bw)]at aQ;obtain⟨hR,r',q⟩:=au j y v' aS aQ b0;refine⟨hR,r',?_⟩;rcases q with⟨k,e⟩|⟨k,c,e,z⟩
    ·refine .inl ⟨k,?_⟩;have:y≠x:=λe=>bw (Mz gh aS (e▸av));simp[this,e]
    ·exact .inr ⟨k,c,e,z.sameBut aP (vK y c e)⟩
  ·obtain⟨fc,z⟩:=ab.cell y c e;exact⟨fc,z.sameBut aP (vK y c e)⟩
  ·obtain⟨e,n,ne,zH,d⟩:=ab.pin p aO;exact⟨(aP.2 p.1 ne).trans e,n,ne,zH,d⟩
 ·have K7:X.fn x=ah:=by
   rcases hf with z|z
   ·exact z
   ·rw[z]at aH;cases aH
  obtain⟨c,aF⟩:=ab.ok.has x (.inl aH);obtain⟨fc,z⟩:=ab.cell x c aF;refine wpAny_storeName_cell ab.ok.kind aH aF z (λh' sS aP=>?_);obtain⟨l9,UZ,ahc⟩:=id z;refine h {s with heap:=h'} ⟨ab.ok,ab.os,ab.bare,⟨λb o e n ak ao=>?_,λb o e n ak ao=>?_,ab.base.free,λb o e ao=>?_,ab.base.nG,ab.base.lU,ab.base.nE⟩,⟨m,aC.sameBut aP (bQ (vK x c aF)),λj y v' aS aQ b0=>?_⟩,λy cp e=>?_,ab.free,ab.m_,λp aO=>?_,tracked ⟨l9,UZ,ab.m_ x c aF⟩ aP,by simpa using ab.len⟩ ⟨c,aP,.inr aF⟩
  ·exact(aP.2 b (hS (h5 (ef e) (ab.ok.A8 x c K7 aF)))).trans (ab.base.keep b o e n ak ao)
  ·obtain⟨hP,aS⟩:=ab.base.slot b o e n ak ao;exact⟨hP,(aP.2 b (hS (h5 (ef e) (ab.ok.A8 x c K7 aF)))).trans aS⟩
  ·obtain⟨o',aS⟩:=ab.base.there b o e ao;exact⟨o',(aP.2 b (hS (h5 (ef e) (ab.ok.A8 x c K7 aF)))).trans aS⟩
  ·by_cases bw:j=i
   ·subst bw;rw[av]at aS;cases aS;rw[PO UH]at aQ;cases aQ;exact⟨u,r,.inr ⟨.inl aH,c,aF,sS⟩⟩
   ·rw[PN (bQ bw)]at aQ;obtain⟨hR,r',q⟩:=au j y v' aS aQ b0;refine⟨hR,r',?_⟩;rcases q with q|⟨k,cp,e,mR⟩
    ·exact .inl q
    ·refine .inr ⟨k,cp,e,mR.sameBut aP ?_⟩;rintro rfl;exact bw (Mz gh aS (ab.ok.inj _ _ _ e aF▸av))
  ·by_cases Uz:cp=c
   ·subst Uz;exact⟨_,sS⟩
   ·obtain⟨dv,kJ⟩:=ab.cell y cp e;exact⟨dv,kJ.sameBut aP Uz⟩
  ·obtain⟨e,n,ne,zH,d⟩:=ab.pin p aO;refine⟨(aP.2 p.1 ?_).trans e,n,ne,zH,d⟩;intro q;rw[q,UZ]at e;have gM:l9=p.2:=bS e;exact d fc (by rw[<-gM];exact ahc)
theorem Pg{M:Ar}{A:dQ}{E:ar->aT->Prop}{i:Nat}{x:Str}{v:V}{u:ar}{Q:Unit->aT->Prop}(ab:Inv X pins σ H s)(gh:X.N.Nodup)(av:X.N[i]? =U x)(ao:Loc X.env.scope x)(r:RelV v u)(h:∀s',Inv X pins (σ.set i (U v)) H s'->Q () s')(hf:X.fn x=ah\/X.env.scope.names.lookup x=U .local:=by first|exact .inl I|exact .inr I|assumption):bp M A (Qx X.env x u) Q E s:=Zb ab gh av ao r (λs' hU _=>h s' hU) hf
theorem Inv.adb{s':aT}{ch:List Addr}(ab:Inv X pins σ H s)(aA:s'.os=s.os)(u:gR (oU X.stack) ch H ae s.heap s'.heap)(bo:fI X.prog X.w ae s'.heap)(bM:xv s'.gens)(p8:∀b∈ch,(b∈X.ex\/X.jv.heap.objs.size<=b)/\b≠X.env.locals/\(∀x c,X.env.cells.lookup x=U c->c≠b)/\∀p∈X.cm++pins,p.1≠b):Inv X pins σ ae s':=by obtain⟨h',g',d',t',o'⟩:=s';have e:o'=s.os:=aA;subst e;exact ab.call (g':=g') (t':=t') (d':=d') u bo bM p8
end
abbrev lM:=ar->Option Addr->ax->Prop
abbrev St:=List (Option V)
abbrev c9:=V->ax->Prop
abbrev TE:=St->ax->c9->Prop
abbrev TT:=St->ax->(Bool->ax->Prop)->Prop
abbrev hp:=St->ax->(List V->ax->Prop)->Prop
structure Ends where
 cN:St->ax->Prop
 zU:c9
 iH:St->ax->Prop:=λ_ _=>False
 dC:St->ax->Prop:=λ_ _=>False
abbrev fS:=Ends->St->ax->Prop
inductive hD(X:bN)(pins:List (Addr×Obj))(σ:St)(Q:c9)(u:ar)(s':aT):Prop
 |mk (v ae) (h0:Inv X pins σ ae s') (ag:RelV v u) (ai:Q v ae)
def DZ(X:bN)(pins:List (Addr×Obj))(σ:St)(Q:Bool->ax->Prop)(b:Bool)(s':aT):Prop:=∃ae,Inv X pins σ ae s'/\Q b ae
inductive ab9(X:bN)(pins:List (Addr×Obj))(σ:St)(Q:List V->ax->Prop)(us:List ar)(s':aT):Prop
 |mk (vs ae) (h0:Inv X pins σ ae s') (ag:bT vs us) (ai:Q vs ae)
def uL(X:bN)(pins:List (Addr×Obj))(D:Ends)(f:Flow)(s':aT):Prop:=match f with
 | .next=>∃cj ae,Inv X pins cj ae s'/\D.cN cj ae
 | .brk=>∃cj ae,Inv X pins cj ae s'/\D.iH cj ae
 | .cont=>∃cj ae,Inv X pins cj ae s'/\D.dC cj ae
 | .ret u=>∃v cj ae,Inv X pins cj ae s'/\RelV v u/\D.zU v ae
def bC(X:bN)(e:Expr)(t:TE):Prop:=∀(pins:List (Addr×Obj))(s:aT)(σ:St)(H:ax)(Q:c9),Inv X pins σ H s->t σ H Q->bp (bO X.prog X.w) X.A (c' e X.env) (hD X pins σ Q) X.d2 s
def jM(X:bN)(e:Expr)(t:TT):Prop:=∀(pins:List (Addr×Obj))(s:aT)(σ:St)(H:ax)(Q:Bool->ax->Prop),Inv X pins σ H s->t σ H Q->bp (bO X.prog X.w) X.A (Ay e X.env (c' e X.env)) (DZ X pins σ Q) X.d2 s
def ji(X:bN)(e:Expr)(t:TT):Prop:=∀(whole:Sem ar)(pins:List (Addr×Obj))(s:aT)(σ:St)(H:ax)(Q:Bool->ax->Prop),Inv X pins σ H s->t σ H Q->bp (bO X.prog X.w) X.A (Ay e X.env whole) (DZ X pins σ Q) X.d2 s
theorem ji.pt{X:bN}{e:Expr}{t:TT}(h:ji X e t):jM X e t:=h _
def lc(X:bN)(es:List Expr)(t:hp):Prop:=∀(pos:Pos)(pins:List (Addr×Obj))(s:aT)(σ:St)(H:ax)(Q:List V->ax->Prop),Inv X pins σ H s->t σ H Q->bp (bO X.prog X.w) X.A (Qw (jC pos (eO es X.env))) (ab9 X pins σ Q) X.d2 s
def lJ(X:bN)(st:Stmt)(t:fS):Prop:=∀(pins:List (Addr×Obj))(s:aT)(σ:St)(H:ax)(D:Ends),Inv X pins σ H s->t D σ H->bp (bO X.prog X.w) X.A (exec st X.env) (uL X pins D) X.d2 s
def m3(X:bN)(st:List Stmt)(t:fS):Prop:=∀(pins:List (Addr×Obj))(s:aT)(σ:St)(H:ax)(D:Ends),Inv X pins σ H s->t D σ H->bp (bO X.prog X.w) X.A (execs st X.env) (uL X pins D) X.d2 s
theorem b2{α:Type}{t:Sem α}{Q oM:α->aT->Prop}{M:Ar}{A:dQ}{E:ar->aT->Prop}{s:aT}(h:bp M A t Q E s)(hI:∀a s,Q a s->oM a s):bp M A t oM E s:=lF h hI λ_ _ x=>x
section
variable{X:bN}
theorem bin{a b:Expr}{bt cT:TE}(ay:bC X a bt)(ak:bC X b cT){pins:List (Addr×Obj)}{s:aT}{σ:St}{H:ax}{R:V->V->ax->Prop}(ab:Inv X pins σ H s)(h:bt σ H λx H1=>cT σ H1 λy az=>R x y az){α:Type}{Q:α->aT->Prop}{f:ar->ar->Sem α}(hf:∀v u s2 x y az,Inv X pins σ az s2->RelV x v->RelV y u->R x y az->bp (bO X.prog X.w) X.A (f v u) Q X.d2 s2):bp (bO X.prog X.w) X.A (c' a X.env) (λv d7=>bp (bO X.prog X.w) X.A (c' b X.env) (λu h4=>bp (bO X.prog X.w) X.A (f v u) Q X.d2 h4) X.d2 d7) X.d2 s:=by refine b2 (ay pins s σ H _ ab h) λv s1⟨x,H1,a',bK,a7⟩=>?_;refine b2 (ak pins s1 σ H1 _ a' a7) λu s2⟨y,az,b7,cS,bc⟩=>?_;exact hf v u s2 x y az b7 bK cS bc
inductive pk(i:Nat)(σ:St)(H:ax)(Q:c9):Prop
 |mk (v) (h0:σ[i]? =U (U v)) (ag:Q v H)
def xd(v:V):TE:=λ_ H Q=>Q v H
theorem alE{i:Nat}{x:Str}{pos:Pos}(gh:X.N[i]? =U x)(bU:xZ X.env.scope x)(hd:(x==("__debug__":Str))=aE:=by decide)(p7:(x==("__classdict__":Str))=aE:=by decide):bC X (.Name x pos) (pk i):=by
 intro pins s σ H Q ab h;obtain⟨v,e,h⟩:=h;obtain⟨m,aC,au⟩:=ab.loc;obtain⟨u,r,l⟩:=au i x v gh e bU;have fin:hD X pins σ Q u s:=⟨v,H,ab,r,h⟩;rcases l with⟨aH,hm⟩|⟨aH,c,aF,EP⟩
 ·exact QB (abN ab.ok.kind aH aC hm fin) hd
 ·rcases aH with aH|aH
  ·exact QB (abM ab.ok.kind aH aF EP fin) hd
  ·exact QB (wpAny_loadName_free ab.ok.kind aH aF EP fin p7) hd
theorem dt{i j pos}:bC X (.Constant (.int i) j pos) (xd (.int i)):=λ_ _ _ H _ ab h=>wpAny_Constant_int ⟨.int i,H,ab.tok _,⟨_,I⟩,h⟩
theorem rz{b j pos}:bC X (.Constant (.bool b) j pos) (xd (.bB b)):=λ_ _ _ H _ ab h=>Constant_bool ⟨.bB b,H,ab,I,h⟩
theorem gk{j pos}:bC X (.Constant .none j pos) (xd .bZ):=λ_ _ _ H _ ab h=>Constant_none ⟨.bZ,H,ab,I,h⟩
theorem gL{x j pos}:bC X (.Constant (.str x) j pos) (xd (.str x)):=λ_ _ _ H _ ab h=>aaU ⟨.str x,H,ab.tok _,⟨_,I⟩,h⟩
def lI(X:bN)(x:Str):Prop:=X.env.kindOf x=U .globalImplicit
theorem FC{E:ar->aT->Prop}{pins:List (Addr×Obj)}{s:aT}{σ:St}{H:ax}{x:Str}{u:ar}{pos:Pos}{Q:ar->aT->Prop}(ab:Inv X pins σ H s)(bM:lI X x)(hm:X.ap x=U u)(h:Q u s)(hd:(x==("__debug__":Str))=aE:=by decide):bp (bO X.prog X.w) X.A (c' (.Name x pos) X.env) Q E s:=aaV ab.ok.kind bM (Calls.loadGlobal_global (by rw[ab.ok.glob];exact ab.mod.glob.keeps ab.iH) hm h) hd
theorem ti{E:ar->aT->Prop}{pins:List (Addr×Obj)}{s:aT}{σ:St}{H:ax}{x:Str}{u:ar}{pos:Pos}{Q:ar->aT->Prop}(ab:Inv X pins σ H s)(bM:lI X x)(hm:X.ap x=af)(bU:jD x=U u)(h:Q u s)(aC:x≠"__name__":=by decide)(hd:(x==("__debug__":Str))=aE:=by decide):bp (bO X.prog X.w) X.A (c' (.Name x pos) X.env) Q E s:=by obtain⟨tm,ag,ai⟩:=ab.mod.blt;exact aaV ab.ok.kind bM (Calls.loadGlobal_builtin (by rw[ab.ok.glob];exact ab.mod.glob.keeps ab.iH) hm (by rw[ab.ok.blt];exact ag.keeps ab.iH) ((ai x aC).trans bU) h) hd
theorem alx{x:Str}{v:V}{u:ar}{pos:Pos}(bM:lI X x)(hm:X.ap x=U u)(r:RelV v u)(hd:(x==("__debug__":Str))=aE:=by decide):bC X (.Name x pos) (xd v):=λ_ _ _ H _ ab h=>FC ab bM hm ⟨v,H,ab,r,h⟩ hd
variable{a b:Expr}{bt cT:TE}{pos:Pos}
def DV(X:bN)(op:rY)(a b:Expr)(t:TE):Prop:=∀(pins:List (Addr×Obj))(s:aT)(σ:St)(H:ax)(Q:c9),Inv X pins σ H s->t σ H Q->bp (bO X.prog X.w) X.A (c' a X.env) (λv d7=>bp (bO X.prog X.w) X.A (c' b X.env) (λu h4=>bp (bO X.prog X.w) X.A (jf op v u) (hD X pins σ Q) X.d2 h4) X.d2 d7) X.d2 s
theorem Wn(b:Expr){op:rY}(h:op≠.In)(ai:op≠.NotIn):ud op b=aE:=by
 have aS:(op==aaW)=aE:=by cases op<;>first|rfl|exact aro I h
 have aQ:(op==aaX)=aE:=by cases op<;>first|rfl|exact aro I ai
 cases b<;>simp[ud,aS,aQ]
inductive ar3(Q:Bool->ax->Prop)(x:V)(H1:ax):Prop
 |mk (c) (h0:x=.bB c) (ag:Q c H1)
def Zj(t:TE):TT:=λσ H Q=>t σ H λx H1=>ar3 Q x H1
theorem WY{op:rY}{t:TE}(h:DV X op a b t)(ag:ud op b=aE:=by first|exact Wn _ a5 a5|rfl):bC X (.Compare a [op] [b] pos) t:=λpins s σ H Q ab hw=>wpAny_Compare1 (h pins s σ H Q ab hw) ag
theorem M4{op:rY}{t:TE}(h:DV X op a b t)(ag:ud op b=aE:=by first|exact Wn _ a5 a5|rfl):jM X (.Compare a [op] [b] pos) (Zj t):=by intro pins s σ H Q ab hw;refine wpAny_isTrue_Compare1 (b2 (h pins s σ H _ ab hw) λv s1 ag=>b2 ag λu s2 ai=>b2 ai λc s3⟨x,H1,a',bK,a7⟩=>?_) ag;obtain⟨d,rfl,q⟩:=a7;cases bK;exact oH ⟨H1,a',q⟩
theorem lz{e:Expr}{t:TE}(h:bC X e t)(he:∀whole,Ay e X.env whole=(do let v<-whole;HW e.pos;oE [v] (Qz v)):=by intro _;rfl):jM X e (Zj t):=by intro pins s σ H Q ab hw;refine isTrue_plain (b2 (h pins s σ H _ ab hw) λv s1⟨x,H1,a',bK,a7⟩=>?_) (he _);obtain⟨d,rfl,q⟩:=a7;cases bK;exact oH ⟨H1,a',q⟩
variable{ot GW:TT}{rest:List Expr}
def anD(t u:TT):TT:=λσ H Q=>t σ H λc H1=>if c=ah then u σ H1 Q else Q aE H1
def an9(t u:TT):TT:=λσ H Q=>t σ H λc H1=>if c=ah then Q ah H1 else u σ H1 Q
def an7(t:TT):TT:=λσ H Q=>t σ H λc H1=>Q (!c) H1
theorem M8(ay:jM X a ot):ji X (.BoolOp .And [a] pos) ot:=by
 intro C5 pins s σ H Q ab h;refine isTrue_and (b2 (ay pins s σ H Q ab h) λc s1 e=>?_);cases c with
 |true=>exact isTrue_and_nil e
 |false=>exact e
theorem rC(ay:jM X a ot):ji X (.BoolOp .Or [a] pos) ot:=by
 intro C5 pins s σ H Q ab h;refine isTrue_or (b2 (ay pins s σ H Q ab h) λc s1 e=>?_);cases c with
 |false=>exact isTrue_or_nil e
 |true=>exact e
theorem M7(ay:jM X a ot)(ak:ji X (.BoolOp .And (b::rest) pos) GW):ji X (.BoolOp .And (a::b::rest) pos) (anD ot GW):=by
 intro C5 pins s σ H Q ab h;refine isTrue_and (b2 (ay pins s σ H _ ab h) λc s1⟨H1,a',a7⟩=>?_);cases c with
 |true=>exact ak C5 pins s1 σ H1 Q a' a7
 |false=>exact⟨H1,a',a7⟩
theorem rB(ay:jM X a ot)(ak:ji X (.BoolOp .Or (b::rest) pos) GW):ji X (.BoolOp .Or (a::b::rest) pos) (an9 ot GW):=by
 intro C5 pins s σ H Q ab h;refine isTrue_or (b2 (ay pins s σ H _ ab h) λc s1⟨H1,a',a7⟩=>?_);cases c with
 |true=>exact⟨H1,a',a7⟩
 |false=>exact ak C5 pins s1 σ H1 Q a' a7
theorem rA(ay:jM X a ot):jM X (.UnaryOp .Not a pos) (an7 ot):=by intro pins s σ H Q ab h;exact isTrue_not (ay pins s σ H (λc H1=>Q (!c) H1) ab h)
inductive ar1(cT:TE)(σ:St)(Q:c9)(x:V)(H1:ax):Prop
 |mk (c) (h0:x=.bB c) (ag:if c=ah then cT σ H1 Q else Q (.bB aE) H1)
def anE(bt cT:TE):TE:=λσ H Q=>bt σ H λx H1=>ar1 cT σ Q x H1
inductive asm(cT:TE)(σ:St)(Q:c9)(x:V)(H1:ax):Prop
 |mk (c) (h0:x=.bB c) (ag:if c=ah then Q (.bB ah) H1 else cT σ H1 Q)
def aoa(bt cT:TE):TE:=λσ H Q=>bt σ H λx H1=>asm cT σ Q x H1
inductive asl(Q:c9)(x:V)(H1:ax):Prop
 |mk (c) (h0:x=.bB c) (ag:Q (.bB (!c)) H1)
def an8(bt:TE):TE:=λσ H Q=>bt σ H λx H1=>asl Q x H1
theorem W1{op}{t:TE}(h:bC X a t):bC X (.BoolOp op [a] pos) t:=λpins s σ H Q ab hw=>BoolOp_one (h pins s σ H Q ab hw)
theorem alp(ay:bC X a bt)(ak:bC X (.BoolOp .And (b::rest) pos) cT):bC X (.BoolOp .And (a::b::rest) pos) (anE bt cT):=by
 intro pins s σ H Q ab h;refine BoolOp_and (b2 (ay pins s σ H _ ab h) λv s1⟨x,H1,a',bK,a7⟩=>?_);obtain⟨c,rfl,a7⟩:=a7;cases bK;refine oH ?_;cases c with
 |true=>exact ak pins s1 σ H1 Q a' a7
 |false=>exact⟨.bB aE,H1,a',I,a7⟩
theorem alC(ay:bC X a bt)(ak:bC X (.BoolOp .Or (b::rest) pos) cT):bC X (.BoolOp .Or (a::b::rest) pos) (aoa bt cT):=by
 intro pins s σ H Q ab h;refine BoolOp_or (b2 (ay pins s σ H _ ab h) λv s1⟨x,H1,a',bK,a7⟩=>?_);obtain⟨c,rfl,a7⟩:=a7;cases bK;refine oH ?_;cases c with
 |false=>exact ak pins s1 σ H1 Q a' a7
 |true=>exact⟨.bB ah,H1,a',I,a7⟩
theorem alB(ay:bC X a bt):bC X (.UnaryOp .Not a pos) (an8 bt):=by intro pins s σ H Q ab h;refine UnaryOp_ (b2 (ay pins s σ H _ ab h) λv s1⟨x,H1,a',bK,a7⟩=>?_);obtain⟨c,rfl,a7⟩:=a7;cases bK;exact not_of (oH ⟨.bB (!c),H1,a',I,a7⟩)
def anY(t:TT)(bt cT:TE):TE:=λσ H Q=>t σ H λc H1=>if c=ah then bt σ H1 Q else cT σ H1 Q
theorem zQ{c:Expr}(aF:jM X c ot)(ay:bC X a bt)(ak:bC X b cT):bC X (.IfExp c a b pos) (anY ot bt cT):=by
 intro pins s σ H Q ab h;refine wpAny_IfExp (b2 (aF pins s σ H _ ab h) λd s1⟨H1,a',a7⟩=>?_);cases d with
 |true=>exact ay pins s1 σ H1 Q a' a7
 |false=>exact ak pins s1 σ H1 Q a' a7
end
def aI(K:PySem.W.Frag)(H:ax)(a:Addr)(xs:List V):Prop:=mh H a (.lst xs)\/∃(o:Obj)(its:Array ar)(n:Nat),K.lookup a=U o/\o.cls=.type "list"/\o.dict=af/\o.data=.seq its n/\its.size<=sizeLine/\bT xs its.toList
def eQ(K:PySem.W.Frag)(H:ax)(a:Addr)(xs:List V):Prop:=mh H a (.tup xs)\/∃(o:Obj)(its:Array ar)(n:Nat),K.lookup a=U o/\o.cls=.type "tuple"/\o.data=.seq its n/\its.size<=sizeLine/\bT xs its.toList
def acH:ar->Option V
 | .none=>U .bZ
 | .bool b=>U (.bB b)
 | .int i _=>U (.int i)
 | .str x _=>U (.str x)
 | .bytes b _=>U (.kc b)
 | .float b _=>U (.Eu b)
 | .ref a=>U (.ref a)
 | .type n=>U (.ty n)
 |_=>af
theorem RelV.abs{x:V}{u:ar}(r:RelV x u):acH u=U x:=by
 cases x with
 |bZ=>cases r;rfl
 |bB _=>cases r;rfl
 |int _=>obtain⟨t,rfl⟩:=r;rfl
 |str _=>obtain⟨t,rfl⟩:=r;rfl
 |kc _=>obtain⟨t,rfl⟩:=r;rfl
 |Eu _=>obtain⟨t,rfl⟩:=r;rfl
 |ref _=>cases r;rfl
 |ty _=>cases r;rfl
theorem RelV.inj{x y:V}{u:ar}(r:RelV x u)(q:RelV y u):x=y:=bS (r.abs.symm.trans q.abs)
theorem bT.inj:∀{xs ys:List V}{us:List ar},bT xs us->bT ys us->xs=ys
 |_,_,_,.nil,.nil=>rfl
 |_,_,_,.cons r t,.cons r' t'=>by rw[r.inj r',bT.inj t t']
section
variable{X:bN}{pins:List (Addr×Obj)}{σ:St}{H:ax}{s:aT}{a:Addr}{xs ys:List V}
theorem aI.of{K:PySem.W.Frag}(h:H a=U (.lst xs)):aI K H a xs:=.inl (.inl h)
theorem eQ.of{K:PySem.W.Frag}(h:H a=U (.tup xs)):eQ K H a xs:=.inl (.inl h)
theorem Inv.list(ab:Inv X pins σ H s)(h:aI X.K H a xs):∃its:List ar,bT xs its/\PlainL s.heap a its.toArray/\xs.length<=sizeLine:=by
 rcases h with h|⟨o,its,n,aH,aF,hd,aP,a9,r⟩
 ·obtain⟨z,its,n,r,e⟩:=h.ok ab.bo;exact⟨its,r,⟨_,n,e,I,I,I⟩,z⟩
 ·refine⟨its.toList,r,⟨o,n,ab.jW a o aH,aF,hd,by simpa using aP⟩,?_⟩;have e:=r.length;simp only[rP]at e;omega
theorem Inv.tuple(ab:Inv X pins σ H s)(h:eQ X.K H a xs):∃its:List ar,bT xs its/\IsTup s.heap a its.toArray/\xs.length<=sizeLine:=by
 rcases h with h|⟨o,its,n,aH,aF,aP,a9,r⟩
 ·obtain⟨z,its,r,p⟩:=h.ok ab.bo;exact⟨its,r,p,z⟩
 ·refine⟨its.toList,r,⟨o,ab.jW a o aH,aF,n,by simpa using aP⟩,?_⟩;have e:=r.length;simp only[rP]at e;omega
theorem Inv.Cg(ab:Inv X pins σ H s)(h:aI X.K H a xs)(h':aI X.K H a ys):xs=ys:=by
 obtain⟨its,r,⟨o,n,e,_,_,d⟩,_⟩:=ab.list h;obtain⟨its',r',⟨o',aq2,e',_,_,d'⟩,_⟩:=ab.list h';rw[e]at e';cases e';rw[d]at d';injection d' with vN _;have:its=its':=by simpa using congrArg Z6 vN
 subst this;exact r.inj r'
end
abbrev bN.ov(X:bN)(E:ar->aT->Prop):bN:={X with d2:=E}
abbrev bN.ts(X:bN):bN:=X.ov λ_ _=>False
theorem bN.Ok.ov{X:bN}(ok:X.Ok)(E:ar->aT->Prop):(X.ov E).Ok:=⟨ok.mod,ok.kind,ok.glob,ok.blt,ok.above,ok.inj,ok.has,ok.A8,ok.hd,ok.frames,ok.GS,ok.Er,ok.bs,ok.pX,ok.Cs,ok.Bj,ok.nc,ok.sH⟩
theorem bN.Ok.qy{X:bN}{E:ar->aT->Prop}(ok:(X.ov E).Ok):X.Ok:=⟨ok.mod,ok.kind,ok.glob,ok.blt,ok.above,ok.inj,ok.has,ok.A8,ok.hd,ok.frames,ok.GS,ok.Er,ok.bs,ok.pX,ok.Cs,ok.Bj,ok.nc,ok.sH⟩
section
variable{X:bN}{pins:List (Addr×Obj)}{σ:St}{H:ax}{s:aT}{E:ar->aT->Prop}
theorem Inv.ov(ab:Inv X pins σ H s)(E:ar->aT->Prop):Inv (X.ov E) pins σ H s:=⟨ab.ok.ov E,ab.os,ab.bare,ab.base,ab.loc,ab.cell,ab.free,ab.m_,ab.pin,ab.bo,ab.len⟩
theorem Inv.qy(ab:Inv (X.ov E) pins σ H s):Inv X pins σ H s:=⟨ab.ok.qy,ab.os,ab.bare,ab.base,ab.loc,ab.cell,ab.free,ab.m_,ab.pin,ab.bo,ab.len⟩
theorem uL.qy{D:Ends}{f:Flow}{s':aT}(h:uL (X.ov E) pins D f s'):uL X pins D f s':=by
 cases f with
 |next=>obtain⟨cj,ae,ab,q⟩:=h;exact⟨cj,ae,ab.qy,q⟩
 |brk=>obtain⟨cj,ae,ab,q⟩:=h;exact⟨cj,ae,ab.qy,q⟩
 |cont=>obtain⟨cj,ae,ab,q⟩:=h;exact⟨cj,ae,ab.qy,q⟩
 |ret u=>obtain⟨v,cj,ae,ab,r,q⟩:=h;exact⟨v,cj,ae,ab.qy,r,q⟩
theorem bC.ts{e:Expr}{t:TE}(h:bC X.ts e t):bC X e t:=λpins s σ H Q ab hw=>lF (h pins s σ H Q (ab.ov _) hw) (λ_ _⟨v,ae,hU,r,q⟩=>⟨v,ae,hU.qy,r,q⟩) λ_ _ z=>iD z
theorem jM.ts{e:Expr}{t:TT}(h:jM X.ts e t):jM X e t:=λpins s σ H Q ab hw=>lF (h pins s σ H Q (ab.ov _) hw) (λ_ _⟨ae,hU,q⟩=>⟨ae,hU.qy,q⟩) λ_ _ z=>iD z
theorem m3.ts{st:List Stmt}{t:fS}(h:m3 X.ts st t):m3 X st t:=λpins s σ H D ab hw=>lF (h pins s σ H D (ab.ov _) hw) (λ_ _ q=>q.qy) λ_ _ z=>iD z
end
section
variable{X:bN}{st:Stmt}{rest:List Stmt}{t u:fS}{e:Expr}{te:TE}{pos:Pos}
def an5:fS:=λD σ H=>D.cN σ H
def aob(t u:fS):fS:=λD σ H=>t {D with cN:=u D} σ H
theorem dd:m3 X [] an5:=λ_ _ σ H _ ab h=>H2 ⟨σ,H,ab,h⟩
theorem a3(ag:lJ X st t)(ai:m3 X rest u):m3 X (st::rest) (aob t u):=by
 intro pins s σ H D ab h;refine wpAny_execs_cons (b2 (ag pins s σ H {D with cN:=u D} ab h) λf s1 q=>?_);cases f with
 |next=>obtain⟨cj,ae,hU,q⟩:=q;exact ai pins s1 cj ae D hU q
 |ret v=>exact q
 |brk=>exact q
 |cont=>exact q
theorem bb(ag:lJ X st t):m3 X [st] t:=by
 intro pins s σ H D ab h;refine wpAny_execs_cons (b2 (ag pins s σ H D ab h) λf s1 q=>?_);cases f with
 |next=>exact H2 q
 |ret v=>exact q
 |brk=>exact q
 |cont=>exact q
def anM:fS:=λD σ H=>D.dC σ H
theorem alS:lJ X (.Continue pos) anM:=λ_ _ σ H _ ab h=>wpAny_Continue ⟨σ,H,ab,h⟩
theorem Inv.quiet{pins:List (Addr×Obj)}{σ:St}{H:ax}{s:aT}(ab:Inv X pins σ H s):interactive X.env=aE:=by simp[interactive,ab.ok.kind]
def anV(te:TE):fS:=λD σ H=>te σ H λ_ H1=>D.cN σ H1
theorem fE(he:bC X e te)(aP:xC e af pos.line X.env=pure aE:=by rfl):lJ X (.Expr e pos) (anV te):=by intro pins s σ H D ab h;exact wpAny_Expr_any (b2 (he pins s σ H _ ab h) λv s1⟨x,H1,a',bK,a7⟩=>⟨σ,H1,a',a7⟩) ab.quiet aP
def Zp(te:TE):fS:=λD σ H=>te σ H D.zU
theorem bE(he:bC X e te):lJ X (.Return (U e) pos) (Zp te):=by intro pins s σ H D ab h;exact wpAny_Return_some (b2 (he pins s σ H _ ab h) λv s1⟨x,H1,a',bK,a7⟩=>⟨x,σ,H1,a',bK,a7⟩)
def anZ(c:TT)(t u:fS):fS:=λD σ H=>c σ H λb H1=>if b=ah then t D σ H1 else u D σ H1
theorem c5{c:Expr}{a b:List Stmt}{nF:TT}(aF:jM X c nF)(ay:m3 X a t)(ak:m3 X b u):lJ X (.If c a b pos) (anZ nF t u):=by
 intro pins s σ H D ab h;refine wpAny_If (b2 (aF pins s σ H _ ab h) λd s1⟨H1,a',a7⟩=>?_);cases d with
 |true=>exact ay pins s1 σ H1 D a' a7
 |false=>exact ak pins s1 σ H1 D a' a7
end
abbrev h_:=V->St->ax->(St->ax->Prop)->Prop
abbrev uN:=List V->St->ax->(St->ax->Prop)->Prop
def uK(X:bN)(target:Expr)(t:h_):Prop:=∀(pins:List (Addr×Obj))(s:aT)(σ:St)(H:ax)(v:V)(u:ar)(Q:St->ax->Prop),Inv X pins σ H s->RelV v u->t v σ H Q->bp (bO X.prog X.w) X.A (Dt target X.env u) (λ_ s'=>∃cj ae,Inv X pins cj ae s'/\Q cj ae) X.d2 s
def DW(X:bN)(br:List Expr)(t:uN):Prop:=∀(pins:List (Addr×Obj))(s:aT)(σ:St)(H:ax)(vs:List V)(us:List ar)(Q:St->ax->Prop),Inv X pins σ H s->bT vs us->t vs σ H Q->bp (bO X.prog X.w) X.A (assignInOrder ((Du br X.env).map (·.2)) us) (λ_ s'=>∃cj ae,Inv X pins cj ae s'/\Q cj ae) X.d2 s
abbrev DY:=V->V->ax->c9->Prop
def Q6(X:bN)(op:Qc)(t:DY):Prop:=∀(pins:List (Addr×Obj))(s:aT)(σ:St)(H:ax)(x y:V)(v u:ar)(Q:c9),Inv X pins σ H s->RelV x v->RelV y u->t x y H Q->bp (bO X.prog X.w) X.A (Qr op v u) (hD X pins σ Q) X.d2 s
section
variable{X:bN}{pos:Pos}
def mu(i:Nat):h_:=λv σ H Q=>Q (σ.set i (U v)) H
theorem d9{i:Nat}{x:Str}(gh:X.N.Nodup)(av:X.N[i]? =U x)(ao:Loc X.env.scope x)(hf:X.fn x=ah\/X.env.scope.names.lookup x=U .local:=by first|exact .inl I|exact .inr I|assumption):uK X (.Name x pos) (mu i):=by intro pins s σ H v u Q ab r h;exact wpAny_assign_Name (Pg ab gh av ao r (λs' hU=>⟨_,H,hU,h⟩) hf)
def Km:uN:=λvs σ H Q=>vs=[]/\Q σ H
inductive Bp(t:h_)(u:uN)(vs:List V)(σ:St)(H:ax)(Q:St->ax->Prop):Prop
 |mk (v r) (h0:vs=v::r) (ag:t v σ H λcj ae=>u r cj ae Q)
theorem w0:DW X [] Km:=by intro pins s σ H vs us Q ab r h;obtain⟨e,h⟩:=h;subst e;cases r;exact assignInOrder_nil ⟨σ,H,ab,h⟩
theorem mK{e:Expr}{es:List Expr}{t:h_}{u:uN}(ag:uK X e t)(ai:DW X es u)(aP:(Du (e::es) X.env).map (·.2)=Dt e X.env::(Du es X.env).map (·.2):=by rfl):DW X (e::es) (Bp t u):=by
 intro pins s σ H vs us Q ab r h;obtain⟨v,arf,aS,h⟩:=h;subst aS;cases r with
 |cons r iO=>rw[aP];refine assignInOrder_cons (b2 (ag pins s σ H _ _ _ ab r h) λ_ s1⟨Ac,H1,a',a7⟩=>?_);exact ai pins s1 Ac H1 _ _ Q a' iO a7
inductive Kn(K:PySem.W.Frag)(n:Nat)(t:uN)(v:V)(σ:St)(H:ax)(Q:St->ax->Prop):Prop
 |mk (a xs) (h0:v=.ref a) (ag:eQ K H a xs) (ai:xs.length=n) (aN:t xs σ H Q)
theorem wZ{es:List Expr}{k:Nat}{t:uN}{n:Nat}(aF:X.calm=ah)(h:DW X es t)(aC:(Du es X.env).length=n:=by rfl)(lZ:(Du es X.env).findIdx? (·.1)=af:=by rfl):uK X (.Tuple es k pos) (Kn X.K n t):=by intro pins s σ H v u Q ab r hw;obtain⟨a,xs,aS,aK,au,hw⟩:=hw;subst aS;cases r;obtain⟨its,di,bV,a9⟩:=ab.tuple aK;refine assign_Tuple_tuple (ab.ok.hd aF) bV (by simp[aC,<-au,di.length]) lZ λh' ao=>?_;have a':Inv X pins σ H {s with heap:=h'}:=ab.kept (t':=s.toks) λb o e=>ao b o (hS (ef e)) e;exact h pins _ σ H xs _ Q a' (by simpa using di) hw
def Zi(te:TE)(g:h_):fS:=λD σ H=>te σ H λx H1=>g x σ H1 D.cN
theorem cQ{i:Nat}{x:Str}{e:Expr}{te:TE}{pos':Pos}(gh:X.N.Nodup)(av:X.N[i]? =U x)(ao:Loc X.env.scope x)(he:bC X e te)(aP:xC e (U (.Name x pos')) pos.line X.env=pure aE:=by rfl)(hf:X.fn x=ah\/X.env.scope.names.lookup x=U .local:=by first|exact .inl I|exact .inr I|assumption):lJ X (.Assign [.Name x pos'] e pos) (Zi te (mu i)):=by intro pins s σ H D ab h;refine wpAny_Assign_Name (b2 (he pins s σ H _ ab h) λv s1⟨y,H1,a',bK,a7⟩=>?_) aP;exact Pg a' gh av ao bK (λs2 b7=>⟨_,H1,b7,a7⟩) hf
inductive anF(i:Nat)(te:TE)(z8:DY)(D:Ends)(σ:St)(H:ax):Prop
 |mk (x) (h0:σ[i]? =U (U x)) (ag:te σ H λy H1=>z8 x y H1 λz az=>D.cN (σ.set i (U z)) az)
theorem w1{i:Nat}{x:Str}{e:Expr}{te:TE}{op:Qc}{z8:DY}{pos':Pos}(gh:X.N.Nodup)(av:X.N[i]? =U x)(ao:Loc X.env.scope x)(he:bC X e te)(aA:Q6 X op z8)(hf:X.fn x=ah\/X.env.scope.names.lookup x=U .local:=by first|exact .inl I|exact .inr I|assumption):lJ X (.AugAssign (.Name x pos') op e pos) (anF i te z8):=by
 intro pins s σ H D ab h;obtain⟨v,aS,h⟩:=h;obtain⟨m,aC,au⟩:=ab.loc;have aoF:xZ X.env.scope x:=by rcases ao with k|k;exact .inl k;exact .inr (.inl k)
 obtain⟨u,r,l⟩:=au i x v av aS aoF;refine wpAny_AugAssign_Name ?_;have go:bp (bO X.prog X.w) X.A (c' e X.env) (λw h4=>bp (bO X.prog X.w) X.A (Qr op u w) (λr tO=>bp (bO X.prog X.w) X.A (Qx X.env x r) (λ_=>uL X pins D .next) X.d2 tO) X.d2 h4) X.d2 s:=by refine b2 (he pins s σ H _ ab h) λw s1⟨y,H1,a',bK,a7⟩=>?_;refine b2 (aA pins s1 σ H1 v y u w _ a' r bK a7) λz s2⟨arn,az,b7,cS,bc⟩=>?_;exact Pg b7 gh av ao cS (λs3 eP=>⟨_,az,eP,bc⟩) hf
 rcases l with⟨aH,hm⟩|⟨aH,c,aF,EP⟩
 ·exact abN ab.ok.kind aH aC hm go
 ·rcases aH with aH|aH
  ·exact abM ab.ok.kind aH aF EP go
  ·rcases ao with k|k
   ·have:X.env.scope.names.lookup x=U .free:=aH;rw[k]at this;cases this
   ·have:X.env.scope.names.lookup x=U .free:=aH;rw[k]at this;cases this
inductive aij(f:Int->Int->Int)(x:V)(y:V)(H:ax)(Q:c9):Prop
 |mk (i j) (h0:x=.int i) (ag:y=.int j) (ai:Q (.int (f i j)) H)
theorem zu:Q6 X .Add (aij λi j=>i+j):=by intro pins s σ H x y v u Q ab bK cS h;obtain⟨i,j,aS,aQ,q⟩:=h;subst aS;subst aQ;obtain⟨t,rfl⟩:=bK;obtain⟨t',rfl⟩:=cS;exact iadd_int ⟨.int _,H,ab.tok _,⟨_,I⟩,q⟩
def Zt(c:TT)(cT:fS):fS:=λD σ H=>∃W:Nat->St->ax->Prop,(∃m,W m σ H)/\∀m σ H,W m σ H->c σ H λb H1=>if b=ah then∃N:St->ax->Prop,(∀cj ae,N cj ae->∃m',m'<m/\W m' cj ae)/\cT {D with cN:=N,dC:=N,iH:=D.cN} σ H1 else D.cN σ H1
theorem qr{c:Expr}{body:List Stmt}{nF:TT}{cT:fS}(aO:PassesOwn (bO X.prog X.w) X.A X.env X.d2)(aF:jM X c nF)(ak:m3 X body cT):lJ X (.While c body [] pos) (Zt nF cT):=by
 intro pins s σ H D ab h;obtain⟨W,⟨m0,z'⟩,turn⟩:=h;refine wpAny_While (codeAny_whileLoop (λn s'=>∃cj ae,Inv X pins cj ae s'/\W n cj ae) ?_ m0 ⟨σ,H,ab,z'⟩);rintro n s1 ⟨Ac,H1,a',b5⟩;refine xG aO (b2 (aF pins s1 Ac H1 _ a' (turn n Ac H1 b5)) λb s2⟨az,b7,bc⟩=>?_);cases b with
 |true=>
  obtain⟨N,gh,bc⟩:=bc;rw[art I];refine xG aO (b2 (ak pins s2 Ac az _ b7 bc) λf s3 c_=>?_);cases f with
  |next=>obtain⟨pw,aZ,eP,en⟩:=c_;obtain⟨m',hm,ei⟩:=gh pw aZ en;exact⟨m',hm,pw,aZ,eP,ei⟩
  |cont=>obtain⟨pw,aZ,eP,en⟩:=c_;obtain⟨m',hm,ei⟩:=gh pw aZ en;exact⟨m',hm,pw,aZ,eP,ei⟩
  |brk=>exact c_
  |ret v=>exact c_
 |false=>rw[ars eM];exact H2 ⟨Ac,az,b7,bc⟩
end
structure It where
 go:Nat->ax->Prop
 qz:Nat->ax->V->ax->Prop
 stop:Nat->ax->Prop
def iS(X:bN)(pins:List (Addr×Obj))(H:ax)(b:Addr):Prop:=H b=af/\b≠X.env.locals/\b∉X.bk/\(b∈X.ex\/X.jv.heap.objs.size<=b)/\(∀x c,X.env.cells.lookup x=U c->c≠b)/\∀p∈X.cm++pins,p.1≠b
theorem Inv.v9{X:bN}{pins:List (Addr×Obj)}{σ:St}{H ae:ax}{s:aT}{b:Addr}(ab:Inv X pins σ H s)(ak:s.heap.objs.size<=b)(aC:ae b=af):iS X pins ae b:=by
 refine⟨aC,oz (h5 ab.lt ak),ab.aj0 ak,.inr (b3 ab.ma ak),λx c e z=>?_,λp aO z=>?_⟩
 ·obtain⟨v,q⟩:=ab.cell x c e;exact aro (h5 q.lt (by rw[z];exact ak)) (pF _)
 ·exact aro (h5 (ef (ab.pin p aO).1) (by rw[z];exact ak)) (pF _)
structure Turn(P:b6)(w:bX)(K:PySem.W.Frag)(ee:Expr)(J:It)(fp:List Addr)(it:Addr)(fw:Nat->Heap->Prop):Prop where
 mem:it∈fp
 obj:∀i h,fw i h->∀b∈fp,∃o,h.get? b=U o/\∀v,o.data≠.cell v
 keep:∀i h h',fw i h->(∀b∈fp,∀o,h.get? b=U o->h'.get? b=U o)->fw i h'
 item:∀(X:bN),X.prog=P->X.w=w->X.K=K->X.calm=ah->∀(i:Nat)(pins:List (Addr×Obj))(s:aT)(σ:St)(H:ax)(E:ar->aT->Prop),Inv X pins σ H s->(∀b∈fp,iS X pins H b)->fw i s.heap->J.go i H->bp (bO P w) X.A (j9 (.ref it)) (λr s1=>∃u,r=U u/\bp (bO P w) X.A (HU ee (.ref it) u) (λ_ s2=>∃x ae,Inv X pins σ ae s2/\RelV x u/\J.qz i H x ae/\fw (i+1) s2.heap/\∀b∈fp,ae b=af) E s1) E s
 done:∀(X:bN),X.prog=P->X.w=w->X.K=K->X.calm=ah->∀(i:Nat)(pins:List (Addr×Obj))(s:aT)(σ:St)(H:ax)(E:ar->aT->Prop),Inv X pins σ H s->(∀b∈fp,iS X pins H b)->fw i s.heap->J.stop i H->bp (bO P w) X.A (j9 (.ref it)) (λr s1=>r=af/\Inv X pins σ H s1) E s
 self:∀(A:dQ)(i:Nat)(s:aT)(Q:ar->aT->Prop)(E:ar->aT->Prop),fw i s.heap->Q (.ref it) s->bp (bO P w) A (AA (.ref it)) Q E s
abbrev TI:=St->ax->(It->ax->Prop)->Prop
inductive Jf(X:bN)(pins:List (Addr×Obj))(σ:St)(ee:Expr)(R:It->ax->Prop)(LH:ar)(s2:aT):Prop
 |mk (it:Addr) (fp:List Addr) (fw:Nat->Heap->Prop) (J:It) (ae:ax) (h0:LH=.ref it) (ag:Inv X pins σ ae s2) (ai:Turn X.prog X.w X.K ee J fp it fw) (aN:fw 0 s2.heap) (bD:(∀b∈fp,iS X pins ae b)) (cw:R J ae)
def nW(X:bN)(ee iter:Expr)(jb:TI):Prop:=∀(pins:List (Addr×Obj))(s:aT)(σ:St)(H:ax)(R:It->ax->Prop),Inv X pins σ H s->jb σ H R->bp (bO X.prog X.w) X.A (c' iter X.env) (λv s1=>bp (bO X.prog X.w) X.A (AA v) (Jf X pins σ ee R) X.d2 s1) X.d2 s
theorem Bs{M:Ar}{A:dQ}{E:ar->aT->Prop}{s:aT}{ee:Expr}{it:Addr}{u:ar}{o:Obj}{n:String}{vs:Array ar}{Q:Unit->aT->Prop}(aA:s.heap.get? it=U o)(aF:o.cls=.type n)(hd:o.data=.fields vs)(aC:["enumerate","zip","dict_itemiterator","dict_reverseitemiterator","odict_iterator","itertools.zip_longest","itertools.pairwise"].contains n=aE)(hI:Q () s):bp M A (HU ee (.ref it) u) Q E s:=by
 unfold HU;cases ee<;>first
  |exact cD hI
  |(cases u<;>first|exact cD hI|(refine bg (wpAny_load aA ?_);rw[aF,hd];show bp M A (if(["enumerate","zip","dict_itemiterator","dict_reverseitemiterator","odict_iterator","itertools.zip_longest","itertools.pairwise"].contains n&&vs[0]? ==U (oF _))=ah then _ else _) Q E s;rw[ars (by intro h;rw[aC,Bool.false_and]at h;cases h)];exact cD hI))
def mX(K:PySem.W.Frag)(a:Addr):It:=⟨λi H=>∃xs x,aI K H a xs/\xs[i]? =U x,λi H x ae=>ae=H/\∀xs,aI K H a xs->xs[i]? =U x,λi H=>∃xs,aI K H a xs/\xs.length<=i⟩
theorem aoq{P:b6}{w:bX}{K:PySem.W.Frag}{ee:Expr}(a it:Addr):Turn P w K ee (mX K a) [it] it (λi h=>h.IsListIter it a i)where
 mem:=bl
 obj:=λi h st b ak=>by
  have e:b=it:=by simpa using ak
  subst e;obtain⟨o,e,c,d⟩:=st;exact⟨o,e,λv z=>by rw[d]at z;cases z⟩
 keep:=λi h h' st k=>st.at λo e=>k it bl o e
 item:=by intro X cX hw fT aF i pins s σ H E ab hf st bM;subst cX hw fT;obtain⟨xs,x,aK,ao⟩:=bM;obtain⟨its,di,p,a9⟩:=ab.list aK;obtain⟨u,a4,gz⟩:=di.get ao;obtain⟨f0,f1,f2,ew,f4,gu⟩:=hf it bl;refine wpAny_pyNext_list_item st p.isList (x:=u) (by simpa using a4) λh' eG fF=>?_;have a':Inv X pins σ H {s with heap:=h'}:=ab.turned (t':=s.toks) (λb o ak e=>(fF.2 b ak).trans e) f0 f1 ew f4 gu;obtain⟨o,e,c,d⟩:=id eG;exact⟨u,I,Bs (s:={s with heap:=h'}) e c d a5 ⟨x,H,a',gz,⟨I,λys a_=>by rw[ab.Cg a_ aK];exact ao⟩,eG,λb ak=>(hf b ak).1⟩⟩
 done:=by intro X cX hw fT aF i pins s σ H E ab hf st bM;subst cX hw fT;obtain⟨xs,aK,ao⟩:=bM;obtain⟨its,di,p,a9⟩:=ab.list aK;obtain⟨f0,f1,f2,ew,f4,gu⟩:=hf it bl;have au:=di.length;exact wpAny_pyNext_list_end (ab.ok.hd aF) st p.isList (by simp;omega) λh' e9=>⟨I,ab.turned (t':=s.toks) (λb o ak e=>e9 b o ak e) f0 f1 ew f4 gu⟩
 self:=λ_ _ _ _ _ st h=>wpAny_pyIter_listiter st h
section
variable{X:bN}{ee:Expr}
inductive arB(K:PySem.W.Frag)(R:It->ax->Prop)(x:V)(H1:ax):Prop
 |mk (a) (h0:x=.ref a) (ag:(∃xs,aI K H1 a xs)) (ai:R (mX K a) H1)
def ah7(K:PySem.W.Frag)(a6:TE):TI:=λσ H R=>a6 σ H λx H1=>arB K R x H1
theorem gm{l:Expr}{a6:TE}(au:bC X l a6):nW X ee l (ah7 X.K a6):=by
 intro pins s σ H R ab h;refine b2 (au pins s σ H _ ab h) λv s1⟨x,H1,a',bK,a7⟩=>?_;obtain⟨a,e,⟨xs,aK⟩,q⟩:=a7;subst e;cases bK;obtain⟨its,di,p,a9⟩:=a'.list aK;refine H4 p.isList ?_;refine⟨s1.heap.objs.size,[s1.heap.objs.size],_,_,H1,I,a'.kept (t':=s1.toks) λb o e=>fG _ e,aoq a _,⟨_,fX _ I,I,I⟩,λb ak=>?_,q⟩;have e:b=s1.heap.objs.size:=by simpa using ak
 subst e;exact a'.v9 (bR _) (a'.bo.fresh (bR _))
def anX(jb:TI)(g:h_)(cT:fS):fS:=λD σ H=>jb σ H λJ H1=>∃W:Nat->Nat->St->ax->Prop,(∃m,W 0 m σ H1)/\∀i m σ H,W i m σ H->(J.stop i H/\D.cN σ H)\/(J.go i H/\∃N:St->ax->Prop,(∀cj ae,N cj ae->∃m',m'<m/\W (i+1) m' cj ae)/\∀x ae,J.qz i H x ae->g x σ ae λe6 az=>cT {D with cN:=N,dC:=N,iH:=D.cN} e6 az)
def Cy(fp:List Addr)(h:Heap):List (Addr×Obj):=fp.filterMap λb=>(h.get? b).map λo=>(b,o)
theorem FF{fp:List Addr}{h:Heap}{b:Addr}{o:Obj}(ak:b∈fp)(e:h.get? b=U o):(b,o)∈Cy fp h:=PS.mpr ⟨b,ak,by rw[e];rfl⟩
theorem ako{fp:List Addr}{h:Heap}{p:Addr×Obj}(aO:p∈Cy fp h):p.1∈fp/\h.get? p.1=U p.2:=by
 obtain⟨b,ak,e⟩:=PS.mp aO;cases q:h.get? b with
 |none=>rw[q]at e;cases e
 |some o=>rw[q]at e;have e':(b,o)=p:=bS e;subst e';exact⟨ak,q⟩
theorem Inv.pinned{pins:List (Addr×Obj)}{σ:St}{H:ax}{s:aT}{fp:List Addr}(ab:Inv X pins σ H s)(hf:∀b∈fp,iS X pins H b)(aA:∀b∈fp,∃o,s.heap.get? b=U o/\∀v,o.data≠.cell v):Inv X (pins++Cy fp s.heap) σ H s:=ab.W6 λp aO=>(gn.mp aO).elim (λz=>ab.pin p (pB _ z)) λz=>by obtain⟨ak,e⟩:=ako z;obtain⟨f0,f1,f2,_⟩:=hf p.1 ak;obtain⟨o,e',d⟩:=aA p.1 ak;rw[e]at e';cases e';exact⟨e,f0,f1,f2,d⟩
theorem Inv.C2{pins pl:List (Addr×Obj)}{σ:St}{H:ax}{s:aT}(ab:Inv X (pins++pl) σ H s):Inv X pins σ H s:=ab.W6 λp aO=>ab.pin p (pB _ (Hu _ aO))
theorem i6{iter:Expr}{body:List Stmt}{jb:TI}{g:h_}{cT:fS}{pos:Pos}(aO:PassesOwn (bO X.prog X.w) X.A X.env X.d2)(aF:X.calm=ah)(av:nW X ee iter jb)(bM:uK X ee g)(ak:m3 X body cT)(aP:∀x,HR iter X.env x=pure x:=by intro _;rfl):lJ X (.For ee iter body [] pos) (anX jb g cT):=by
 intro pins s σ H D ab h;refine wpAny_For (b2 (av pins s σ H _ ab h) λv s1 ag=>b2 ag λLH s2 ai=>?_) aP;obtain⟨it,fp,fw,J,az,e,b7,T,GQ,f2,W,⟨m0,z'⟩,turn⟩:=ai;subst e;have xb:∀{ae:ax},(∀b∈fp,ae b=af)->∀b∈fp,iS X pins ae b:=λaC b ak=>⟨aC b ak,(f2 b ak).2⟩;refine codeAny_forLoop_any (λn s'=>∃i cj ae,Inv X pins cj ae s'/\fw i s'.heap/\(∀b∈fp,ae b=af)/\W i n cj ae) ?_ m0 ⟨0,σ,az,b7,GQ,λb ak=>(f2 b ak).1,z'⟩;rintro n s3 ⟨i,pw,aZ,eP,GR,T2,ei⟩;rcases turn i n pw aZ ei with⟨stop,alY⟩|⟨go,N,gh,step⟩
 ·refine xG aO (b2 (T.done X I I I aF i pins s3 pw aZ X.d2 eP (xb T2) GR stop) λr s4⟨aL,jL⟩=>?_);subst aL;exact H2 ⟨pw,aZ,jL,alY⟩
 ·refine xG aO (b2 (T.item X I I I aF i pins s3 pw aZ X.d2 eP (xb T2) GR go) λr s4⟨u,aL,bD⟩=>?_);subst aL;refine xG aO (b2 bD λ_ s5⟨x,cb,r_,pg,aoY,z5,aeQ⟩=>?_);have acy:=r_.pinned (xb aeQ) (T.obj _ _ z5);refine xG aO (b2 (bM _ s5 pw cb x u _ acy pg (step x cb aoY)) λ_ c6⟨apb,dj,sa,i7⟩=>?_);refine xG aO (b2 (ak _ c6 apb dj _ sa i7) λf dp tE=>?_);have again:∀{px:St}{d3:ax},Inv X (pins++Cy fp s5.heap) px d3 dp->N px d3->∃m,m<n/\∃i cj ae,Inv X pins cj ae dp/\fw i dp.heap/\(∀b∈fp,ae b=af)/\W i m cj ae:=λ{px d3}lb lp=>by obtain⟨m',hm,hy⟩:=gh px d3 lp;refine⟨m',hm,i+1,px,d3,lb.C2,T.keep _ _ _ z5 λb ak o e=>(lb.pin (b,o) (pB _ (pB _ (FF ak e)))).1,λb ak=>?_,hy⟩;obtain⟨o,e,d⟩:=T.obj _ _ z5 b ak;exact(lb.pin (b,o) (pB _ (pB _ (FF ak e)))).2.1
  cases f with
  |next=>obtain⟨px,d3,lb,lp⟩:=tE;exact again lb lp
  |cont=>obtain⟨px,d3,lb,lp⟩:=tE;exact again lb lp
  |brk=>obtain⟨px,d3,lb,tE⟩:=tE;exact⟨px,d3,lb.C2,tE⟩
  |ret v=>obtain⟨xn,px,d3,lb,ph,tE⟩:=tE;exact⟨xn,px,d3,lb.C2,ph,tE⟩
end
theorem mr{K:PySem.W.Frag}{a:Addr}{xs:List V}{g:h_}{cT:fS}{D:Ends}{σ:St}{H:ax}(Pv:Nat->St->ax->Prop)(h0:Pv 0 σ H)(au:∀i σ H,i<=xs.length->Pv i σ H->aI K H a xs)(aP:∀i x σ H,xs[i]? =U x->Pv i σ H->g x σ H λe6 az=>cT {D with cN:=Pv (i+1),dC:=Pv (i+1),iH:=D.cN} e6 az)(hd:∀σ H,Pv xs.length σ H->D.cN σ H):∃W:Nat->Nat->St->ax->Prop,(∃m,W 0 m σ H)/\∀i m σ H,W i m σ H->((mX K a).stop i H/\D.cN σ H)\/((mX K a).go i H/\∃N:St->ax->Prop,(∀cj ae,N cj ae->∃m',m'<m/\W (i+1) m' cj ae)/\∀x ae,(mX K a).qz i H x ae->g x σ ae λe6 az=>cT {D with cN:=N,dC:=N,iH:=D.cN} e6 az):=by
 refine⟨λi m σ H=>m=xs.length-i/\i<=xs.length/\Pv i σ H,⟨xs.length,bl,ec _,h0⟩,?_⟩;rintro i m σ H ⟨rfl,av,p⟩;have q:=au i σ H av p;by_cases dD:i<xs.length
 ·refine .inr ⟨⟨xs,xs[i],q,by simp[dD]⟩,Pv (i+1),λcj ae p'=>⟨xs.length-(i+1),aG,I,dD,p'⟩,λx ae y=>?_⟩;obtain⟨e,y⟩:=y;subst e;exact aP i x σ _ (y xs q) p
 ·have e:i=xs.length:=by omega
  subst e;exact .inl ⟨⟨xs,q,bR _⟩,hd σ H p⟩
theorem xk{c:TT}{cT:fS}{D:Ends}{σ:St}{H:ax}(Pv:St->ax->Prop)(C9:St->ax->Nat)(h0:Pv σ H)(aP:∀σ H,Pv σ H->c σ H λb H1=>if b=ah then cT {D with cN:=λcj ae=>Pv cj ae/\C9 cj ae<C9 σ H,dC:=λcj ae=>Pv cj ae/\C9 cj ae<C9 σ H,iH:=D.cN} σ H1 else D.cN σ H1)(mono:∀σ H Q oM,(∀b H1,Q b H1->oM b H1)->c σ H Q->c σ H oM):Zt c cT D σ H:=by
 refine⟨λm σ H=>m=C9 σ H/\Pv σ H,⟨_,I,h0⟩,?_⟩;rintro m σ H ⟨rfl,p⟩;refine mono σ H _ _ (λb H1 q=>?_) (aP σ H p);cases b with
 |true=>exact⟨_,λcj ae⟨p',l⟩=>⟨_,l,I,p'⟩,q⟩
 |false=>exact q
abbrev jN:=V->V->ax->c9->Prop
def hG(X:bN)(f:ar->ar->Sem ar)(r:jN):Prop:=∀(pins:List (Addr×Obj))(s:aT)(σ:St)(H:ax)(x y:V)(v u:ar)(Q:c9),Inv X pins σ H s->RelV x v->RelV y u->r x y H Q->bp (bO X.prog X.w) X.A (f v u) (hD X pins σ Q) X.d2 s
def Ji(X:bN)(f:ar->Sem ar)(r:V->ax->c9->Prop):Prop:=∀(pins:List (Addr×Obj))(s:aT)(σ:St)(H:ax)(x:V)(v:ar)(Q:c9),Inv X pins σ H s->RelV x v->r x H Q->bp (bO X.prog X.w) X.A (f v) (hD X pins σ Q) X.d2 s
def iE(X:bN)(f:ar)(r:List V->ax->c9->Prop):Prop:=∀(pins:List (Addr×Obj))(s:aT)(σ:St)(H:ax)(xs:List V)(us:List ar)(Q:c9),Inv X pins σ H s->bT xs us->r xs H Q->bp (bO X.prog X.w) X.A (call f us) (hD X pins σ Q) X.d2 s
def acG(X:bN)(r:V->ax->(Bool->ax->Prop)->Prop):Prop:=∀(pins:List (Addr×Obj))(s:aT)(σ:St)(H:ax)(x:V)(v:ar)(Q:Bool->ax->Prop),Inv X pins σ H s->RelV x v->r x H Q->bp (bO X.prog X.w) X.A (Qz v) (DZ X pins σ Q) X.d2 s
def CZ(r:jN)(bt cT:TE):TE:=λσ H Q=>bt σ H λx H1=>cT σ H1 λy az=>r x y az Q
def aod(r:V->ax->c9->Prop)(bt:TE):TE:=λσ H Q=>bt σ H λx H1=>r x H1 Q
inductive tG(g:Int->Int->V)(x:V)(y:V)(H:ax)(Q:c9):Prop
 |mk (i j) (h0:x=.int i) (ag:y=.int j) (ai:Q (g i j) H)
inductive Xv(g:Int->V)(x:V)(H:ax)(Q:c9):Prop
 |mk (i) (h0:x=.int i) (ag:Q (g i) H)
section
variable{X:bN}{a b c:Expr}{bt cT nF:TE}{pos:Pos}
theorem Jy(ay:bC X a bt)(ak:bC X b cT){pins:List (Addr×Obj)}{s:aT}{σ:St}{H:ax}{R:V->V->ax->Prop}(ab:Inv X pins σ H s)(h:bt σ H λx H1=>cT σ H1 λy az=>R x y az){Q:ar->aT->Prop}{f:ar->ar->Sem ar}(hf:∀v u s2 x y az,Inv X pins σ az s2->RelV x v->RelV y u->R x y az->bp (bO X.prog X.w) X.A (f v u) Q X.d2 s2):bp (bO X.prog X.w) X.A (c' a X.env) (λv d7=>bp (bO X.prog X.w) X.A (c' b X.env) (λu h4=>bp (bO X.prog X.w) X.A (f v u) Q X.d2 h4) X.d2 d7) X.d2 s:=by refine b2 (ay pins s σ H _ ab h) λv s1⟨x,H1,a',bK,a7⟩=>?_;refine b2 (ak pins s1 σ H1 _ a' a7) λu s2⟨y,az,b7,cS,bc⟩=>?_;exact hf v u s2 x y az b7 bK cS bc
theorem fj{op:Qc}{r:jN}(aA:hG X (Dw op) r)(ay:bC X a bt)(ak:bC X b cT):bC X (.BinOp a op b pos) (CZ r bt cT):=by intro pins s σ H Q ab h;exact wpAny_BinOp (Jy ay ak ab h λv u s2 x y az b7 bq bP q=>aA pins s2 σ az x y v u Q b7 bq bP q)
theorem F6{op:UnaryOp}{r:V->ax->c9->Prop}(aA:Ji X (unaryOp op) r)(ay:bC X a bt):bC X (.UnaryOp op a pos) (aod r bt):=by intro pins s σ H Q ab h;exact UnaryOp_ (b2 (ay pins s σ H _ ab h) λv s1⟨x,H1,a',bK,a7⟩=>aA pins s1 σ H1 x v Q a' bK a7)
theorem WR{f:ar->ar->Sem ar}{g:Int->Int->Int}(rule:∀(i j:Int)(t u:Tok)(s:aT)(Q:ar->aT->Prop)(E:ar->aT->Prop),Q (.int (g i j) s.toks) {s with toks:=s.toks+1}->bp (bO X.prog X.w) X.A (f (.int i t) (.int j u)) Q E s):hG X f (tG λi j=>.int (g i j)):=by intro pins s σ H x y v u Q ab bq bP h;obtain⟨i,j,rfl,rfl,q⟩:=h;obtain⟨t,rfl⟩:=bq;obtain⟨t',rfl⟩:=bP;exact rule i j t t' s _ _ ⟨.int (g i j),H,ab.tok _,⟨_,I⟩,q⟩
theorem FZ{f:ar->ar->Sem ar}{g:Int->Int->Bool}(rule:∀(i j:Int)(t u:Tok)(s:aT)(Q:ar->aT->Prop)(E:ar->aT->Prop),Q (.bool (g i j)) s->bp (bO X.prog X.w) X.A (f (.int i t) (.int j u)) Q E s):hG X f (tG λi j=>.bB (g i j)):=by intro pins s σ H x y v u Q ab bq bP h;obtain⟨i,j,rfl,rfl,q⟩:=h;obtain⟨t,rfl⟩:=bq;obtain⟨t',rfl⟩:=bP;exact rule i j t t' s _ _ ⟨.bB (g i j),H,ab,I,q⟩
def QQ(i j:Int):Prop:=(-(2^64)<i/\i<2^64)\/(-(2^64)<j/\j<2^64)
theorem QQ.ok{i j:Int}(h:QQ i j):IntMulOk i j:=by
 rcases h with⟨ag,ai⟩|⟨ag,ai⟩
 ·exact .of_left (abx ag ai)
 ·exact .of_right (abx ag ai)
theorem pd:hG X (Dw .Add) (tG λi j=>.int (i+j)):=WR λ_ _ _ _ _ _ _ q=>add_int q
theorem WU:hG X (Dw .Sub) (tG λi j=>.int (i-j)):=WR λ_ _ _ _ _ _ _ q=>sub_int q
theorem aox{f:ar->Sem ar}{g:Int->Int}(rule:∀(i:Int)(t:Tok)(s:aT)(Q:ar->aT->Prop)(E:ar->aT->Prop),Q (.int (g i) s.toks) {s with toks:=s.toks+1}->bp (bO X.prog X.w) X.A (f (.int i t)) Q E s):Ji X f (Xv λi=>.int (g i)):=by intro pins s σ H x v Q ab bq h;obtain⟨i,rfl,q⟩:=h;obtain⟨t,rfl⟩:=bq;exact rule i t s _ _ ⟨.int (g i),H,ab.tok _,⟨_,I⟩,q⟩
theorem G9:Ji X (unaryOp .USub) (Xv λi=>.int (-i)):=aox λ_ _ _ _ _ q=>neg_int q
end
def GC:V->V->Bool
 | .bZ,.bZ=>ah| .bZ,.int _=>ah| .int _,.bZ=>ah| .bZ,.bB _=>ah| .bB _,.bZ=>ah| .bZ,.str _=>ah| .str _,.bZ=>ah
 | .int _,.int _=>ah| .bB _,.bB _=>ah| .str _,.str _=>ah| .kc _,.kc _=>ah
 | .int _,.str _=>ah| .str _,.int _=>ah| .bB _,.str _=>ah| .str _,.bB _=>ah
 |_,_=>aE
def al4:jN:=λx y H Q=>GC x y=ah/\Q (.bB (decide (x=y))) H
def al9:jN:=λx y H Q=>GC x y=ah/\Q (.bB (!decide (x=y))) H
theorem RV{i j:Int}:decide (V.int i=V.int j)=(i==j):=by rw[mf];simp
theorem RT{i j:Bool}:decide (V.bB i=V.bB j)=(i==j):=by rw[mf];simp
theorem RW{i j:Str}:decide (V.str i=V.str j)=(i==j):=by rw[mf];simp
theorem RU{i j:Array UInt8}:decide (V.kc i=V.kc j)=(i.toList==j.toList):=by rw[mf];cases i;cases j;simp
section
variable{X:bN}{a b c:Expr}{bt cT nF:TE}{pos:Pos}
theorem gg{pins:List (Addr×Obj)}{σ:St}{H:ax}{s:aT}{Q:c9}{k hk:Bool}(ab:Inv X pins σ H s)(q:Q (.bB k) H)(e:k=hk):hD X pins σ Q (.bool hk) s:=by subst e;exact⟨.bB k,H,ab,I,q⟩
theorem gY:hG X (jf .Eq) al4:=by
 intro pins s σ H x y v u Q ab bq bP h;obtain⟨aP,q⟩:=h;cases x with
 |bZ=>
  cases bq;cases y with
  |bZ=>cases bP;exact PySem.EqNone.eq_none_none (gg ab q bl)
  |bB j=>cases bP;exact PySem.EqNone.eq_none_bool (gg ab q bl)
  |int j=>obtain⟨t',rfl⟩:=bP;exact PySem.EqNone.eq_none_int (gg ab q bl)
  |str j=>obtain⟨t',rfl⟩:=bP;exact PySem.EqNone.eq_none_str (gg ab q bl)
  |_=>exact aro (show aE=ah from aP) eM
 |bB i=>
  cases bq;cases y with
  |bZ=>cases bP;exact PySem.EqNone.eq_bool_none (gg ab q bl)
  |bB j=>cases bP;exact eq_bool (gg ab q RT)
  |str j=>obtain⟨t',rfl⟩:=bP;exact PySem.EqMixed.eq_bool_str (gg ab q bl)
  |_=>exact aro (show aE=ah from aP) eM
 |int i=>
  obtain⟨t,rfl⟩:=bq;cases y with
  |bZ=>cases bP;exact PySem.EqNone.eq_int_none (gg ab q bl)
  |int j=>obtain⟨t',rfl⟩:=bP;exact eq_int (gg ab q RV)
  |str j=>obtain⟨t',rfl⟩:=bP;exact PySem.EqMixed.eq_int_str (gg ab q bl)
  |_=>exact aro (show aE=ah from aP) eM
 |str i=>
  obtain⟨t,rfl⟩:=bq;cases y with
  |bZ=>cases bP;exact PySem.EqNone.eq_str_none (gg ab q bl)
  |bB j=>cases bP;exact PySem.EqMixed.eq_str_bool (gg ab q bl)
  |int j=>obtain⟨t',rfl⟩:=bP;exact PySem.EqMixed.eq_str_int (gg ab q bl)
  |str j=>obtain⟨t',rfl⟩:=bP;exact eq_str (gg ab q RW)
  |_=>exact aro (show aE=ah from aP) eM
 |kc i=>
  obtain⟨t,rfl⟩:=bq;cases y with
  |kc j=>obtain⟨t',rfl⟩:=bP;exact PySem.W.eq_bytes (gg ab q RU)
  |_=>exact aro (show aE=ah from aP) eM
 |_=>cases y<;>exact aro (show aE=ah from aP) eM
theorem rv:hG X (jf .NotEq) al9:=by
 intro pins s σ H x y v u Q ab bq bP h;obtain⟨aP,q⟩:=h;cases x with
 |bZ=>
  cases bq;cases y with
  |bZ=>cases bP;exact PySem.EqNone.ne_none_none (gg ab q bl)
  |bB j=>cases bP;exact PySem.EqNone.ne_none_bool (gg ab q bl)
  |int j=>obtain⟨t',rfl⟩:=bP;exact PySem.EqNone.ne_none_int (gg ab q bl)
  |str j=>obtain⟨t',rfl⟩:=bP;exact PySem.EqNone.ne_none_str (gg ab q bl)
  |_=>exact aro (show aE=ah from aP) eM
 |bB i=>
  cases bq;cases y with
  |bZ=>cases bP;exact PySem.EqNone.ne_bool_none (gg ab q bl)
  |bB j=>cases bP;exact ne_bool (gg ab q (congrArg not RT))
  |str j=>obtain⟨t',rfl⟩:=bP;exact PySem.EqMixed.ne_bool_str (gg ab q bl)
  |_=>exact aro (show aE=ah from aP) eM
 |int i=>
  obtain⟨t,rfl⟩:=bq;cases y with
  |bZ=>cases bP;exact PySem.EqNone.ne_int_none (gg ab q bl)
  |int j=>obtain⟨t',rfl⟩:=bP;exact ne_int (gg ab q (congrArg not RV))
  |str j=>obtain⟨t',rfl⟩:=bP;exact PySem.EqMixed.ne_int_str (gg ab q bl)
  |_=>exact aro (show aE=ah from aP) eM
 |str i=>
  obtain⟨t,rfl⟩:=bq;cases y with
  |bZ=>cases bP;exact PySem.EqNone.ne_str_none (gg ab q bl)
  |bB j=>cases bP;exact PySem.EqMixed.ne_str_bool (gg ab q bl)
  |int j=>obtain⟨t',rfl⟩:=bP;exact PySem.EqMixed.ne_str_int (gg ab q bl)
  |str j=>obtain⟨t',rfl⟩:=bP;exact ne_str (gg ab q (congrArg not RW))
  |_=>exact aro (show aE=ah from aP) eM
 |kc i=>
  obtain⟨t,rfl⟩:=bq;cases y with
  |kc j=>obtain⟨t',rfl⟩:=bP;exact PySem.W.ne_bytes (gg ab q (congrArg not RU))
  |_=>exact aro (show aE=ah from aP) eM
 |_=>cases y<;>exact aro (show aE=ah from aP) eM
theorem tx:hG X (jf .Lt) (tG λi j=>.bB (decide (i<j))):=FZ λ_ _ _ _ _ _ _ q=>aaL q
theorem MN:hG X (jf .LtE) (tG λi j=>.bB (decide (i<=j))):=FZ λ_ _ _ _ _ _ _ q=>le_int q
theorem nB:hG X (jf .Gt) (tG λi j=>.bB (decide (j<i))):=FZ λ_ _ _ _ _ _ _ q=>gt_int q
theorem WS:hG X (jf .GtE) (tG λi j=>.bB (decide (j<=i))):=FZ λ_ _ _ _ _ _ _ q=>ge_int q
theorem l_:hG X (jf .Is) (λx y H Q=>y=.bZ/\Q (.bB (decide (x=.bZ))) H):=by
 intro pins s σ H x y v u Q ab bq bP h;obtain⟨rfl,q⟩:=h;cases bP;refine is_none_gen (gg ab q ?_);cases x<;>first
  |(cases bq;rfl)
  |(obtain⟨t,rfl⟩:=bq;rfl)
theorem cY(b:Expr){op:rY}(h:op≠.In:=by decide)(ai:op≠.NotIn:=by decide):ud op b=aE:=by
 have aS:(op==aaW)=aE:=by cases op<;>first|rfl|exact aro I h
 have aQ:(op==aaX)=aE:=by cases op<;>first|rfl|exact aro I ai
 cases b<;>simp[ud,aS,aQ]
theorem tB{op:rY}{r:jN}(aA:hG X (jf op) r)(ay:bC X a bt)(ak:bC X b cT)(hm:ud op b=aE):bC X (.Compare a [op] [b] pos) (CZ r bt cT):=by intro pins s σ H Q ab h;exact wpAny_Compare1 (Jy ay ak ab h λv u s2 x y az b7 bq bP q=>aA pins s2 σ az x y v u Q b7 bq bP q) hm
inductive aso(Q:Bool->ax->Prop)(x:V)(ae:ax):Prop
 |mk (k) (h0:x=.bB k) (ag:Q k ae)
def Zs(t:TE):TT:=λσ H Q=>t σ H λx ae=>aso Q x ae
theorem cJ{op:rY}{r:jN}(aA:hG X (jf op) r)(ay:bC X a bt)(ak:bC X b cT)(hm:ud op b=aE):jM X (.Compare a [op] [b] pos) (Zs (CZ r bt cT)):=by
 intro pins s σ H Q ab h;refine wpAny_isTrue_Compare1 (b2 (ay pins s σ H _ ab h) λv s1⟨x,H1,a',bK,a7⟩=>b2 (ak pins s1 σ H1 _ a' a7) λu s2⟨y,az,b7,cS,bc⟩=>b2 (aA pins s2 σ az x y v u _ b7 bK cS bc) λc s3⟨z,aZ,eP,hv,k,e,c_⟩=>?_) hm
 subst e;cases hv;exact oH ⟨aZ,eP,c_⟩
inductive ar5(r':jN)(nF:TE)(σ:St)(Q:c9)(y:V)(z:V)(aZ:ax):Prop
 |mk (k) (h0:z=.bB k) (ag:(if k=ah then nF σ aZ λfc bz=>r' y fc bz Q else Q (.bB aE) aZ))
def Zm(r r':jN)(bt cT nF:TE):TE:=λσ H Q=>bt σ H λx H1=>cT σ H1 λy az=>r x y az λz aZ=>ar5 r' nF σ Q y z aZ
theorem alr{op wV:rY}{r r':jN}(aA:hG X (jf op) r)(kX:hG X (jf wV) r')(ay:bC X a bt)(ak:bC X b cT)(aF:bC X c nF)(hm:lastMarks [op,wV] [b,c]=aE:=by with_unfolding_all rfl):bC X (.Compare a [op,wV] [b,c] pos) (Zm r r' bt cT nF):=by
 intro pins s σ H Q ab h;refine Compare_chain (b2 (ay pins s σ H _ ab h) λv s1⟨x,H1,a',bK,a7⟩=>chain_link (b2 (ak pins s1 σ H1 _ a' a7) λu s2⟨y,az,b7,cS,bc⟩=>b2 (aA pins s2 σ az x y v u _ b7 bK cS bc) λd s3⟨z,aZ,eP,hv,k,e,c_⟩=>?_)) hm
 subst e;cases hv;refine oH ?_;cases k with
 |false=>exact ite_ff ⟨.bB aE,aZ,eP,I,c_⟩
 |true=>exact ite_tt (chain_last (b2 (aF pins s3 σ aZ _ eP c_) λfc s4⟨mR,bz,jL,w3,gN⟩=>kX pins s4 σ bz y mR u fc Q jL cS w3 gN))
theorem alT{op wV:rY}{r r':jN}(aA:hG X (jf op) r)(kX:hG X (jf wV) r')(ay:bC X a bt)(ak:bC X b cT)(aF:bC X c nF)(hm:lastMarks [op,wV] [b,c]=aE:=by with_unfolding_all rfl):jM X (.Compare a [op,wV] [b,c] pos) (Zs (Zm r r' bt cT nF)):=by
 intro pins s σ H Q ab h;refine isTrue_chain (b2 (ay pins s σ H _ ab h) λv s1⟨x,H1,a',bK,a7⟩=>test_link (b2 (ak pins s1 σ H1 _ a' a7) λu s2⟨y,az,b7,cS,bc⟩=>b2 (aA pins s2 σ az x y v u _ b7 bK cS bc) λd s3⟨z,aZ,eP,hv,k,e,c_⟩=>?_)) hm
 subst e;cases hv;refine oH ?_;cases k with
 |false=>obtain⟨hk,e',gM⟩:=c_;cases e';exact ite_ff ⟨aZ,eP,gM⟩
 |true=>refine ite_tt (test_last (b2 (aF pins s3 σ aZ _ eP c_) λfc s4⟨mR,bz,jL,w3,gN⟩=>b2 (kX pins s4 σ bz y mR u fc _ jL cS w3 gN) λd' s5⟨kJ,cb,r_,pg,fD,aQ,k1⟩=>?_));subst aQ;cases pg;exact oH ⟨cb,r_,k1⟩
def Q8(K:PySem.W.Frag)(x:V)(H:ax)(k:Bool):Prop:=match x with
 | .bZ=>k=aE
 | .bB b=>k=b
 | .int i=>k=(i !=0)
 | .str y=>y.length<=sizeLine/\k=((y.length:Int) !=0)
 | .kc y=>y.size<=sizeLine/\k=((y.size:Int) !=0)
 | .ref p=>(∃xs,aI K H p xs/\k= !xs.isEmpty)\/(∃xs,eQ K H p xs/\k= !xs.isEmpty)\/∃kvs,H p=U (.cC kvs)/\k= !kvs.isEmpty
 |_=>False
theorem aik{dy:Type}{kvs:List (dy×V)}{vs:List (dy×ar)}(r:fh kvs vs):(!vs.isEmpty)= !kvs.isEmpty:=by cases r<;>rfl
theorem Vn{xs:List V}{its:List ar}(r:bT xs its):(!its.toArray.isEmpty)= !xs.isEmpty:=by cases r<;>simp
theorem zz:(sizeLine:Nat)<2^63:=by rw[AB];decide
theorem aok:acG X (λx H Q=>∃k,Q8 X.K x H k/\Q k H):=by
 intro pins s σ H x v Q ab bq h;obtain⟨k,e,q⟩:=h;have au:=zz;have aP:sizeLine=16777216:=AB;cases x with
 |bZ=>cases bq;have e':k=aE:=e;subst e';exact truthy_none ⟨H,ab,q⟩
 |bB b=>cases bq;have e':k=b:=e;subst e';exact oH ⟨H,ab,q⟩
 |int i=>obtain⟨t,rfl⟩:=bq;have e':k=(i !=0):=e;subst e';exact PySem.P.truthy_int ⟨H,ab,q⟩
 |str y=>obtain⟨t,rfl⟩:=bq;obtain⟨a_,e'⟩:y.length<=sizeLine/\k=((y.length:Int) !=0):=e;subst e';exact PySem.P.truthy_str aG ⟨H,ab.tok _,q⟩
 |kc y=>obtain⟨t,rfl⟩:=bq;obtain⟨a_,e'⟩:y.size<=sizeLine/\k=((y.size:Int) !=0):=e;subst e';exact PySem.W.truthy_bytes aG ⟨H,ab.tok _,q⟩
 |ref p=>
  cases bq;have e':(∃xs,aI X.K H p xs/\k= !xs.isEmpty)\/(∃xs,eQ X.K H p xs/\k= !xs.isEmpty)\/∃kvs,H p=U (.cC kvs)/\k= !kvs.isEmpty:=e;rcases e' with⟨xs,ao,e'⟩|⟨xs,ao,e'⟩|⟨kvs,ao,e'⟩
  ·subst e';obtain⟨its,r,pl,a9⟩:=ab.list ao;have hlen:=r.length;exact wpAny_truthy_list pl.isList (by simp only[fO];omega) ⟨H,ab.tok _,by rw[Vn r];exact q⟩
  ·subst e';obtain⟨its,r,pl,a9⟩:=ab.tuple ao;have hlen:=r.length;exact truthy_tuple pl (by simp only[fO];omega) ⟨H,ab.tok _,by rw[Vn r];exact q⟩
  ·subst e';obtain⟨a9,d1,vs,r,m⟩:kvs.length<=sizeLine/\(p==kO)=aE/\∃vs,fh kvs vs/\s.heap.DictOf (eF X.prog X.w) p vs:=ab.bo p _ ao;have hlen:kvs.length=vs.length:=Paired.length r;exact wpAny_truthy_dict d1 m aG ⟨H,ab.tok _,by rw[aik r];exact q⟩
 |_=>exact(show False from e).elim
theorem Xf(ay:bC X a bt)(he:∀whole,Ay a X.env whole=(do let v<-whole;HW a.pos;oE [v] (Qz v))):jM X a (λσ H Q=>bt σ H λx ae=>∃k,Q8 X.K x ae k/\Q k ae):=by intro pins s σ H Q ab h;exact isTrue_plain (b2 (ay pins s σ H _ ab h) λv s1⟨x,H1,a',bK,a7⟩=>aok pins s1 σ H1 x v Q a' bK a7) (he _)
theorem tv:hG X (Dw .Add) (λx y H Q=>∃i j,x=.str i/\y=.str j/\i.length+j.length<=sizeLine/\Q (.str (i++j)) H):=by intro pins s σ H x y v u Q ab bq bP h;obtain⟨i,j,rfl,rfl,a9,q⟩:=h;obtain⟨t,rfl⟩:=bq;obtain⟨t',rfl⟩:=bP;exact add_str (λt' tk=>⟨.str (i++j),H,ab.tok _,⟨_,I⟩,q⟩) a9
theorem aii:hG X (Qr .Add) (λx y H Q=>∃i j,x=.str i/\y=.str j/\i.length+j.length<=sizeLine/\Q (.str (i++j)) H):=by intro pins s σ H x y v u Q ab bq bP h;obtain⟨i,j,rfl,rfl,a9,q⟩:=h;obtain⟨t,rfl⟩:=bq;obtain⟨t',rfl⟩:=bP;exact iadd_str (λt' tk=>⟨.str (i++j),H,ab.tok _,⟨_,I⟩,q⟩) a9
theorem vals1{x:V}{us:List ar}(r:bT [x] us):∃u,us=[u]/\RelV x u:=by
 cases r with
 |cons bK cS=>cases cS;exact⟨_,I,bK⟩
theorem Rz:iE X (.builtin "ord") (λxs H Q=>∃x,xs=[.str x]/\x.length=1/\Q (.int (x.cps.getD 0 0:Nat)) H):=by intro pins s σ H xs us Q ab r h;obtain⟨x,rfl,a9,q⟩:=h;obtain⟨u,rfl,t,rfl⟩:=vals1 r;exact ord_of_one a9 ⟨.int _,H,ab.tok _,⟨_,I⟩,q⟩
end
structure uI(h:Heap)(x aq C:Addr)(e5:Str->Option ar):Prop where
 obj:h.get? x=U (PySem.W.instObj C aq)
 ns:h.Ns1 aq e5
 ne:aq≠x
theorem aiY{h:Heap}{aq:Addr}{e5:Str->Option ar}(n:h.Ns1 aq e5):∃cO,h.get? aq=U cO/\∀name,PySem.W.lookIn name cO=U (e5 name):=by
 obtain⟨o,es,ep,aA,hd,aH,_,hm⟩:=n;refine⟨o,aA,λname=>?_⟩;have e:=hm name;unfold nsFind Qp at e;rw[<-Array.find?_toList]at e;unfold PySem.W.lookIn;rw[hd];dsimp only;split
 ·rename_i y q;rw[q]at e;exact congrArg U e
 ·rename_i q;rw[q]at e;have a:es.toList.any (·.refKey)=aE:=by rw[Hm];intro y a_;obtain⟨z,t,wo⟩:=aH y (Array.mem_toList_iff.mp a_);simp[apE,wo]
  have uP:¬es.toList.any (·.refKey)=ah:=by rw[a];exact eM
  rw[ars uP];exact congrArg U e
theorem uI.look{h:Heap}{x aq C:Addr}{e5:Str->Option ar}(ab:uI h x aq C e5):∃cO,PySem.W.InstAt h x (PySem.W.instObj C aq) C (U cO)/\∀name,PySem.W.lookIn name cO=U (e5 name):=let⟨cO,aA,au⟩:=aiY ab.ns;⟨cO,⟨ab.obj,I,I,aA⟩,au⟩
section
variable{prog:b6}{w:bX}{A:dQ}{E:ar->aT->Prop}{s:aT}{K:PySem.W.Frag}{x aq C f:Addr}{e5:Str->Option ar}{name:Str}{v:ar}
theorem get_map{expr:Bool}{Q:ar->aT->Prop}(X:K.In s.heap)(ab:uI s.heap x aq C e5)(bM:PySem.W.plainGet K C name=ah)(d4:PySem.W.hasDictIn K C=ah)(ay:PySem.W.findIn K (.ref C) name=U af)(bU:e5 name=U v)(Fd:PySem.W.handedIn v=ah)(h:Q v {s with toks:=s.toks+1}):bp (bO prog w) A (Qq (.ref x) name expr) Q E s:=by obtain⟨cO,J,au⟩:=ab.look;exact PySem.W.get_value X J (PySem.W.plainGet_of bM).1 (PySem.W.findObj_own d4 ay I (by rw[au,bU])) Fd h
theorem afv{pl:Sem Bool}{Q:ar×List ar->aT->Prop}(X:K.In s.heap)(ab:uI s.heap x aq C e5)(bM:PySem.W.plainGet K C name=ah)(hf:PySem.W.findIn K (.ref C) name=U (U (.ref f)))(bV:PySem.W.isFn K (.ref f)=ah)(bU:e5 name=af)(h:Q (.ref f,[.ref x]) s):bp (bO prog w) A (HS (.ref x) name pl) Q E s:=by obtain⟨cO,J,au⟩:=ab.look;exact PySem.W.method_fn X J (PySem.W.plainGet_of bM).1 (PySem.W.plainGet_of bM).2 hf (beq_iff_eq.mp bV) (by show(PySem.W.lookIn name cO).map (·.isSome)=U aE;rw[au,bU];rfl) h
theorem am5{ns:List Str}{Q:Unit->aT->Prop}(X:K.In s.heap)(ab:uI s.heap x aq C e5)(aP:PySem.W.findIn K (.ref C) "__setattr__"=U (U (.builtin "object.__setattr__")))(aO:PySem.W.plainOver K C=ah)(bV:PySem.W.takerIn K C name=U af)(d4:PySem.W.hasDictIn K C=ah)(hw:PySem.Within e5 ns)(hsz:ns.length<=sizeLine)(h:∀h',uI h' x aq C (λy=>if y=name then U v else e5 y)->xw aq s.heap h'->Q () {s with heap:=h',toks:=s.toks+2}):bp (bO prog w) A (setAttr (.ref x) name v) Q E s:=by obtain⟨cO,J,au⟩:=ab.look;refine PySem.W.set_plain X J aP (PySem.W.osa_open (s:={s with toks:=s.toks+1}) (r:=af) X J aO bV λb=>?_);obtain⟨cd,aF,kW⟩:=PySem.W.any_some d4;have ao:s.heap.get? x=U ⟨.ref C,U aq,.plain,#[]⟩:=ab.obj;refine bg (cD (bg (bg (wpAny_loadPart ao (bg (PySem.W.Looks.here (s:={s with toks:=s.toks+1}) (PySem.W.looks_clsIn X aF) ?_))))));rw[kW];refine cD (a:=U aq) (bg (cD (bg ?_)));refine wpAny_nsSet1 (s:={s with toks:=s.toks+1}) ab.ns λh' s6 o7=>?_;obtain⟨aq8,aqo,aqn,ag9,agp,agg⟩:=s6.count (PySem.Within.cons name v hw);refine bg (wpAny_lookBehind ag9 (by rw[agp];exact pastItsLine_dict (b3 agg (by rw[cW];omega))) ?_);exact cD (h _ ⟨(o7.2 _ (bQ ab.ne)).trans ab.obj,s6,ab.ne⟩ o7)
theorem aja{R:xy->aT->Prop}{vs:List ar}{kw:List (Str×ar)}(X:K.In s.heap)(hm:PySem.W.makesIn K C=ah)(av:PySem.W.findIn K (.ref C) "__init__"=U (U (.ref f)))(hf:PySem.W.typeIn K (.ref f)=U (.type "function"))(h:oD (bO prog w) (A.under (.builtin "type.__call__" ⟨.ref C::vs,kw⟩)) (.call (.ref f) ⟨.ref (s.heap.objs.size+1)::vs,kw⟩) (PySem.W.InitBack (s.heap.objs.size+1) R) {s with heap:=(s.heap.push PySem.W.emptyDict).push (PySem.W.instObj C s.heap.objs.size)}):oD (bO prog w) A (.call (.ref C) ⟨vs,kw⟩) R s:=by obtain⟨d4,g,d,t,os⟩:=s;exact PySem.W.make_core (PySem.W.makes_of X hm) (PySem.W.looks_findIn X av) (λself=>PySem.W.bind_fn X self hf) (.inl I) h
end
def bY(f:Str)(v:V):List (Str×V)->List (Str×V)
 |[]=>[(f,v)]
 |(g,x)::r=>if g=f then(g,v)::r else(g,x)::bY f v r
theorem el(f g:Str)(v:V):∀bk:List (Str×V),(bY f v bk).lookup g=if g=f then U v else bk.lookup g
 |[]=>by
  show t4 g [(f,v)]=_;by_cases h:g=f
  ·have ak:(g==f)=ah:=beq_iff_eq.mpr h;simp only[t4,ak,art h]
  ·have ak:(g==f)=aE:=beq_eq_false_iff_ne.mpr h;simp only[t4,ak,ars h]
 |(k,x)::r=>by
  have ih:=el f g v r;rw[show bY f v ((k,x)::r)=(if k=f then(k,v)::r else(k,x)::bY f v r)from I];by_cases aH:k=f
  ·rw[art aH];by_cases h:g=k
   ·have ak:(g==k)=ah:=beq_iff_eq.mpr h;simp only[t4,ak,art (h.trans aH)]
   ·have ak:(g==k)=aE:=beq_eq_false_iff_ne.mpr h;simp only[t4,ak,ars (λe:g=f=>h (e.trans aH.symm))]
  ·rw[ars aH];by_cases h:g=k
   ·have ak:(g==k)=ah:=beq_iff_eq.mpr h;simp only[t4,ak,ars (λe:g=f=>aH (h.symm.trans e))]
   ·have ak:(g==k)=aE:=beq_eq_false_iff_ne.mpr h;simp only[t4,ak];exact ih
theorem Ma(f:Str)(v:V):∀bk:List (Str×V),f∈(bY f v bk).map (·.1)/\∀g,g∈bk.map (·.1)->g∈(bY f v bk).map (·.1)
 |[]=>⟨by simp[bY],λg h=>by simp at h⟩
 |(k,x)::r=>by
  obtain⟨ci,cU⟩:=Ma f v r;rw[show bY f v ((k,x)::r)=(if k=f then(k,v)::r else(k,x)::bY f v r)from I];by_cases aH:k=f
  ·rw[art aH];subst aH;exact⟨bl,λg h=>by simpa using h⟩
  ·rw[ars aH];refine⟨?_,λg h=>?_⟩
   ·rw[dO];exact j7 _ ci
   ·rw[dO]at h⊢;rcases ek.mp h with e|e
    ·exact ek.mpr (.inl e)
    ·exact j7 _ (cU g e)
theorem gX(f:Str)(v:V):∀bk:List (Str×V),(bY f v bk).length<=bk.length+1
 |[]=>by simp[bY]
 |(k,x)::r=>by
  have ih:=gX f v r;rw[show bY f v ((k,x)::r)=(if k=f then(k,v)::r else(k,x)::bY f v r)from I];by_cases aH:k=f
  ·rw[art aH,cW,cW];omega
  ·rw[ars aH,cW,cW];omega
theorem jO.some_of{v:V}{o:Option ar}(r:jO (U v) o):∃u,o=U u/\RelV v u:=by
 cases o with
 |none=>exact(show False from r).elim
 |some u=>exact⟨u,I,r⟩
theorem jO.none_of{o:Option ar}(r:jO af o):o=af:=by
 cases o with
 |none=>rfl
 |some u=>exact(show False from r).elim
theorem af7{v:V}{u:ar}(r:RelV v u):PySem.W.handedIn u=ah:=by
 cases v with
 |bZ=>cases(show u=r0 from r);rfl
 |bB b=>cases(show u=nO b from r);rfl
 |int i=>obtain⟨t,e⟩:=(show∃t,u=HN i t from r);cases e;rfl
 |str x=>obtain⟨t,e⟩:=(show∃t,u=Dq x t from r);cases e;rfl
 |kc b=>obtain⟨t,e⟩:=(show∃t,u=abi b t from r);cases e;rfl
 |Eu b=>obtain⟨t,e⟩:=(show∃t,u=abj b t from r);cases e;rfl
 |ref a=>cases(show u=eZ a from r);rfl
 |ty n=>cases(show u=r1 n from r);rfl
section
variable{P:b6}{w:bX}{H ae:ax}{h h':Heap}{a C aq:Addr}{bk ms:List (Str×V)}
theorem Fl(bo:fI P w H h)(e:H a=U (.ins C aq bk)):∃e5,uI h a aq C e5/\(∀f,jO (bk.lookup f) (e5 f))/\PySem.Within e5 (bk.map (·.1))/\bk.length<=1000/\H aq=U (.own a):=by obtain⟨d,z,ne,ob,e5,n,r,q⟩:=(show gF P w H h a (.ins C aq bk)from bo a _ e);exact⟨e5,⟨ob,n,ne⟩,r,q,z,d⟩
end
structure j_(K:PySem.W.Frag)(C:Addr):Prop where
 kD:PySem.W.plainGet K C Qh=ah
 hd:PySem.W.hasDictIn K C=ah
 po:PySem.W.plainOver K C=ah
 amC:PySem.W.findIn K (.ref C) "__setattr__"=U (U (.builtin "object.__setattr__"))
theorem j_.get{K:PySem.W.Frag}{C:Addr}(c:j_ K C)(f:Str):PySem.W.plainGet K C f=ah:=c.kD
def hV(K:PySem.W.Frag)(C:Addr)(f:Str):Prop:=PySem.W.findIn K (.ref C) f=U af
theorem hV.aoe{K:PySem.W.Frag}{C:Addr}{f:Str}(n:hV K C f):PySem.W.takerIn K C f=U af:=by unfold PySem.W.takerIn;rw[show PySem.W.findIn K (.ref C) f=U af from n];rfl
structure hF(K:PySem.W.Frag)(C:Addr)(m:Str)(f:Addr):Prop where
 at_:PySem.W.findIn K (.ref C) m=U (U (.ref f))
 fn:PySem.W.isFn K (.ref f)=ah
 bJ:PySem.W.keepIn K (.ref f)=ah
section
variable{X:bN}{pins:List (Addr×Obj)}{σ:St}{H:ax}{s:aT}{a C aq:Addr}{bk:List (Str×V)}{f:Str}{v:V}{A:dQ}{E:ar->aT->Prop}
theorem afw{b:Bool}{Q:ar->aT->Prop}(ab:Inv X pins σ H s)(e:H a=U (.ins C aq bk))(c:j_ X.K C)(n:hV X.K C f)(l:bk.lookup f=U v)(h:∀u s',Inv X pins σ H s'->RelV v u->Q u s'):bp (bO X.prog X.w) A (Qq (.ref a) f b) Q E s:=by obtain⟨e5,O,r,_,_,_⟩:=Fl ab.bo e;obtain⟨u,a4,gz⟩:=jO.some_of (v:=v) (o:=e5 f) (by rw[<-l];exact r f);exact get_map ab.jW O (c.get f) c.hd n a4 (af7 gz) (h u _ (ab.tok _) gz)
theorem Ua{m:Str}{g:Addr}{pl:Sem Bool}{Q:ar×List ar->aT->Prop}(ab:Inv X pins σ H s)(e:H a=U (.ins C aq bk))(c:j_ X.K C)(k:hF X.K C m g)(l:bk.lookup m=af)(h:Q (.ref g,[.ref a]) s):bp (bO X.prog X.w) A (HS (.ref a) m pl) Q E s:=by obtain⟨e5,O,r,_,_,_⟩:=Fl ab.bo e;have aC:e5 m=af:=jO.none_of (by rw[<-l];exact r m);exact afv ab.jW O (c.get m) k.at_ k.fn aC h
theorem am6{y:V}{u:ar}{Q:Unit->aT->Prop}(ab:Inv X pins σ H s)(e:H a=U (.ins C aq bk))(c:j_ X.K C)(n:hV X.K C f)(au:bk.length<1000)(bP:RelV y u)(h:∀s',Inv X pins σ (upd H a (.ins C aq (bY f y bk))) s'->Q () s'):bp (bO X.prog X.w) A (setAttr (.ref a) f u) Q E s:=by
 obtain⟨e5,O,r,jb,_,aA⟩:=Fl ab.bo e;have a9:(bk.map (·.1)).length<=sizeLine:=by rw[aU,AB];omega
 refine am5 ab.jW O c.amC c.po n.aoe c.hd jb a9 λh' Je fF=>h _ ?_;have hd:∃o,h'.get? aq=U o:=let⟨o,_,_,e',_⟩:=Je.ns;⟨o,e'⟩;refine ab.write (x:=a) (e:=aq) (by rw[e];exact xI) (.inr aA) (λb q ak z=>(fF.2 b ak).trans z) hd ?_;refine⟨by rw[aY O.ne];exact aA,?_,O.ne,Je.obj,_,Je.ns,λg=>?_,λg bM=>?_⟩
 ·have:=gX f y bk;omega
 ·show jO ((bY f y bk).lookup g) (if g=f then U u else e5 g);rw[el];by_cases q:g=f
  ·rw[art q,art q];exact bP
  ·rw[ars q,ars q];exact r g
 ·by_cases q:g=f
  ·rw[q];exact(Ma f y bk).1
  ·refine(Ma f y bk).2 g (jb g λz=>bM ?_);show(if g=f then U u else e5 g)=af;rw[ars q];exact z
theorem Inv.made(ab:Inv X pins σ H s):Inv X pins σ (upd (upd H s.heap.objs.size (.own (s.heap.objs.size+1))) (s.heap.objs.size+1) (.ins C s.heap.objs.size [])) {s with heap:=(s.heap.push PySem.W.emptyDict).push (PySem.W.instObj C s.heap.objs.size)}:=by
 have aS:(s.heap.push PySem.W.emptyDict).get? s.heap.objs.size=U PySem.W.emptyDict:=fX s.heap I;have aQ:((s.heap.push PySem.W.emptyDict).push (PySem.W.instObj C s.heap.objs.size)).get? (s.heap.objs.size+1)=U (PySem.W.instObj C s.heap.objs.size):=by have:=fX (s.heap.push PySem.W.emptyDict) (o:=PySem.W.instObj C s.heap.objs.size) I;rwa[k8]at this
 have b0:(s.heap.push PySem.W.emptyDict).Ns s.heap.objs.size (λ_=>af):=⟨PySem.W.emptyDict,#[],_,aS,I,(λe he=>aro he bl),λ_=>I⟩;have a':=ab.laid (a:=s.heap.objs.size) (o:=.own (s.heap.objs.size+1)) (h':=s.heap.push PySem.W.emptyDict) (t':=s.toks) (λb u q=>fG _ q) (bR _) ⟨_,aS⟩;refine a'.laid (a:=s.heap.objs.size+1) (o:=.ins C s.heap.objs.size []) (t':=s.toks) (λb u q=>fG _ q) (HC (k8 _ _)) ?_;have ne:s.heap.objs.size≠s.heap.objs.size+1:=hS (t9 _);refine⟨by rw[aY ne,aW],ec _,ne,aQ,λ_=>af,(Heap.Ns1.of_empty b0).at λo q=>fG _ q,λ_=>xI,λy a_=>aro I a_⟩
theorem Rc{prog:b6}{w:bX}{env:Env}{e:Expr}{f:Str}{pos:Pos}{s:aT}{Q:ar->aT->Prop}(ak:oC e f env (c' e env)=c' e env)(h:bp (bO prog w) A (c' e env) (λo d7=>bp (bO prog w) A (Qq o f ah) Q E d7) E s):bp (bO prog w) A (c' (.Attribute e f pos) env) Q E s:=Attribute_any_ h (by rw[arm_eval_Attribute,ak])
end
inductive asd(K:PySem.W.Frag)(f:Str)(Q:c9)(x:V)(H1:ax):Prop
 |mk (a C aq bk v) (h0:x=.ref a) (ag:H1 a=U (.ins C aq bk)) (ai:j_ K C) (aN:hV K C f) (bD:bk.lookup f=U v) (cw:Q v H1)
def xe(K:PySem.W.Frag)(bt:TE)(f:Str):TE:=λσ H Q=>bt σ H λx H1=>asd K f Q x H1
inductive ar0(K:PySem.W.Frag)(f:Str)(D:Ends)(σ:St)(y:V)(x:V)(az:ax):Prop
 |mk (a C aq bk) (h0:x=.ref a) (ag:az a=U (.ins C aq bk)) (ai:j_ K C) (aN:hV K C f) (bD:bk.length<1000) (cw:D.cN σ (upd az a (.ins C aq (bY f y bk))))
def amB(K:PySem.W.Frag)(bt mQ:TE)(f:Str):fS:=λD σ H=>mQ σ H λy H1=>bt σ H1 λx az=>ar0 K f D σ y x az
section
variable{X:bN}{o e value:Expr}{f:Str}{pos pos' mO:Pos}{bt mQ:TE}
theorem bH(he:bC X e bt)(ak:oC e f X.env (c' e X.env)=c' e X.env):bC X (.Attribute e f pos) (xe X.K bt f):=by intro pins s σ H Q ab h;refine Rc ak (b2 (he pins s σ H _ ab h) λu s1⟨x,H1,a',bq,a,C,aq,bk,v,ex,kg,c,n,l,q⟩=>?_);subst ex;obtain rfl:u=eZ a:=bq;exact afw a' kg c n l λhR s2 b7 gz=>⟨v,H1,b7,gz,q⟩
theorem hn(ay:bC X o bt)(bU:bC X value mQ)(aP:xC value (U (.Attribute o f pos')) pos.line X.env=pure aE):lJ X (.Assign [.Attribute o f pos'] value pos) (amB X.K bt mQ f):=by intro pins s σ H D ab h;refine plainObj_wpAny_Assign_Attribute (b2 (bU pins s σ H _ ab h) λu s1⟨y,H1,a',bP,q⟩=>b2 (ay pins s1 σ H1 _ a' q) λh2 s2⟨x,az,b7,bq,a,C,aq,bk,ex,kg,c,n,l,bc⟩=>?_) aP;subst ex;obtain rfl:h2=eZ a:=bq;exact am6 b7 kg c n l bP λs3 eP=>⟨σ,_,eP,bc⟩
end
section
variable{X:bN}{pins:List (Addr×Obj)}{σ:St}{H:ax}{s:aT}{A:dQ}{E:ar->aT->Prop}{Q:ar->aT->Prop}{c:ar}{b:Bool}
end
structure de(k:Nat)(A:dQ):Prop where
 hd:A.handled=af
 Bf:A.depth+3*k+5<recursionLimit
 un:A.units+16*k+200<cLine
theorem de.mono{j k:Nat}{A:dQ}(r:de k A)(h:j<=k):de j A:=⟨r.hd,by have:=r.Bf;omega,by have:=r.un;omega⟩
theorem de.deeper{k:Nat}{A:dQ}(r:de (k+1) A)(env:Env):de k (A.deeper env):=⟨r.hd,by have:=r.Bf;show A.depth+1+3*k+5<_;omega,by have:=r.un;show A.units+3+16*k+200<_;omega⟩
theorem de.in1{k:Nat}{A:dQ}(r:de (k+1) A):de k A.in1:=⟨r.hd,by have:=r.Bf;show A.depth+3*k+5<_;omega,by have:=r.un;show A.units+1+16*k+200<_;omega⟩
theorem ai9{A:dQ}{C:Addr}{us:List ar}{kw:List (Str×ar)}:(A.under (.builtin "type.__call__" ⟨.ref C::us,kw⟩)).depth=A.depth+1:=by first|rfl|simp[P5,Code.weight,Code.isCreation,Code.isGuard,Code.isCaller,aaY,P9,guardIds]
theorem ajb{A:dQ}{C:Addr}{us:List ar}{kw:List (Str×ar)}:(A.under (.builtin "type.__call__" ⟨.ref C::us,kw⟩)).units=A.units+1:=by first|rfl|simp[P5,Code.cUnits,aaY,P9]
theorem de.make{k:Nat}{A:dQ}(r:de (k+1) A)(C:Addr)(us:List ar)(kw:List (Str×ar)):de k (A.under (.builtin "type.__call__" ⟨.ref C::us,kw⟩)):=⟨r.hd,by have:=r.Bf;rw[ai9];omega,by have:=r.un;rw[ajb];omega⟩
theorem de.depth{k:Nat}{A:dQ}(r:de k A):A.depth<recursionLimit:=by have:=r.Bf;omega
theorem de.units{k:Nat}{A:dQ}(r:de k A):A.units+64<cLine:=by have:=r.un;omega
theorem de.aoy{k:Nat}{A:dQ}(r:de k A):A.units<cLine:=by have:=r.un;omega
def Pn:hp:=λ_ H Q=>Q [] H
def anL(bt:TE)(mP:hp):hp:=λσ H Q=>bt σ H λx H1=>mP σ H1 λxs az=>Q (x::xs) az
section
variable{X:bN}{e:Expr}{es:List Expr}{te:TE}{t:hp}{pos:Pos}
theorem aJ:lc X [] Pn:=λ_ _ _ _ H Q ab h=>Dp ⟨[],H,ab,.nil,h⟩
theorem aB(ay:bC X e te)(aL:lc X es t)(aP:eO (e::es) X.env=(aE,c' e X.env)::eO es X.env:=by rfl):lc X (e::es) (anL te t):=by intro pos pins s σ H Q ab h;rw[aP];show bp _ _ (Qw ((aE,c' e X.env)::jC pos (eO es X.env))) _ _ s;refine Ap (b2 (ay pins s σ H _ ab h) λu s1⟨x,H1,a',bK,a7⟩=>?_);exact b2 (aL pos pins s1 σ H1 _ a' a7) λus s2⟨xs,az,b7,cS,bc⟩=>⟨x::xs,az,b7,.cons bK cS,bc⟩
def aoc(t:hp):TE:=λσ H Q=>t σ H λxs H1=>xs.length<=sizeLine/\∀p,H1 p=af->Q (.ref p) (upd H1 p (.tup xs))
def an3(t:hp):TE:=λσ H Q=>t σ H λxs H1=>xs.length<=sizeLine/\∀p,H1 p=af->Q (.ref p) (upd H1 p (.lst xs))
theorem tC{x1}(h:lc X es t):bC X (.Tuple es x1 pos) (aoc t):=by intro pins s σ H Q ab aK;refine wpAny_Tuple_spliced (b2 (h pos pins s σ H _ ab aK) λus s1⟨xs,H1,a',r,z,q⟩=>⟨by rw[<-r.length];exact z,?_⟩);have hf:H1 s1.heap.objs.size=af:=a'.bo.fresh (bR _);refine⟨.ref s1.heap.objs.size,upd H1 s1.heap.objs.size (.tup xs),a'.laid (t':=s1.toks) (λb u e=>fG _ e) (bR _) ?_,I,q _ hf⟩;exact⟨z,us,r,⟨_,fX _ I,I,_,I⟩⟩
theorem du(h:lc X es t):bC X (.List es pos) (an3 t):=by intro pins s σ H Q ab aK;refine wpAny_List_spliced (b2 (h pos pins s σ H _ ab aK) λus s1⟨xs,H1,a',r,z,q⟩=>⟨by rw[<-r.length];exact z,?_⟩);have hf:H1 s1.heap.objs.size=af:=a'.bo.fresh (bR _);refine⟨.ref s1.heap.objs.size,upd H1 s1.heap.objs.size (.lst xs),a'.laid (t':=s1.toks) (λb u e=>fG _ e) (bR _) ?_,I,q _ hf⟩;exact⟨z,us,0,r,fX _ I⟩
end
abbrev cx:=List V->ax->c9->lM->Prop
abbrev mg:=List Env->ax->aT->lM->ar->aT->Prop
structure pL(P:b6)(w:bX)(K:PySem.W.Frag)(ap:Str->Option ar)(base:Heap)(A:dQ)(outer:List Env)(s:aT)(H:ax):Prop where
 frames:A.frames=U outer
 mod:Mod K ap base
 bs:∀b o,base.get? b=U o->s.heap.get? b=U o/\H b=af
 pX:base.objs.size<=s.heap.objs.size
 nc:s.heap.FunFrames base outer
 sH:∀b∈oU outer,H b=af
 bo:fI P w H s.heap
 bare:xv s.gens
inductive Ih(outer:List Env)(P:b6)(w:bX)(H:ax)(s:aT)(Q:c9)(u:ar)(s':aT):Prop
 |mk (v ae) (h0:s'.os=s.os) (ag:xv s'.gens) (ai:gR (oU outer) [] H ae s.heap s'.heap) (aN:fI P w ae s'.heap) (bD:RelV v u) (cw:Q v ae)
def ace(CX:mg)(outer:List Env)(P:b6)(w:bX)(H:ax)(s:aT)(Q:c9)(E:lM)(r:xy)(s':aT):Prop:=match r with
 | .ok (.ret u)=>Ih outer P w H s Q u s'
 | .ok _=>False
 | .error e=>CX outer H s E e s'
structure a0(P:b6)(w:bX)(K:PySem.W.Frag)(ap:Str->Option ar)(base:Heap)(CX:mg)(k:Nat)(f:Addr)(fd:jd)(ps:List Str)(sp:cx):Prop where
 len:∀vs H Q E,sp vs H Q E->vs.length=ps.length
 run:∀(A:dQ)(outer:List Env)(s:aT)(H:ax)(args:Args)(us:List ar)(vs:List V)(Q:c9)(E:lM),de k A->pL P w K ap base A outer s H->Ao s fd args (ps.zip us)->bT vs us->sp vs H Q E->oD (bO P w) A (.call (.ref f) args) (ace CX outer P w H s Q E) s
theorem a0.mono{P:b6}{w:bX}{K:PySem.W.Frag}{ap:Str->Option ar}{base:Heap}{CX:mg}{j k:Nat}{f:Addr}{fd:jd}{ps:List Str}{sp:cx}(F:a0 P w K ap base CX j f fd ps sp)(h:j<=k):a0 P w K ap base CX k f fd ps sp:=⟨F.len,λA outer s H args us vs Q E aL=>F.run A outer s H args us vs Q E (aL.mono h)⟩
theorem a0.imp{P:b6}{w:bX}{K:PySem.W.Frag}{ap:Str->Option ar}{base:Heap}{CX:mg}{k:Nat}{f:Addr}{fd:jd}{ps:List Str}{sp Ye:cx}(F:a0 P w K ap base CX k f fd ps sp)(h:∀vs H Q E,Ye vs H Q E->sp vs H Q E):a0 P w K ap base CX k f fd ps Ye:=⟨λvs H Q E q=>F.len vs H Q E (h _ _ _ _ q),λA outer s H args us vs Q E aL he ak bU aP=>F.run A outer s H args us vs Q E aL he ak bU (h _ _ _ _ aP)⟩
theorem pL.make{P:b6}{w:bX}{K:PySem.W.Frag}{ap:Str->Option ar}{base:Heap}{A:dQ}{outer:List Env}{s:aT}{H:ax}(e:pL P w K ap base A outer s H)(C:Addr)(us:List ar)(kw:List (Str×ar)):pL P w K ap base (A.under (.builtin "type.__call__" ⟨.ref C::us,kw⟩)) outer s H:=⟨by first|exact e.frames|(simpa[P5,Code.envs,P9,pushEnvs]using e.frames),e.mod,e.bs,e.pX,e.nc,e.sH,e.bo,e.bare⟩
theorem pL.in1{P:b6}{w:bX}{K:PySem.W.Frag}{ap:Str->Option ar}{base:Heap}{A:dQ}{outer:List Env}{s:aT}{H:ax}(e:pL P w K ap base A outer s H):pL P w K ap base A.in1 outer s H:=⟨e.frames,e.mod,e.bs,e.pX,e.nc,e.sH,e.bo,e.bare⟩
section
variable{X:bN}{pins:List (Addr×Obj)}{σ:St}{H:ax}{s s':aT}
theorem Inv.J'(ab:Inv X pins σ H s):pL X.prog X.w X.K X.ap X.base X.A X.stack s H:=⟨ab.ok.frames,ab.ok.mod,ab.bs,b3 ab.ok.pX ab.ma,ab.stack,ab.Y9,ab.bo,ab.bare⟩
theorem Inv.after{Q:c9}{u:ar}(ab:Inv X pins σ H s)(h:Ih X.stack X.prog X.w H s Q u s'):hD X pins σ Q u s':=by obtain⟨v,ae,os,bare,un,bo,r,q⟩:=h;obtain⟨d4,g,d,t,MS⟩:=s';obtain rfl:MS=s.os:=os;exact⟨v,ae,ab.call (h':=d4) (g':=g) (d':=d) (t':=t) (ch:=[]) un bo bare (λb z=>aro z bl),r,q⟩
end
def anK(sp:cx)(ig:List V)(E:lM)(t:hp):TE:=λσ H Q=>t σ H λvs H1=>sp (vs++ig) H1 Q E
inductive asi(C:Addr)(m:Str)(sp:cx)(ig:List V)(E:lM)(t:hp)(σ:St)(Q:c9)(x:V)(H1:ax):Prop
 |mk (a aq bk) (h0:x=.ref a) (ag:H1 a=U (.ins C aq bk)) (ai:bk.lookup m=af) (aN:t σ H1 λvs az=>sp (x::(vs++ig)) az Q E)
def Zo(C:Addr)(m:Str)(sp:cx)(ig:List V)(E:lM)(bt:TE)(t:hp):TE:=λσ H Q=>bt σ H λx H1=>asi C m sp ig E t σ Q x H1
def Zn(C:Addr)(sp:cx)(ig:List V)(E:lM)(t:hp):TE:=λσ H Q=>t σ H λvs H1=>∀x aq,H1 x=af->H1 aq=af->aq≠x->sp (.ref x::(vs++ig)) (upd (upd H1 aq (.own x)) x (.ins C aq [])) (λv az=>v=.bZ/\Q (.ref x) az) E
def Binds(K:PySem.W.Frag)(fd:jd)(ps:List Str)(ds:List ar):Prop:=∀(s:aT)(us:List ar),K.In s.heap->(us++ds).length=ps.length->Ao s fd ⟨us,[]⟩ (ps.zip (us++ds))
theorem Binds.all{K:PySem.W.Frag}{fd:jd}{ps:List Str}(h:∀us:List ar,us.length=ps.length->ue fd ⟨us,[]⟩=pure (ps.zip us)):Binds K fd ps []:=λs us _ au=>by rw[iP]at au⊢;exact .of_eq (h us au)
def se(CX:mg)(X:bN)(E:lM):Prop:=∀(pins:List (Addr×Obj))(σ:St)(H:ax)(s:aT)(e:ar)(s':aT),Inv X pins σ H s->CX X.stack H s E e s'->X.d2 e s'
section
variable{X:bN}{CX:mg}{k:Nat}{f C:Addr}{fd:jd}{ps:List Str}{sp:cx}{ig:List V}{ds:List ar}{E:lM}{x m:Str}{p pos apos:Pos}{e o:Expr}{es:List Expr}{bt:TE}{t:hp}
theorem Nc{pins:List (Addr×Obj)}{σ:St}{H:ax}{s:aT}{Q:c9}{us:List ar}{vs:List V}(F:a0 X.prog X.w X.K X.ap X.base CX k f fd ps sp)(aL:de k X.A)(ak:Binds X.K fd ps ds)(hd:bT ig ds)(ao:se CX X E)(ab:Inv X pins σ H s)(r:bT vs us)(h:sp (vs++ig) H Q E):bp (bO X.prog X.w) X.A (call (.ref f) us) (hD X pins σ Q) X.d2 s:=by
 have cS:bT (vs++ig) (us++ds):=r.append hd;have au:(us++ds).length=ps.length:=by rw[<-cS.length];exact F.len _ _ _ _ h
 refine DB (xA (F.run X.A X.stack s H ⟨us,[]⟩ (us++ds) (vs++ig) Q E aL ab.J' (ak s us ab.jW au) cS h) λr s' aK=>?_);cases r with
 |error e=>exact ao pins σ H s e s' ab aK
 |ok lS=>
  cases lS with
  |ret u=>exact ab.after aK
  |next=>exact iD aK
  |brk=>exact iD aK
  |cont=>exact iD aK
theorem c2(F:a0 X.prog X.w X.K X.ap X.base CX k f fd ps sp)(aL:de k X.A)(bM:lI X x)(hm:X.ap x=U (.ref f))(aH:PySem.W.keepIn X.K (.ref f)=ah)(ak:Binds X.K fd ps ds)(hd:bT ig ds)(ao:se CX X E)(ay:lc X (e::es) t)(rg:(x==("__debug__":Str))=aE:=by decide)(he:eO (e::es) X.env=(aE,c' e X.env)::eO es X.env:=by rfl)(f5:(jC pos (eO es X.env)).any (·.1)=aE:=by rfl):bC X (.Call (.Name x p) (e::es) [] pos) (anK sp ig E t):=by intro pins s σ H Q ab h;refine wpAny_Call_Name_kw (FC ab bM hm ?_ rg);refine PySem.W.callWith_K (h₀:=X.base) ab.ok.mod.Cd aH (b2 (ay pos pins s σ H _ ab h) λus s1⟨vs,H1,a',r,q⟩=>⟨a'.jW,?_⟩) he f5;exact Nc F aL ak hd ao a' r q
theorem kC{pl:Sem Bool}(he:bC X o bt)(c:j_ X.K C)(hm:hF X.K C m f)(F:a0 X.prog X.w X.K X.ap X.base CX k f fd ps sp)(aL:de k X.A)(ak:Binds X.K fd ps ds)(hd:bT ig ds)(ao:se CX X E)(ay:lc X (e::es) t)(lZ:eO (e::es) X.env=(aE,c' e X.env)::eO es X.env:=by rfl)(f5:(jC pos (eO es X.env)).any (·.1)=aE:=by rfl)(bV:c' (.Call (.Attribute o m apos) (e::es) [] pos) X.env=(do
 let h2<-c' o X.env
 HW apos.atName
 let(f,first)<-oE [h2] (HS h2 m pl)
 Qm pos f first (jC pos (eO (e::es) X.env)) (Dv pos (Dy [] X.env))):=by rfl):
 bC X (.Call (.Attribute o m apos) (e::es) [] pos) (Zo C m sp ig E bt t):=by
 intro pins s σ H Q ab h
 refine PySem.W.methodCall_KW (pl:=pl) (b2 (he pins s σ H _ ab h) λu s1⟨x,H1,a',bq,a,aq,bk,ex,kg,l,q⟩=>?_) bV
 subst ex
 obtain rfl:u=eZ a:=bq
 refine Ua a' kg c hm l ?_
 refine PySem.W.callWith_K (first:=[.ref a]) (h₀:=X.base) ab.ok.mod.Cd hm.bJ (b2 (ay pos pins s1 σ H1 _ a' q) λus s2⟨vs,az,b7,r,bc⟩=>⟨b7.jW,?_⟩) lZ f5
 exact Nc (us:=.ref a::us) (vs:=.ref a::vs) F aL ak hd ao b7 (.cons I r) bc
theorem hl{pl:Sem Bool}(he:bC X o bt)(c:j_ X.K C)(hm:hF X.K C m f)(F:a0 X.prog X.w X.K X.ap X.base CX k f fd ps sp)(aL:de k X.A)(ak:Binds X.K fd ps ds)(hd:bT ig ds)(ao:se CX X E)(bV:c' (.Call (.Attribute o m apos) [] [] pos) X.env=(do
 let h2<-c' o X.env
 HW apos.atName
 let(f,first)<-oE [h2] (HS h2 m pl)
 Qm pos f first (jC pos (eO [] X.env)) (Dv pos (Dy [] X.env))):=by rfl):
 bC X (.Call (.Attribute o m apos) [] [] pos) (Zo C m sp ig E bt Pn):=by
 intro pins s σ H Q ab h
 refine PySem.W.methodCall_KW (pl:=pl) (b2 (he pins s σ H _ ab h) λu s1⟨x,H1,a',bq,a,aq,bk,ex,kg,l,q⟩=>?_) bV
 subst ex
 obtain rfl:u=eZ a:=bq
 refine Ua a' kg c hm l ?_
 exact PySem.W.callWith_K0 (first:=[.ref a]) a'.jW hm.bJ (Nc (us:=[.ref a]) (vs:=[.ref a]) F aL ak hd ao a' (.cons I .nil) q)
structure pM(K:PySem.W.Frag)(C f:Addr):Prop where
 makes:PySem.W.makesIn K C=ah
 init:PySem.W.findIn K (.ref C) "__init__"=U (U (.ref f))
 fn:PySem.W.isFn K (.ref f)=ah
 bJ:PySem.W.keepIn K (.ref C)=ah
theorem XO{pins:List (Addr×Obj)}{σ:St}{H:ax}{s:aT}{Q:c9}{us:List ar}{vs:List V}(M:pM X.K C f)(F:a0 X.prog X.w X.K X.ap X.base CX k f fd ps sp)(aL:de (k+1) X.A)(ak:Binds X.K fd ps ds)(hd:bT ig ds)(ao:se CX X E)(ab:Inv X pins σ H s)(r:bT vs us)(h:∀x aq,H x=af->H aq=af->aq≠x->sp (.ref x::(vs++ig)) (upd (upd H aq (.own x)) x (.ins C aq [])) (λv az=>v=.bZ/\Q (.ref x) az) E):bp (bO X.prog X.w) X.A (call (.ref C) us) (hD X pins σ Q) X.d2 s:=by
 have aK:=h (s.heap.objs.size+1) s.heap.objs.size (ab.bo.fresh (Di _)) (ab.bo.fresh (bR _)) (hS (t9 _));have b7:=Inv.made (C:=C) ab;have cS:bT (V.ref (s.heap.objs.size+1)::(vs++ig)) (eZ (s.heap.objs.size+1)::(us++ds)):=.cons I (r.append hd);have au:(eZ (s.heap.objs.size+1)::us++ds).length=ps.length:=by have e:=cS.length;rw[F.len _ _ _ _ aK]at e;exact e.symm
 refine DB (aja (f:=f) ab.jW M.makes M.init (beq_iff_eq.mp M.fn) (xA (F.run _ X.stack _ _ ⟨eZ (s.heap.objs.size+1)::us,[]⟩ (eZ (s.heap.objs.size+1)::(us++ds)) _ _ E (aL.make C us []) (b7.J'.make C us []) (ak _ (eZ (s.heap.objs.size+1)::us) b7.jW au) cS aK) λr s' s7=>?_));cases r with
 |error e=>exact ao pins σ _ _ e s' b7 s7
 |ok lS=>
  cases lS with
  |ret u=>obtain⟨v,ae,eP,di,ev,c_⟩:=b7.after s7;subst ev;exact⟨di,⟨V.ref (s.heap.objs.size+1),ae,eP,I,c_⟩⟩
  |next=>exact iD s7
  |brk=>exact iD s7
  |cont=>exact iD s7
theorem wY(M:pM X.K C f)(F:a0 X.prog X.w X.K X.ap X.base CX k f fd ps sp)(aL:de (k+1) X.A)(bM:lI X x)(hm:X.ap x=U (.ref C))(ak:Binds X.K fd ps ds)(hd:bT ig ds)(ao:se CX X E)(ay:lc X (e::es) t)(rg:(x==("__debug__":Str))=aE:=by decide)(he:eO (e::es) X.env=(aE,c' e X.env)::eO es X.env:=by rfl)(f5:(jC pos (eO es X.env)).any (·.1)=aE:=by rfl):bC X (.Call (.Name x p) (e::es) [] pos) (Zn C sp ig E t):=by intro pins s σ H Q ab h;refine wpAny_Call_Name_kw (FC ab bM hm ?_ rg);refine PySem.W.callWith_K (h₀:=X.base) ab.ok.mod.Cd M.bJ (b2 (ay pos pins s σ H _ ab h) λus s1⟨vs,H1,a',r,q⟩=>⟨a'.jW,?_⟩) he f5;exact XO M F aL ak hd ao a' r q
theorem W0(M:pM X.K C f)(F:a0 X.prog X.w X.K X.ap X.base CX k f fd ps sp)(aL:de (k+1) X.A)(bM:lI X x)(hm:X.ap x=U (.ref C))(ak:Binds X.K fd ps ds)(hd:bT ig ds)(ao:se CX X E)(rg:(x==("__debug__":Str))=aE:=by decide):bC X (.Call (.Name x p) [] [] pos) (Zn C sp ig E Pn):=by intro pins s σ H Q ab h;refine wpAny_Call_Name_kw (FC ab bM hm ?_ rg);exact PySem.W.callWith_K0 ab.jW M.bJ (XO (us:=[]) M F aL ak hd ao ab .nil h)
end
section
variable{X:bN}{CX:mg}{k:Nat}{f C:Addr}{fd:jd}{ps ks:List Str}{sp:cx}{E:lM}{x m:Str}{p pos apos VC:Pos}{e o:Expr}{es:List Expr}{aqW:List xx}{te bt:TE}{t tk:hp}{nm:Option Str}
variable{g:List ar->List ar->List ar}{aqq:List V->List V->List V}
end
structure cR(N P:List Str)(sc:Scope):Prop where
 kind:sc.kind=.function
 adv:sc.isCoroutine=aE
 gen:sc.isGenerator=aE
 ba:N.Nodup
 pre:N.take P.length=P
 par:∀x∈P,sc.names.lookup x=U .local\/sc.names.lookup x=U .cell
 ajZ:∀y∈sc.names,y.2≠.free
theorem Ro{kindOf:Str->Option lD}{x:Str}:∀{binds:List (Str×ar)}{m:Str->Option ar},(∀v,(x,v)∉binds)->ug kindOf binds m x=m x
 |[],_,_=>rfl
 |(n,v)::r,m,h=>by
  unfold ug;rw[Ro λw hw=>h w (j7 _ hw)];split
  ·have:x≠n:=by rintro rfl;exact h v mT
   simp[this]
  ·rfl
theorem Rm{kindOf:Str->Option lD}{x:Str}:∀{binds:List (Str×ar)}{m:Str->Option ar},(∀v,(x,v)∉binds)->uf kindOf binds m x=m x
 |[],_,_=>rfl
 |(n,v)::r,m,h=>by
  unfold uf;rw[Rm λw hw=>h w (j7 _ hw)];split
  ·rfl
  ·have:x≠n:=by rintro rfl;exact h v mT
   simp[this]
theorem Rn{kindOf:Str->Option lD}{x:Str}{v:ar}:∀{P:List Str}{vs:List ar}{i:Nat}{m:Str->Option ar},P.Nodup->P[i]? =U x->vs[i]? =U v->kindOf x=U .local->ug kindOf (P.zip vs) m x=U v
 |[],_,_,_,_,h,_,_=>by simp at h
 |_::_,[],_,_,_,_,h,_=>by simp at h
 |p::P,w::vs,0,m,ba,ag,ai,aH=>by simp at ag ai;subst ag;subst ai;show ug kindOf ((p,w)::P.zip vs) m p=_;unfold ug;rw[Ro λv bU=>(hz.mp ba).1 (Hx bU).1,art aH];simp
 |p::P,w::vs,i+1,m,ba,ag,ai,aH=>by show ug kindOf ((p,w)::P.zip vs) m x=_;unfold ug;exact Rn (i:=i) (hz.mp ba).2 (by simpa using ag) (by simpa using ai) aH
theorem Rl{kindOf:Str->Option lD}{x:Str}{v:ar}:∀{P:List Str}{vs:List ar}{i:Nat}{m:Str->Option ar},P.Nodup->P[i]? =U x->vs[i]? =U v->kindOf x≠U .local->uf kindOf (P.zip vs) m x=U v
 |[],_,_,_,_,h,_,_=>by simp at h
 |_::_,[],_,_,_,_,h,_=>by simp at h
 |p::P,w::vs,0,m,ba,ag,ai,aH=>by simp at ag ai;subst ag;subst ai;show uf kindOf ((p,w)::P.zip vs) m p=_;unfold uf;rw[Rm λv bU=>(hz.mp ba).1 (Hx bU).1,ars aH];simp
 |p::P,w::vs,i+1,m,ba,ag,ai,aH=>by show uf kindOf ((p,w)::P.zip vs) m x=_;unfold uf;exact Rl (i:=i) (hz.mp ba).2 (by simpa using ag) (by simpa using ai) aH
def start(N:List Str)(vs:List V):St:=vs.map U++PV (N.length-vs.length) af
def x9(CX:mg)(P:b6)(w:bX)(K:PySem.W.Frag)(ap:Str->Option ar)(base:Heap)(N:List Str)(qual:Str)(scope:Scope)(f:Addr)(cd:ar)(A:dQ)(outer:List Env)(s:aT)(H:ax)(E:lM):bN where
 prog:=P
 w:=w
 K:=K
 ap:=ap
 base:=base
 A:=A.deeper (qK qual scope s.heap.objs.size f cd)
 N:=N
 jv:=s
 uG:=H
 env:=qK qual scope s.heap.objs.size f cd
 outer:=outer
 stack:=qK qual scope s.heap.objs.size f cd::outer
 ex:=[]
 calm:=true
 fn:=λ_=>ah
 cm:=[]
 d2:=λe s'=>bp (bO P w) (A.deeper (qK qual scope s.heap.objs.size f cd)) (leaving (qK qual scope s.heap.objs.size f cd) e) (λ_ Nd=>CX outer H s E e Nd) (λe' Nd=>CX outer H s E e' Nd) s'
theorem RD{sc:Scope}{n:Nat}{x:Str}(h:sc.names.lookup x=U .cell):∃c,(je n sc.names []).lookup x=U c:=by have q:=PySem.W.cellsFrom_some sc.names n [] (.inl h);exact aaE.mp q
theorem aih{CX:mg}{P:b6}{w:bX}{K:PySem.W.Frag}{ap:Str->Option ar}{base:Heap}{N ps:List Str}{qual:Str}{scope:Scope}{f:Addr}{cd:ar}{A:dQ}{outer:List Env}{s s1:aT}{H:ax}{E:lM}{us:List ar}{vs:List V}(S:cR N ps scope)(hd:A.handled=af)(cZ:pL P w K ap base A outer s H)(au:vs.length=ps.length)(r:bT vs us)(x:InCallC s s.heap.objs.size (ug (qK qual scope s.heap.objs.size f cd).kindOf (ps.zip us) λ_=>af) (je (s.heap.objs.size+1) scope.names []) (uf (qK qual scope s.heap.objs.size f cd).kindOf (ps.zip us) λ_=>af) s1):Inv (x9 CX P w K ap base N qual scope f cd A outer s H E) [] (start N vs) H s1:=by
 have f5:ps.length<=N.length:=by have:=congrArg Ag S.pre;rw[fo]at this;omega
 obtain⟨ag,tk,rfl,aH⟩:=x.done;have zJ:∀b:Addr,b∉(x9 CX P w K ap base N qual scope f cd A outer s H E).ex:=λb z=>aro (show b∈([]:List Addr)from z) bl;refine⟨⟨cZ.mod,S.kind,I,I,bR _,λy z c ag ai=>?_,λy a_=>?_,λy c _ h=>?_,λ_=>hd,Around.frames_deeper cZ.frames,.inr ⟨I,I⟩,λb z=>aro z (zJ b),cZ.bs,cZ.pX,λb _ _=>zJ b,λb z=>aro z (zJ b),cZ.nc,cZ.sH⟩,rfl,cZ.bare,gR.kept aH,⟨_,x.toInCall.ns,λi y v ag ai aN=>?_⟩,λy c h=>⟨_,x.cell y c h⟩,cZ.bo.fresh (bR _),λy c h=>?_,λp aO=>aro (show p∈([]:List (Addr×Obj))from aO) bl,cZ.bo.kept aH,?_⟩
 ·exact name_of_addr x.apart (PySem.mem_of_lookup ag) (PySem.mem_of_lookup ai)
 ·have a_:scope.names.lookup y=U .cell\/scope.names.lookup y=U .free:=a_;rcases a_ with a_|a_
  ·exact RD a_
  ·exact aro I (S.ajZ _ (PySem.mem_of_lookup a_))
 ·exact kN (x.above y c (PySem.mem_of_lookup h))
 ·have av:i<vs.length:=by
   unfold start at ai;by_cases av:i<vs.length
   ·exact av
   ·rw[mS (by simpa using av)]at ai;rw[List.getElem?_replicate]at ai;split at ai<;>cases ai
  have ay:vs[i]? =U v:=by
   unfold start at ai;rw[pA (by simpa using av),dI]at ai;cases e:vs[i]? with
   |none=>rw[e]at ai;cases ai
   |some a=>rw[e]at ai;cases ai;rfl
  obtain⟨u,a4,di⟩:=r.get ay;have aO:ps[i]? =U y:=by rw[<-S.pre,Df aG];exact ag
  have Wd:ps.Nodup:=by rw[<-S.pre];exact S.ba.sublist (Hz _ _)
  refine⟨u,di,?_⟩;rcases S.par y (eN aO)with k|k
  ·exact .inl ⟨k,Rn Wd aO a4 k⟩
  ·obtain⟨c,e⟩:=RD (n:=s.heap.objs.size+1) k;refine .inr ⟨.inl k,c,e,?_⟩;have q:=x.cell y c e;rw[Rl Wd aO a4 (by show scope.names.lookup y≠_;rw[k];decide)]at q;exact q
 ·exact cZ.bo.fresh (kN (x.above y c (PySem.mem_of_lookup h)))
 ·unfold start;show _=N.length;rw[cA,aU,aaq];omega
theorem aeG{CX:mg}{P:b6}{w:bX}{K:PySem.W.Frag}{ap:Str->Option ar}{base:Heap}{k:Nat}{f:Addr}{name qual:Str}{params:Arguments}{body:List Stmt}{scope:Scope}{JW cc doc pm b9 dC l9:ar}{an cO:Option Addr}{tz:Array (Option ar)}{N ps:List Str}{sp:cx}(lk:K.lookup f=U ⟨l9,cO,.func (PySem.W.fnOf name qual params body scope JW cc doc pm an b9 dC),tz⟩)(p7:PySem.W.codeIn K b9 qual=ah)(S:cR N ps scope)(len:∀vs H Q E,sp vs H Q E->vs.length=ps.length)(KV:∀(A:dQ)(outer:List Env)(s:aT)(H:ax)(vs:List V)(Q:c9)(E:lM),de k (A.deeper (qK qual scope s.heap.objs.size f b9))->sp vs H Q E->∃t,m3 (x9 CX P w K ap base N qual scope f b9 A outer s H E) body t/\t {cN:=λ_ ae=>Q .bZ ae,zU:=Q} (start N vs) H):a0 P w K ap base CX (k+1) f (PySem.W.fnOf name qual params body scope JW cc doc pm an b9 dC) ps sp:=by
 refine⟨len,λA outer s H args us vs Q E aL cZ ak r mB=>?_⟩;have au:=len _ _ _ _ mB;have fJ:K.In s.heap:=cZ.mod.Cd.keeps λb o e=>(cZ.bs b o e).1;have lim:s.heap.NoLimit:=cZ.mod.nolimit.keeps λb o e=>(cZ.bs b o e).1;have agQ:∀y∈ps.zip us,scope.names.lookup y.1=U .local\/(scope.names.lookup y.1=U .cell/\((je (s.heap.objs.size+1) scope.names []).lookup y.1).isSome=ah):=λ⟨n,v⟩a_=>by
  rcases S.par n (Hx a_).1 with q|q
  ·exact .inl q
  ·exact .inr ⟨q,PySem.W.cellsFrom_some _ _ _ (.inl q)⟩
 refine codeAny_call_function aL.depth (fJ _ _ lk) I S.adv S.gen I (PySem.W.codeRec_of fJ p7) (ak _ _ _ _ ?_);refine wpAny_newFunctionEnv_cells S.kind agQ λenv he s1 x=>?_;subst he;refine⟨lim.keeps x.toInCall.keep,codeAny_func ?_⟩;obtain⟨t,bV,aK⟩:=KV A outer s H vs Q E (aL.deeper _) mB;have ab:Inv (x9 CX P w K ap base N qual scope f b9 A outer s H E) [] (start N vs) H s1:=aih S aL.hd cZ au r x;refine lF (bV [] s1 (start N vs) H _ ab aK) (λlS s' aP=>?_) λe s' aP=>aP;have fin:∀{cj:St}{ae:ax}{v:V}{u:ar},Inv (x9 CX P w K ap base N qual scope f b9 A outer s H E) [] cj ae s'->RelV v u->Q v ae->Ih outer P w H s Q u s':=λ{cj ae v u}J di q=>⟨v,ae,J.os,J.bare,J.base,J.bo,di,q⟩;cases lS with
 |ret u=>obtain⟨v,cj,ae,J,di,q⟩:=aP;exact fin J di q
 |next=>obtain⟨cj,ae,J,q⟩:=aP;exact fin (v:=V.bZ) (u:=r0) J I q
 |brk=>obtain⟨_,_,_,q⟩:=aP;exact iD q
 |cont=>obtain⟨_,_,_,q⟩:=aP;exact iD q
section
variable{X:bN}{x:Str}{p pos:Pos}{e:Expr}{es:List Expr}{t:hp}{id T:String}{r:List V->ax->c9->Prop}
def Zl(r:List V->ax->c9->Prop)(t:hp):TE:=λσ H Q=>t σ H λvs H1=>r vs H1 Q
theorem c4(aF:iE X (.builtin id) r)(bM:lI X x)(hm:X.ap x=af)(bU:jD x=U (.builtin id))(ay:lc X (e::es) t)(aC:x≠"__name__":=by decide)(rg:(x==("__debug__":Str))=aE:=by decide)(he:eO (e::es) X.env=(aE,c' e X.env)::eO es X.env:=by rfl)(f5:(jC pos (eO es X.env)).any (·.1)=aE:=by rfl):bC X (.Call (.Name x p) (e::es) [] pos) (Zl r t):=by intro pins s σ H Q ab h;refine wpAny_Call_Name_kw (ti ab bM hm bU ?_ aC rg);exact apn (b2 (ay pos pins s σ H _ ab h) λus s1⟨vs,H1,a',bK,a7⟩=>aF pins s1 σ H1 vs us Q a' bK a7) he f5
theorem i5(aF:iE X (.type T) r)(bM:lI X x)(hm:X.ap x=af)(bU:jD x=U (.type T))(ay:lc X (e::es) t)(aC:x≠"__name__":=by decide)(rg:(x==("__debug__":Str))=aE:=by decide)(he:eO (e::es) X.env=(aE,c' e X.env)::eO es X.env:=by rfl)(f5:(jC pos (eO es X.env)).any (·.1)=aE:=by rfl):bC X (.Call (.Name x p) (e::es) [] pos) (Zl r t):=by intro pins s σ H Q ab h;refine wpAny_Call_Name_kw (ti ab bM hm bU ?_ aC rg);exact An (b2 (ay pos pins s σ H _ ab h) λus s1⟨vs,H1,a',bK,a7⟩=>aF pins s1 σ H1 vs us Q a' bK a7) he f5
end
end bL
namespace cG
open PySem PyProof.Rows
def lexLt:List Int->List Int->Bool
 |[],[]=>aE
 |[],_::_=>ah
 |_::_,[]=>aE
 |x::xs,y::ys=>if x=y then lexLt xs ys else decide (x<y)
theorem VO(x y:Int)(xs ys:List Int):lexLt (x::xs) (y::ys)=if x=y then lexLt xs ys else decide (x<y):=rfl
theorem aep(A:dQ)(s:aT)(a:Int)(t:Tok)(c:Int)(u:Tok):∃e,Qg A s (.int a t) (.int c u) e/\(e=ah↔a=c):=⟨(a==c),abf a t c u,bl⟩
theorem amg(A:dQ)(s:aT)(a:Int)(t:Tok)(c:Int)(u:Tok)(prog:b6)(w:bX)(E:ar->aT->Prop)(Q:ar->aT->Prop)(h:Q (.bool (decide (a<c))) s):bp (bO prog w) A (Qu .Lt (.int a t) (.int c u)) Q E s:=(aaL h:bp (bO prog w) A (jf .Lt (.int a t) (.int c u)) Q E s)
section
open PySem.SeqAt
open PySem.AutoSeq1 (wpAny_loadPart')
open PySem.MeetsSeq PySem.MeetsSeq2 PySem.MeetsSeq3
end
section
variable{prog:b6}{w:bX}{A:dQ}{E:ar->aT->Prop}{s:aT}
def dM(n d:Nat):Option Int->Nat
 |none=>d
 |some v=>if v<0 then(v+(n:Int)).toNat else min v.toNat n
theorem CE(n d:Nat):dM n d af=d:=rfl
theorem oo(n d k:Nat):dM n d (U (k:Int))=min k n:=by show(if(k:Int)<0 then((k:Int)+(n:Int)).toNat else min (k:Int).toNat n)=min k n;rw[ars aG,Hk]
theorem XX(n d:Nat)(hd:d<=n)(o:Option Int):dM n d o<=n:=by
 cases o with
 |none=>exact hd
 |some v=>
  show(if v<0 then(v+(n:Int)).toNat else min v.toNat n)<=n;by_cases bU:v<0
  ·rw[art bU];omega
  ·rw[ars bU];exact Nat.min_le_right _ _
end
end cG
namespace bL
open PySem PySem.Spec PyProof.Rows
abbrev fR:=St->ax->(Option Int->ax->Prop)->Prop
def DX(X:bN)(e:Option Expr)(t:fR):Prop:=∀(pins:List (Addr×Obj))(s:aT)(σ:St)(H:ax)(Q:Option Int->ax->Prop),Inv X pins σ H s->t σ H Q->bp (bO X.prog X.w) X.A (evalPart e X.env) (λu s'=>∃o ae,Inv X pins σ ae s'/\IsPart u o/\Q o ae) X.d2 s
def an6:fR:=λ_ H Q=>Q af H
inductive asn(Q:Option Int->ax->Prop)(x:V)(H1:ax):Prop
 |mk (i) (h0:x=.int i) (ag:Q (U i) H1)
def Po(t:TE):fR:=λσ H Q=>t σ H λx H1=>asn Q x H1
theorem intsAre_of{ns:List Int}:∀{us:List ar},bT (ns.map V.int) us->oA us ns:=by
 induction ns with
 |nil=>intro us r;rw[t5]at r;cases r;exact .nil
 |cons n ns ih=>
  intro us r;rw[dO]at r;cases r with
  |cons bK cS=>obtain⟨t,e⟩:=bK;subst e;exact .cons n t (ih cS)
section
variable{X:bN}{e:Expr}{te:TE}{lo av:Option Expr}{a6 G2:fR}{pos dc:Pos}
theorem zT:DX X af an6:=by intro pins s σ H Q ab h;rw[abu];exact cD ⟨af,H,ab,.none,h⟩
theorem ly(h:bC X e te):DX X (U e) (Po te):=by intro pins s σ H Q ab hw;rw[evalPart_some];refine b2 (h pins s σ H _ ab hw) λu s1⟨x,H1,a',bK,a7⟩=>?_;obtain⟨i,rfl,q⟩:=a7;obtain⟨t,rfl⟩:=bK;exact⟨U i,H1,a',.int i t,q⟩
def Jh(X:bN)(r:V->Option Int->Option Int->ax->c9->Prop):Prop:=∀(pins:List (Addr×Obj))(s:aT)(σ:St)(H:ax)(x:V)(v rL rM:ar)(lo av:Option Int)(hP:Addr)(Q:c9),Inv X pins σ H s->RelV x v->s.heap.IsSliceOf hP rL rM .none->IsPart rL lo->IsPart rM av->r x lo av H Q->∃T id,HY (.type T) "__getitem__"=pure (U (.builtin id))/\s.TypeIs v T/\bp (bO X.prog X.w) X.A (Ax v (.ref hP)) (hD X pins σ Q) X.d2 s
def Zr(r:V->Option Int->Option Int->ax->c9->Prop)(te:TE)(a6 G2:fR):TE:=λσ H Q=>te σ H λx H1=>a6 σ H1 λl az=>G2 σ az λu aZ=>r x l u aZ Q
theorem pf{r:V->Option Int->Option Int->ax->c9->Prop}(aL:Jh X r)(he:bC X e te)(au:DX X lo a6)(a4:DX X av G2):bC X (.Subscript e (.Slice lo av af dc) pos) (Zr r te a6 G2):=by intro pins s σ H Q ab h;refine Subscript_ (b2 (he pins s σ H _ ab h) λv s1⟨x,H1,a',bK,a7⟩=>?_);refine wpAny_Slice (b2 (au pins s1 σ H1 _ a' a7) λrL s2⟨l,az,b7,pl,bc⟩=>b2 (a4 pins s2 σ az _ b7 bc) λrM s3⟨u,aZ,eP,dk,c_⟩=>?_);rw[abu];refine cD ?_;have jL:Inv X pins σ aZ {s3 with heap:=s3.heap.push {cls:=.type "slice",data:=.fields #[rL,rM,.none]}}:=eP.kept (t':=s3.toks) λb ob q=>fG _ q;obtain⟨T,id,ey,bV,bM⟩:=aL pins {s3 with heap:=s3.heap.push {cls:=.type "slice",data:=.fields #[rL,rM,.none]}} σ aZ x v rL rM l u s3.heap.objs.size Q jL bK (apF ..) pl dk c_;show bp (bO X.prog X.w) X.A (P4 e (.Slice lo av af dc) v (.ref s3.heap.objs.size)) (hD X pins σ Q) X.d2 {s3 with heap:=s3.heap.push {cls:=.type "slice",data:=.fields #[rL,rM,.none]}};exact tail_any (ops:=[.ref s3.heap.objs.size,v]) bV ey bM me
def iJ(xs:List V)(lo av:Option Int):List V:=(xs.drop (cG.dM xs.length 0 lo)).take (cG.dM xs.length xs.length av-cG.dM xs.length 0 lo)
theorem adG(xs:List V)(lo av:Option Int):(iJ xs lo av).length<=xs.length:=by unfold iJ;rw[fo,j3];omega
end
def tc(n:Nat)(i:Int):Option Nat:=if 0<=i then(if i<n then U i.toNat else af)else if-(n:Int)<=i then U (i+n).toNat else af
def pU{α:Type}(xs:List α)(i:Int):Option α:=(tc xs.length i).bind λj=>xs[j]?
theorem aiq{n:Nat}{i:Int}{j:Nat}(h:tc n i=U j):seqIndex? i n=U j/\j<n/\-(n:Int)<=i/\i<n:=by
 unfold tc at h;by_cases h0:0<=i
 ·rw[art h0]at h;by_cases ag:i<n
  ·rw[art ag]at h;have e:i.toNat=j:=bS h;exact⟨by rw[seqIndex_of h0 ag,e],aG,aG,ag⟩
  ·rw[ars ag]at h;cases h
 ·rw[ars h0]at h;by_cases ag:-(n:Int)<=i
  ·rw[art ag]at h;have e:(i+n).toNat=j:=bS h;exact⟨by rw[seqIndex_neg aG ag,e],aG,ag,aG⟩
  ·rw[ars ag]at h;cases h
theorem Jm{α:Type}{xs:List α}{i:Int}{v:α}(h:pU xs i=U v):∃j,seqIndex? i xs.length=U j/\xs[j]? =U v/\j<xs.length/\-(xs.length:Int)<=i/\i<xs.length:=by
 unfold pU at h;cases e:tc xs.length i with
 |none=>rw[e]at h;cases h
 |some j=>rw[e]at h;obtain⟨ag,ai,aN,bD⟩:=aiq e;exact⟨j,ag,h,ai,aN,bD⟩
theorem eI{α:Type}{xs:List α}{j:Nat}{v:α}(h:xs[j]? =U v):pU xs (j:Int)=U v:=by
 have bw:j<xs.length:=(ej.mp h).1;have e:tc xs.length (j:Int)=U j:=by unfold tc;rw[art aG,art aG];simp
 unfold pU;rw[e];exact h
theorem acY{α:Type}(xs:List α)(v:α):pU (xs++[v]) (-1)=U v:=by
 have au:(xs++[v]).length=xs.length+1:=bl;have e:tc (xs++[v]).length (-1)=U xs.length:=by unfold tc;rw[au,ars a5,art aG];congr 1;omega
 unfold pU;rw[e];show(xs++[v])[xs.length]? =U v;simp
def acE(b:Expr):Prop:=∀o i,HX b aE o i=Qs [o,i] (Ax o i)
def DS(X:bN)(r:jN):Prop:=∀(value slice:Expr)(pins:List (Addr×Obj))(s:aT)(σ:St)(H:ax)(x y:V)(v u:ar)(Q:c9),Inv X pins σ H s->RelV x v->RelV y u->r x y H Q->HX slice aE v u=Qs [v,u] (Ax v u)->bp (bO X.prog X.w) X.A (P4 value slice v u) (hD X pins σ Q) X.d2 s
def sb(X:bN)(id:String)(r:V->List V->ax->c9->Prop):Prop:=∀(pins:List (Addr×Obj))(s:aT)(σ:St)(H:ax)(x:V)(xs:List V)(v:ar)(us:List ar)(Q:c9),Inv X pins σ H s->RelV x v->bT xs us->r x xs H Q->bp (bO X.prog X.w) X.A (call (.builtin id) (v::us)) (hD X pins σ Q) X.d2 s
section
variable{X:bN}{a b:Expr}{bt cT:TE}{pos:Pos}
theorem eo{r:jN}(aL:DS X r)(ay:bC X a bt)(ak:bC X b cT)(aP:acE b):bC X (.Subscript a b pos) (CZ r bt cT):=by intro pins s σ H Q ab h;exact Subscript_ (Jy ay ak ab h λv u s2 x y az b7 bq bP q=>aL a b pins s2 σ az x y v u Q b7 bq bP q (aP _ _))
inductive Xt(K:PySem.W.Frag)(x:V)(y:V)(H:ax)(Q:c9):Prop
 |mk (p xs i v) (h0:x=.ref p) (ag:y=.int i) (ai:aI K H p xs) (aN:pU xs i=U v) (bD:Q v H)
inductive al7(K:PySem.W.Frag)(x:V)(y:V)(H:ax)(Q:c9):Prop
 |mk (p xs i v) (h0:x=.ref p) (ag:y=.int i) (ai:eQ K H p xs) (aN:pU xs i=U v) (bD:Q v H)
inductive al6(x:V)(y:V)(H:ax)(Q:c9):Prop
 |mk (z i c) (h0:x=.str z) (ag:y=.int i) (ai:z.length<=sizeLine) (aN:pU z.cps.toList i=U c) (bD:Q (.str ⟨#[c]⟩) H)
theorem gi:DS X (Xt X.K):=by
 intro value slice pins s σ H x y v u Q ab bq bP h aP;obtain⟨p,xs,i,z,rfl,rfl,aK,he,q⟩:=h;cases bq;obtain⟨t,rfl⟩:=bP;obtain⟨its,r,pl,a9⟩:=ab.list aK;obtain⟨j,ag,ai,aN,bD,cw⟩:=Jm he;obtain⟨w,y6,nD⟩:=r.get ai;have au:=r.length;have aC:=zz;have fin:hD X pins σ Q w s:=⟨z,H,ab,nD,q⟩;by_cases h0:0<=i
 ·have bw:i.toNat=j:=by rw[seqIndex_of h0 cw]at ag;exact bS ag
  exact item_listR pl.isList h0 aG (by rw[bw];simpa using y6) fin aP
 ·have bw:(i+(its.toArray.size:Int)).toNat=j:=by rw[seqIndex_neg aG bD]at ag;rw[fO,<-au];exact bS ag
  exact aaM (x:=w) pl.isList.typeIs abF.lookup (wpAny_getItem_list_neg (Q:=λr s'=>r=w/\hD X pins σ Q r s') pl.isList aG (by rw[fO]<;>omega) aG (by rw[bw];simpa using y6) ⟨I,fin⟩) aP
theorem o9:DS X (al7 X.K):=by intro value slice pins s σ H x y v u Q ab bq bP h aP;obtain⟨p,xs,i,z,rfl,rfl,aK,he,q⟩:=h;cases bq;obtain⟨t,rfl⟩:=bP;obtain⟨its,r,pl,a9⟩:=ab.tuple aK;obtain⟨j,ag,ai,aN,bD,cw⟩:=Jm he;obtain⟨w,y6,nD⟩:=r.get ai;have au:=r.length;have aC:=zz;have fin:hD X pins σ Q w s:=⟨z,H,ab,nD,q⟩;exact aaM (x:=w) pl.typeIs slot_tuple_getitem.lookup (getItem_tuple (j:=j) (Q:=λr s'=>r=w/\hD X pins σ Q r s') pl aG aG (by rw[fO,<-au];exact ag) (by simpa using y6) ⟨I,fin⟩) aP
theorem Fn:DS X al6:=by
 intro value slice pins s σ H x y v u Q ab bq bP h aP;obtain⟨z,i,c,rfl,rfl,a9,he,q⟩:=h;obtain⟨t,rfl⟩:=bq;obtain⟨t',rfl⟩:=bP;obtain⟨j,ag,ai,aN,bD,cw⟩:=Jm he;have au:z.cps.toList.length=z.length:=by simp[Qj]
 rw[au]at ag bD cw;have aC:=zz;exact tail_any (xD s z t) slot_str_getitem.lookup (getItem_str (c:=c) (by have aS:decide (i< -(2^63:Int))=aE:=arp aG;have aQ:decide (i>=2^63)=aE:=arp aG;rw[aS,aQ,Hi]) (by rw[ag];simpa using ai) ⟨.str ⟨#[c]⟩,H,ab.tok _,⟨_,I⟩,q⟩) aP
theorem Inv.lst{pins:List (Addr×Obj)}{σ:St}{H:ax}{s:aT}{p:Addr}{xs:List V}(ab:Inv X pins σ H s)(h:H p=U (.lst xs)):∃(its:List ar)(n:Nat),bT xs its/\s.heap.get? p=U {cls:=.type "list",data:=.seq its.toArray n}/\xs.length<=sizeLine:=by obtain⟨z,its,n,r,e⟩:=ab.bo p _ h;exact⟨its,n,r,e,z⟩
theorem ane(lo av:Option Int)(n:Nat):(xB lo av af n).1=((cG.dM n 0 lo:Nat):Int)/\(xB lo av af n).2.1=((cG.dM n n av:Nat):Int)/\(xB lo av af n).2.2=1:=by
 refine⟨?_,?_,I⟩
 ·cases lo with
  |none=>simp[xB,cG.dM]
  |some i=>
   simp only[xB,cG.dM,aaD,show(1:Int)>0 by decide,if_true];by_cases h:i<0
   ·simp only[h,if_true]<;>omega
   ·simp only[h,if_false]<;>omega
 ·cases av with
  |none=>simp[xB,cG.dM]
  |some i=>
   simp only[xB,cG.dM,aaD,show(1:Int)>0 by decide,if_true];by_cases h:i<0
   ·simp only[h,if_true]<;>omega
   ·simp only[h,if_false]<;>omega
theorem anc(its:List ar)(lo av:Option Int):slicePick its.toArray lo av af=((its.drop (cG.dM its.length 0 lo)).take (cG.dM its.length its.length av-cG.dM its.length 0 lo)).toArray:=by obtain⟨ag,ai,aN⟩:=ane lo av its.toArray.size;unfold slicePick;rw[ag,ai,aN];simp only[sliceRange_one,pick_run,fO]<;>rfl
inductive amd(K:PySem.W.Frag)(x:V)(lo:Option Int)(av:Option Int)(H:ax)(Q:c9):Prop
 |mk (a xs) (h0:x=.ref a) (ag:aI K H a xs) (ai:∀p,H p=af->Q (.ref p) (upd H p (.lst (iJ xs lo av))))
theorem tM:Jh X (amd X.K):=by intro pins s σ H x v rL rM lo av hP Q ab bq aP pl dk h;obtain⟨a,xs,rfl,ao,q⟩:=h;cases bq;obtain⟨its,r,bV,a9⟩:=ab.list ao;have hlen:=r.length;refine⟨"list",_,abF.lookup,bV.isList.typeIs,?_⟩;refine wpAny_getItem_list_slice bV.isList aP pl dk .none bl ?_ (by rw[fO]<;>omega);rw[anc,<-hlen];refine⟨.ref s.heap.objs.size,_,ab.laid (t':=s.toks) (o:=.lst (iJ xs lo av)) (λb ob q=>fG _ q) (bR _) ?_,I,q _ (ab.bo.fresh (bR _))⟩;exact⟨b3 (adG xs lo av) a9,_,0,(r.drop (cG.dM xs.length 0 lo)).take (cG.dM xs.length xs.length av-cG.dM xs.length 0 lo),fX _ I⟩
def oT:V->Bool
 | .bZ=>ah
 | .bB _=>ah
 | .int _=>ah
 | .str _=>ah
 |_=>aE
def p1:V->V->Bool
 | .bZ,.bZ=>ah
 | .bB a,.bB b=>a==b
 | .bB a,.int b=>(if a then 1 else 0)==b
 | .int a,.bB b=>a==(if b then 1 else 0)
 | .int a,.int b=>a==b
 | .str a,.str b=>a==b
 |_,_=>aE
theorem aeo{A:dQ}{s:aT}{y x:V}{u v:ar}(bP:RelV y u)(bq:RelV x v)(aeS:oT y=ah)(nd:oT x=ah):Qg A s u v (p1 y x):=by
 cases y with
 |bZ=>
  cases bP;cases x with
  |bZ=>cases bq;exact apX _
  |bB b=>cases bq;exact apU b
  |int b=>obtain⟨t,rfl⟩:=bq;exact apV b t
  |str b=>obtain⟨t,rfl⟩:=bq;exact apW b t
  |_=>exact aro (show aE=ah from nd) eM
 |bB a=>
  cases bP;cases x with
  |bZ=>cases bq;exact apQ a
  |bB b=>cases bq;exact apO a b
  |int b=>obtain⟨t,rfl⟩:=bq;exact apP a b t
  |str b=>obtain⟨t,rfl⟩:=bq;exact apR a b t
  |_=>exact aro (show aE=ah from nd) eM
 |int a=>
  obtain⟨t',rfl⟩:=bP;cases x with
  |bZ=>cases bq;exact apT a t'
  |bB b=>cases bq;exact apS a t' b
  |int b=>obtain⟨t,rfl⟩:=bq;exact abf a t' b t
  |str b=>obtain⟨t,rfl⟩:=bq;exact abg a t' b t
  |_=>exact aro (show aE=ah from nd) eM
 |str a=>
  obtain⟨t',rfl⟩:=bP;cases x with
  |bZ=>cases bq;exact apZ a t'
  |bB b=>cases bq;exact apY a t' b
  |int b=>obtain⟨t,rfl⟩:=bq;exact abh a t' b t
  |str b=>obtain⟨t,rfl⟩:=bq;exact ap0 a t' b t
  |_=>exact aro (show aE=ah from nd) eM
 |_=>exact aro (show aE=ah from aeS) eM
def lR(x:V)(u:ar):Bool:=match u with
 | .none=>p1 .bZ x
 | .bool b=>p1 (.bB b) x
 | .int i _=>p1 (.int i) x
 | .str z _=>p1 (.str z) x
 |_=>aE
theorem Sh{x y:V}{u:ar}(r:RelV y u)(f:oT y=ah):lR x u=p1 y x:=by
 cases y with
 |bZ=>cases r;rfl
 |bB b=>cases r;rfl
 |int i=>obtain⟨t,rfl⟩:=r;rfl
 |str z=>obtain⟨t,rfl⟩:=r;rfl
 |_=>exact aro (show aE=ah from f) eM
theorem A2{x:V}:∀{xs:List V}{us:List ar},bT xs us->xs.all oT=ah->us.any (lR x)=xs.any λy=>p1 y x
 |_,_,.nil,_=>rfl
 |y::xs,u::us,.cons r t,f=>by rw[nK,e7]at f;rw[rQ,rQ,Sh r f.1,A2 t f.2]
theorem Ck{A:dQ}{s:aT}{x:V}{v:ar}(bq:RelV x v)(nd:oT x=ah):∀{xs:List V}{us:List ar},bT xs us->xs.all oT=ah->∀u∈us,Qg A s u v (lR x u)
 |_,_,.nil,_=>λu a4=>by cases a4
 |y::xs,u::us,.cons r t,f=>λhR a4=>by
  rw[nK,e7]at f;rcases ek.mp a4 with rfl|a4
  ·rw[Sh r f.1];exact aeo r bq f.1 nd
  ·exact Ck bq nd t f.2 hR a4
def iM(x:V)(xs:List V):Bool:=xs.any λy=>p1 y x
inductive Gg(K:PySem.W.Frag)(neg:Bool)(x:V)(y:V)(H:ax)(Q:c9):Prop
 |mk (p xs) (h0:y=.ref p) (ag:(aI K H p xs\/eQ K H p xs)) (ai:oT x=ah) (aN:xs.all oT=ah) (bD:Q (.bB (if neg then !iM x xs else iM x xs)) H)
theorem tw:hG X (jf .In) (Gg X.K aE):=by
 intro pins s σ H x y v u Q ab bq bP h;obtain⟨p,xs,rfl,aK,nd,bk,q⟩:=h;cases bP;rcases aK with aK|aK
 ·obtain⟨its,r,pl,a9⟩:=ab.list aK;refine SeqAt.in_listAt (lR x) pl.isList (λw hw=>Ck bq nd r bk w (by simpa using hw)) ⟨.bB _,H,ab,I,?_⟩;rw[show its.toArray.any (lR x)=its.any (lR x)by simp,A2 r bk];exact q
 ·obtain⟨its,r,pl,a9⟩:=ab.tuple aK;refine SeqAt.in_tupleAt (lR x) pl (λw hw=>Ck bq nd r bk w (by simpa using hw)) ⟨.bB _,H,ab,I,?_⟩;rw[show its.toArray.any (lR x)=its.any (lR x)by simp,A2 r bk];exact q
theorem WT:hG X (jf .NotIn) (Gg X.K ah):=by
 intro pins s σ H x y v u Q ab bq bP h;obtain⟨p,xs,rfl,aK,nd,bk,q⟩:=h;cases bP;rcases aK with aK|aK
 ·obtain⟨its,r,pl,a9⟩:=ab.list aK;refine SeqAt.notIn_listAt (lR x) pl.isList (λw hw=>Ck bq nd r bk w (by simpa using hw)) ⟨.bB _,H,ab,I,?_⟩;rw[show its.toArray.any (lR x)=its.any (lR x)by simp,A2 r bk];exact q
 ·obtain⟨its,r,pl,a9⟩:=ab.tuple aK;refine SeqAt.notIn_tupleAt (lR x) pl (λw hw=>Ck bq nd r bk w (by simpa using hw)) ⟨.bB _,H,ab,I,?_⟩;rw[show its.toArray.any (lR x)=its.any (lR x)by simp,A2 r bk];exact q
theorem eJ:iE X (.builtin "len") (λxs H Q=>∃p ys,xs=[.ref p]/\(aI X.K H p ys\/eQ X.K H p ys)/\Q (.int ys.length) H):=by
 intro pins s σ H xs us Q ab r h;obtain⟨p,ys,rfl,aK,q⟩:=h;obtain⟨u,rfl,bq⟩:=vals1 r;cases bq;have aC:=zz;rcases aK with aK|aK
 ·obtain⟨its,r',pl,a9⟩:=ab.list aK;have hlen:=r'.length;exact Calls.call_len_list pl.isList (by simp only[fO]<;>omega) ⟨.int ys.length,H,ab.tok _,⟨s.toks+1,by rw[fO,hlen]⟩,q⟩
 ·obtain⟨its,r',pl,a9⟩:=ab.tuple aK;have hlen:=r'.length;exact len_tuple pl (by simp only[fO]<;>omega) ⟨.int ys.length,H,ab.tok _,⟨s.toks+1,by rw[fO,hlen]⟩,q⟩
theorem sz:iE X (.builtin "len") (λxs H Q=>∃z,xs=[.str z]/\z.length<=sizeLine/\Q (.int z.length) H):=by intro pins s σ H xs us Q ab r h;obtain⟨z,rfl,a9,q⟩:=h;obtain⟨u,rfl,t,rfl⟩:=vals1 r;have aC:=zz;exact len_str aG ⟨.int z.length,H,ab.tok _,⟨_,I⟩,q⟩
theorem JJ:iE X (.type "list") (λxs H Q=>∃p ys,xs=[.ref p]/\(aI X.K H p ys\/eQ X.K H p ys)/\∀l,H l=af->Q (.ref l) (upd H l (.lst ys))):=by
 intro pins s σ H xs us Q ab r h;obtain⟨p,ys,rfl,aK,q⟩:=h;obtain⟨u,rfl,bq⟩:=vals1 r;cases bq;have fin:∀(its:List ar),bT ys its->ys.length<=sizeLine->∀(h':Heap)(cp:Nat),(∀b o',s.heap.get? b=U o'->h'.get? b=U o')->h'.get? s.heap.objs.size=U {cls:=.type "list",dict:=af,data:=.seq its.toArray cp,slots:=#[]}->hD X pins σ Q (.ref s.heap.objs.size) {s with heap:=h'}:=λits r' a9 h' cp bJ e=>⟨.ref s.heap.objs.size,_,ab.laid (t':=s.toks) bJ (bR _) (show gF X.prog X.w _ h' _ (.lst ys)from⟨a9,its,cp,r',e⟩),I,q _ (ab.bo.fresh (bR _))⟩
 rcases aK with aK|aK
 ·obtain⟨its,r',pl,a9⟩:=ab.list aK;have hlen:=r'.length;obtain⟨o,aA,aF,n,hd⟩:=pl.isList;exact abp p (.inl I) aA aF hd (λh' cp bJ e=>fin its r' a9 h' cp bJ e) (by simp only[fO]<;>omega)
 ·obtain⟨its,r',pl,a9⟩:=ab.tuple aK;have hlen:=r'.length;obtain⟨o,aA,aF,n,hd⟩:=pl;exact abp p (.inr I) aA aF hd (λh' cp bJ e=>fin its r' a9 h' cp bJ e) (by simp only[fO]<;>omega)
theorem adp:iE X (.type "tuple") (λxs H Q=>∃p ys,xs=[.ref p]/\((aI X.K H p ys/\∀l,H l=af->Q (.ref l) (upd H l (.tup ys)))\/(eQ X.K H p ys/\Q (.ref p) H))):=by
 intro pins s σ H xs us Q ab r h;obtain⟨p,ys,rfl,h⟩:=h;obtain⟨u,rfl,bq⟩:=vals1 r;cases bq;rcases h with⟨aK,q⟩|⟨aK,q⟩
 ·obtain⟨its,r',pl,a9⟩:=ab.list aK;have hlen:=r'.length;refine call_tuple_list pl.isList (λh' bJ=>?_) (by simp only[fO]<;>omega);have a':Inv X pins σ H {s with heap:=h'}:=ab.kept (t':=s.toks) bJ;have b7:Inv X pins σ (upd H h'.objs.size (.tup ys)) {s with heap:=h'.push {cls:=.type "tuple",data:=.seq its.toArray}}:=a'.laid (t':=s.toks) (λb o e=>fG _ e) (bR _) (show gF X.prog X.w _ _ _ (.tup ys)from⟨a9,its,r',IsTup.new _ _⟩);exact⟨.ref h'.objs.size,_,b7,I,q _ (a'.bo.fresh (bR _))⟩
 ·obtain⟨its,r',pl,a9⟩:=ab.tuple aK;exact call_tuple_same pl ⟨.ref p,H,ab,I,q⟩
def Pw(K:PySem.W.Frag)(T:String)(x:V)(H:ax):Prop:=match x with
 | .str _=>T="str"
 | .int _=>T="int"
 | .ref p=>(T="list"/\∃xs,aI K H p xs)\/(T="tuple"/\∃o,K.lookup p=U o/\o.cls=.type "tuple"/\o.dict=af)\/(T="dict"/\((∃kvs,H p=U (.cC kvs))\/∃kvs,H p=U (.e3 kvs)))\/(T="set"/\∃S n,H p=U (.set S n))
 |_=>False
theorem ZH{pins:List (Addr×Obj)}{σ:St}{H:ax}{s:aT}{T:String}{x:V}{v:ar}(ab:Inv X pins σ H s)(r:RelV x v)(ty:Pw X.K T x H):s.TypeIs v T/\∀a,v=.ref a->∃ob,s.heap.get? a=U ob/\ob.dict=af:=by
 cases x with
 |str z=>obtain⟨t,rfl⟩:=r;cases(show T="str"from ty);exact⟨xD s z t,λ_ e=>nomatch e⟩
 |int i=>obtain⟨t,rfl⟩:=r;cases(show T="int"from ty);exact⟨typeIs_int s i t,λ_ e=>nomatch e⟩
 |ref p=>
  cases r;rcases ty with⟨rfl,xs,aK⟩|⟨rfl,o,aH,aF,hd⟩|⟨rfl,aH⟩|⟨rfl,S,n,aH⟩
  ·obtain⟨its,_,pl,_⟩:=ab.list aK;refine⟨pl.isList.typeIs,λa e=>?_⟩;cases e;obtain⟨o,n,e,c,hd,_⟩:=pl;exact⟨o,e,hd⟩
  ·refine⟨⟨o,ab.jW p o aH,aF⟩,λa e=>?_⟩;cases e;exact⟨o,ab.jW _ o aH,hd⟩
  ·have z:∃o,s.heap.get? p=U o/\o.ExactDict:=by
    rcases aH with⟨kvs,aH⟩|⟨kvs,aH⟩
    ·obtain⟨_,_,_,_,o,_,_,e,ex,_⟩:=ab.bo p _ aH;exact⟨o,e,ex⟩
    ·obtain⟨_,_,_,_,o,_,_,e,ex,_⟩:=ab.bo p _ aH;exact⟨o,e,ex⟩
   obtain⟨o,e,ex⟩:=z;refine⟨⟨o,e,ex.1⟩,λa aQ=>?_⟩;cases aQ;exact⟨o,e,ex.2.1⟩
  ·obtain⟨o,_,_,_,e,ex,_⟩:=ab.bo p _ aH;refine⟨⟨o,e,ex.1⟩,λa aQ=>?_⟩;cases aQ;exact⟨o,e,ex.2.1⟩
 |_=>exact iD ty
def anI(K:PySem.W.Frag)(T:String)(r:V->List V->ax->c9->Prop)(to:TE):TE:=λσ H Q=>to σ H λx H1=>Pw K T x H1/\r x [] H1 Q
def anH(K:PySem.W.Frag)(T:String)(r:V->List V->ax->c9->Prop)(to:TE)(t:hp):TE:=λσ H Q=>to σ H λx H1=>Pw K T x H1/\t σ H1 λxs az=>r x xs az Q
variable{o e:Expr}{es:List Expr}{to:TE}{t:hp}{name:Str}{apos g7:Pos}{T id:String}{r:V->List V->ax->c9->Prop}
theorem qq(MV:PlainAttrs T)(slot:Slot T name id)(ta:QA (.builtin id)=pure (.type "method_descriptor"))(hm:sb X id r)(aA:bC X o to)(o2:oC o name X.env (c' o X.env)=c' o X.env:=by rfl)(o6:(apos.endLine==g7.line)=ah:=by rfl):bC X (.Call (.Attribute o name apos) [] [] g7) (anI X.K T r to):=by intro pins s σ H Q ab h;refine wpAny_Call_method0_late o2 o6 (b2 (aA pins s σ H _ ab h) λv s1⟨x,H1,a',bK,ty,a7⟩=>?_);obtain⟨ag,ai⟩:=ZH a' bK ty;exact⟨T,id,MV,slot,ta,ag,ai,Dn I (PySem.evalArgs_none (hm pins s1 σ H1 x [] v [] Q a' bK .nil a7))⟩
theorem iy(MV:PlainAttrs T)(slot:Slot T name id)(ta:QA (.builtin id)=pure (.type "method_descriptor"))(hm:sb X id r)(aA:bC X o to)(ay:lc X (e::es) t)(o2:oC o name X.env (c' o X.env)=c' o X.env:=by rfl)(agu:((jC g7 (eO (e::es) X.env)).all (λx=>!x.1)&&(Dv g7 (Dy [] X.env)).all (λx=>x.1.isSome)&&decide ((e::es).length+([]:List xx).length+(if([]:List xx).isEmpty then 0 else 1)<30))=ah:=by rfl)(o6:(apos.endLine==g7.line)=ah:=by rfl)(aP:eO (e::es) X.env=(aE,c' e X.env)::eO es X.env:=by rfl)(ahn:(jC g7 (eO es X.env)).any (·.1)=aE:=by rfl):bC X (.Call (.Attribute o name apos) (e::es) [] g7) (anH X.K T r to t):=by intro pins s σ H Q ab h;refine wpAny_Call_method_late o2 agu o6 I (b2 (aA pins s σ H _ ab h) λv s1⟨x,H1,a',bK,ty,a7⟩=>?_);obtain⟨ag,ai⟩:=ZH a' bK ty;refine⟨T,id,MV,slot,ta,ag,ai,?_⟩;have iK:=ay g7 pins s1 σ H1 _ a' a7;rw[aP]at iK⊢;refine Dn (by show(aE||(jC g7 (eO es X.env)).any (·.1))=aE;rw[ahn]<;>rfl) (HH ?_);exact b2 iK λus s2⟨vs,az,b7,cS,bc⟩=>hm pins s2 σ az x vs v us Q b7 bK cS bc
end
def DU(X:bN)(id:String)(r:V->List V->ax->c9->Prop):Prop:=∀(pins:List (Addr×Obj))(s:aT)(σ:St)(H:ax)(x:V)(xs:List V)(v:ar)(us:List ar)(Q:c9),Inv X pins σ H s->RelV x v->bT xs us->r x xs H Q->bp (bO X.prog X.w) X.A (call (.builtin id) (v::us)) (hD X pins σ Q) X.d2 s
theorem bT.one:∀{x:V}{us:List ar},bT [x] us->∃u,us=[u]/\RelV x u
 |_,_,.cons r .nil=>⟨_,I,r⟩
theorem bT.two:∀{x y:V}{us:List ar},bT [x,y] us->∃u v,us=[u,v]/\RelV x u/\RelV y v
 |_,_,_,.cons r (.cons q .nil)=>⟨_,_,I,r,q⟩
theorem bT.zero:∀{us:List ar},bT [] us->us=[]
 |_,.nil=>rfl
theorem bT.dropLast{xs:List V}{us:List ar}(h:bT xs us):bT xs.dropLast us.dropLast:=by
 induction h with
 |nil=>exact .nil
 |cons r t ih=>
  cases t with
  |nil=>exact .nil
  |cons q t'=>exact .cons r ih
theorem bT.eraseIdx:∀{xs:List V}{us:List ar}(i:Nat),bT xs us->bT (xs.eraseIdx i) (us.eraseIdx i)
 |_,_,_,.nil=>.nil
 |_,_,0,.cons _ t=>t
 |_,_,i+1,.cons r t=>.cons r (bT.eraseIdx i t)
theorem bT.reverse{xs:List V}{us:List ar}(h:bT xs us):bT xs.reverse us.reverse:=by
 induction h with
 |nil=>exact .nil
 |cons r t ih=>rw[t7,t7];exact bT.append ih (.cons r .nil)
theorem aer{α:Type}(l:List α):l.eraseIdx (l.length-1)=l.dropLast:=by
 induction l with
 |nil=>rfl
 |cons a r ih=>
  cases r with
  |nil=>rfl
  |cons b r=>
   have e:(a::b::r).length-1=((b::r).length-1)+1:=by have ag:(a::b::r).length=r.length+2:=rfl;have ai:(b::r).length=r.length+1:=rfl;omega
   rw[e,List.eraseIdx_cons_succ,ih];all_goals rfl
section
variable{X:bN}{pins:List (Addr×Obj)}{σ:St}{H:ax}{s:aT}{l b:Addr}{xs ys zs:List V}
theorem Inv.wF{its its':List ar}{n:Nat}{f:Array ar->Array ar}{t':Nat}(ab:Inv X pins σ H s)(hZ:H l=U (.lst xs))(e:s.heap.get? l=U {cls:=.type "list",data:=.seq its.toArray n})(hf:f its.toArray=its'.toArray)(bU:bT ys its')(a9:ys.length<=sizeLine):Inv X pins σ (upd H l (.lst ys)) {s with heap:=s.heap.update l (aba f),toks:=t'}:=by have q:=PySem.IsL.update e f;rw[hf]at q;refine ab.write (x:=l) (e:=l) (by rw[hZ];exact trivial) (.inl I) (λA4 u ak a4=>(Qa s.heap (aba f) (bQ ak)).trans a4) ⟨_,q⟩ ?_;exact⟨a9,its',_,bU,q⟩
theorem Inv.VT{its:List ar}{t':Nat}(ab:Inv X pins σ H s)(bU:bT ys its)(a9:ys.length<=sizeLine):Inv X pins σ (upd H s.heap.objs.size (.lst ys)) {s with heap:=s.heap.push {cls:=.type "list",data:=.seq its.toArray},toks:=t'}:=ab.laid (λ_ _ q=>fG _ q) (bR _) ⟨a9,its,0,bU,fX _ I⟩
theorem Inv.fresh(ab:Inv X pins σ H s):H s.heap.objs.size=af:=ab.bo.fresh (bR _)
theorem Inv.lm(ab:Inv X pins σ H s)(hZ:H l=U (.lst xs)):xs.length<=sizeLine/\∃(its:List ar)(n:Nat),bT xs its/\xs.length=its.length/\s.heap.get? l=U {cls:=.type "list",data:=.seq its.toArray n}:=by obtain⟨z,its,n,r,e⟩:=ab.bo l _ hZ;exact⟨z,its,n,r,r.length,e⟩
theorem aj1{n:Nat}(h:n<=sizeLine):P6 n=aE:=by unfold P6;exact arp aG
end
section
variable{X:bN}
inductive al3(x:V)(vs:List V)(H:ax)(Q:c9):Prop
 |mk (l xs y) (h0:x=.ref l) (ag:vs=[y]) (ai:H l=U (.lst xs)) (aN:xs.length<sizeLine) (bD:Q .bZ (upd H l (.lst (xs++[y]))))
theorem mI:DU X "list.append" al3:=by intro pins s σ H x vs v us Q ab bq di h;obtain⟨l,xs,y,rfl,rfl,hZ,a9,q⟩:=h;cases bq;obtain⟨u,rfl,gz⟩:=di.one;obtain⟨z,its,n,r,au,e⟩:=ab.lm hZ;refine uh F.slot_list_append ⟨_,e,I⟩ F.entry_list_append (F.args_list_append_2 _ _) (PySem.list_append l its.toArray n u (by rw[fO];omega)) ⟨e,?_⟩;refine⟨.bZ,_,ab.wF (its':=its++[u]) hZ e bl (r.append (.cons gz .nil)) ?_,I,q⟩;rw[cA,j5];omega
inductive al5(x:V)(vs:List V)(H:ax)(Q:c9):Prop
 |mk (l b xs zs) (h0:x=.ref l) (ag:vs=[.ref b]) (ai:H l=U (.lst xs)) (aN:H b=U (.lst zs)) (bD:xs.length+zs.length<=sizeLine) (cw:Q .bZ (upd H l (.lst (xs++zs))))
theorem zC:DU X "list.extend" al5:=by
 intro pins s σ H x vs v us Q ab bq di h;obtain⟨l,b,xs,zs,rfl,rfl,hZ,f3,a9,q⟩:=h;cases bq;obtain⟨u,rfl,gz⟩:=di.one;cases gz;obtain⟨z,its,n,r,au,e⟩:=ab.lm hZ;obtain⟨kJ,gw,cB,cS,i0,aQ⟩:=ab.lm f3;have hsz:its.toArray.size+gw.toArray.size<=sizeLine:=by rw[fO,fO];omega
 have agW:¬(!its.toArray.isEmpty&&P6 (its.toArray.size+gw.toArray.size))=ah:=by rw[aj1 hsz,Hh];exact eM
 refine uh F.slot_list_extend ⟨_,e,I⟩ F.entry_list_extend (F.args_list_extend_2 _ _) (AutoSeq1.list_extend_list_list_0 l its.toArray n b gw.toArray cB agW (by rw[fO];omega) aG) ⟨e,aQ,?_⟩;refine⟨.bZ,_,ab.wF (its':=its++gw) hZ e bl (r.append cS) ?_,I,q⟩;rw[cA];omega
inductive amb(x:V)(vs:List V)(H:ax)(Q:c9):Prop
 |mk (l xs y) (h0:x=.ref l) (ag:vs=[]) (ai:H l=U (.lst xs)) (aN:xs[xs.length-1]? =U y) (bD:Q y (upd H l (.lst xs.dropLast)))
theorem wI:DU X "list.pop" amb:=by
 intro pins s σ H x vs v us Q ab bq di h;obtain⟨l,xs,y,rfl,rfl,hZ,a_,q⟩:=h;cases bq;have fC:=di.zero;subst fC;obtain⟨z,its,n,r,au,e⟩:=ab.lm hZ;obtain⟨u,a4,gz⟩:=r.get a_;have ahW:its.toArray[its.toArray.size-1]? =U u:=by show its.toArray[its.length-1]? =U u;rw[<-Array.getElem?_toList,<-au];exact a4
 refine uh F.slot_list_pop ⟨_,e,I⟩ F.entry_list_pop (F.args_list_pop_1 _) (MeetsSeq.list_pop_last l its.toArray n u ahW (by rw[fO];omega)) ⟨e,?_⟩;refine⟨y,_,ab.wF (its':=its.dropLast) hZ e ?_ r.dropLast ?_,gz,q⟩
 ·show its.toArray.eraseIdxIfInBounds (its.toArray.size-1)=its.dropLast.toArray;rw[fO,aaf,aer]
 ·rw[Ah];omega
inductive Xs(x:V)(y:V)(H:ax)(Q:c9):Prop
 |mk (l b xs zs) (h0:x=.ref l) (ag:y=.ref b) (ai:H l=U (.lst xs)) (aN:H b=U (.lst zs)) (bD:xs.length+zs.length<=sizeLine) (cw:∀p,H p=af->Q (.ref p) (upd H p (.lst (xs++zs))))
theorem kx:hG X (Dw .Add) Xs:=by intro pins s σ H x y v u Q ab bq bP h;obtain⟨l,b,xs,zs,rfl,rfl,hZ,f3,a9,q⟩:=h;cases bq;cases bP;obtain⟨z,its,n,r,au,e⟩:=ab.lm hZ;obtain⟨kJ,gw,cB,cS,i0,aQ⟩:=ab.lm f3;refine PySem.P.add_list e aQ ?_ (by rw[fO,fO];omega);have kg:its.toArray++gw.toArray=(its++gw).toArray:=bl;rw[kg];exact⟨.ref _,_,ab.VT (t':=s.toks) (r.append cS) (by rw[cA];omega),I,q _ ab.fresh⟩
end
section
variable{prog:b6}{w:bX}{A:dQ}{E:ar->aT->Prop}{s:aT}
end
section
variable{X:bN}
end
theorem bT.ints:∀{ns:List Int}{us:List ar},bT (ns.map V.int) us->oA us ns
 |[],us,h=>by rw[t5]at h;cases h;exact IntsAre.nil
 |n::ns,us,h=>by
  rw[dO]at h;cases h with
  |cons r t=>obtain⟨k,rfl⟩:=r;exact IntsAre.cons n k (bT.ints t)
theorem bT.strs:∀{xs:List Str}{us:List ar},bT (xs.map V.str) us->P1 us xs
 |[],us,h=>by rw[t5]at h;cases h;exact StrsAre.nil
 |x::xs,us,h=>by
  rw[dO]at h;cases h with
  |cons r t=>obtain⟨k,rfl⟩:=r;exact StrsAre.cons x k (bT.strs t)
theorem ZR:∀{us:List ar}{xs:List Str},P1 us xs->bT (xs.map V.str) us
 |_,_,.nil=>by rw[t5];exact Paired.nil
 |_,_,.cons x t h=>by rw[dO];exact Paired.cons (show RelV (V.str x) (Dq x t)from⟨t,I⟩) (ZR h)
theorem bT.Jz:∀{bs:List Bool}{us:List ar},bT (bs.map V.bB) us->us=bs.map nO
 |[],us,h=>by rw[t5]at h;cases h;rfl
 |b::bs,us,h=>by
  rw[dO]at h;cases h with
  |cons r t=>cases r;rw[bT.Jz t,dO]
theorem bT.CD{a:Addr}{us:List ar}(r:bT [V.ref a] us):us=[eZ a]:=by
 cases r with
 |cons r t=>cases t;cases r;rfl
section
variable{prog:b6}{w:bX}{A:dQ}{E:ar->aT->Prop}{s:aT}{l:Addr}{its:List ar}{ns:List Int}{Q:ar->aT->Prop}
theorem anB(d4:A.handled=af)(au:s.heap.IsList l its.toArray)(av:oA its ns)(h:∀h' tk t',(∀b o,s.heap.get? b=U o->h'.get? b=U o)->Q (.int ns.sum t') {s with heap:=h',toks:=tk}):bp (bO prog w) A (call (.builtin "sum") [.ref l]) Q E s:=by
 obtain⟨xs,e⟩:=av.allInts.items;have aC:numsOf (intItems xs).toList=ns:=by rw[<-e];exact av.numsOf
 rw[abB]at aC;rw[e]at au;refine PySem.sum_intListG d4 au λh' tk t' aH=>?_;have:=h h' tk t' aH;rw[preSum_eq,pE bl,aC];exact this
theorem ajh(d4:A.handled=af)(au:s.heap.IsList l its.toArray)(av:oA its ns)(fu:0<ns.length)(h:∀h' tk M t',(∀b o,s.heap.get? b=U o->h'.get? b=U o)->M∈ns->(∀a,a∈ns->M<=a)->Q (.int M t') {s with heap:=h',toks:=tk}):bp (bO prog w) A (call (.builtin "min") [.ref l]) Q E s:=by
 obtain⟨xs,e⟩:=av.allInts.items;have aC:numsOf (intItems xs).toList=ns:=by rw[<-e];exact av.numsOf
 rw[abB]at aC;subst aC;rw[e]at au;have hsz:0<xs.size:=by simpa using fu
 refine PySem.min_intList d4 au hsz λv h' tk bU aH=>?_;obtain⟨t,rfl⟩:=intItems_at bU;obtain⟨ag,ai⟩:=argBest_lt (numAt xs) (xs.size-1);refine h h' tk _ t aH ?_ λa ay=>?_
 ·rw[numAt_eq];exact PySem.getD_mem (by rw[aU,rP];omega)
 ·obtain⟨j,bw,rfl⟩:=mem_getD ay;rw[aU,rP]at bw;rw[<-numAt_eq];exact ai j aG
end
section
variable{X:bN}
inductive amf(K:PySem.W.Frag)(vs:List V)(H:ax)(Q:c9):Prop
 |mk (a:Addr) (ns:List Int) (h0:vs=[V.ref a]) (ag:aI K H a (ns.map V.int)) (ai:Q (.int ns.sum) H)
inductive al8(K:PySem.W.Frag)(vs:List V)(H:ax)(Q:c9):Prop
 |mk (a:Addr) (ns:List Int) (h0:vs=[V.ref a]) (ag:aI K H a (ns.map V.int)) (ai:0<ns.length) (aN:∀m,m∈ns->(∀y,y∈ns->m<=y)->Q (.int m) H)
theorem RP(aF:X.calm=ah):iE X (.builtin "sum") (amf X.K):=by intro pins s σ H vs us Q ab r h;obtain⟨a,ns,rfl,aP,q⟩:=h;obtain⟨its,di,au,_⟩:=ab.list aP;rw[bT.CD r];exact anB (ab.ok.hd aF) au.isList di.ints λh' tk t' aH=>⟨.int _,H,ab.kept aH,⟨_,I⟩,q⟩
theorem adA(aF:X.calm=ah):iE X (.builtin "min") (al8 X.K):=by intro pins s σ H vs us Q ab r h;obtain⟨a,ns,rfl,aP,fu,q⟩:=h;obtain⟨its,di,au,_⟩:=ab.list aP;rw[bT.CD r];exact ajh (ab.ok.hd aF) au.isList di.ints fu λh' tk m t' aH ag ai=>⟨.int _,H,ab.kept aH,⟨_,I⟩,q m ag ai⟩
inductive ame(K:PySem.W.Frag)(vs:List V)(H:ax)(Q:c9):Prop
 |mk (a:Addr) (xs:List Str) (h0:vs=[V.ref a]) (ag:aI K H a (xs.map V.str)) (ai:xs.length<64) (aN:∀(ys:List Str)(p:Addr),ys.Perm xs->sortedS ys=ah->H p=af->Q (.ref p) (upd H p (.lst (ys.map V.str))))
theorem anf{n:Nat}(h:n<64):n<=sizeLine:=by rw[AB];omega
theorem adB:iE X (.builtin "sorted") (ame X.K):=by
 intro pins s σ H vs us Q ab r h;obtain⟨a,xs,rfl,aP,Ug,q⟩:=h;obtain⟨its,di,au,_⟩:=ab.list aP;rw[bT.CD r];have US:=di.length;rw[aU]at US;refine apu au.isList di.strs (by rw[<-US];exact Ug) λout ys ag ai aN=>?_;obtain⟨ep,wi⟩:=aps s.heap its out;have hlen:(ys.map V.str).length<=sizeLine:=by rw[aU,ai.length_eq];exact anf Ug
 exact⟨.ref _,upd H (s.heap.objs.size+1) (.lst (ys.map V.str)),ab.laid (t':=s.toks) (λ_ _=>apt) (Di _) ⟨hlen,out.toList,ep,ZR ag,wi⟩,I,q ys _ ai aN (ab.bo.fresh (Di _))⟩
end
theorem Vq{prog:b6}{w:bX}{A:dQ}{E:ar->aT->Prop}{s:aT}{l:Addr}{items:Array ar}{Q:ar->aT->Prop}(au:s.heap.IsList l items)(h:∀h4:aT,h4={s with heap:=s.heap.push {cls:=.type "list_iterator",data:=.fields #[.ref l,.int 0 0]}}->(h4.heap.IsListIter s.heap.objs.size l 0/\h4.heap.IsList l items)->l≠s.heap.objs.size->Q (.ref s.heap.objs.size) h4):bp (bO prog w) A (AA (.ref l)) Q E s:=by
 have dD:l<s.heap.objs.size:=by obtain⟨_,e,_⟩:=au;exact ef e
 exact H4 au (h _ I ⟨⟨_,fX _ I,I,I⟩,au.push _⟩ (hS dD))
theorem ZF{prog:b6}{w:bX}{A:dQ}{bs:List Bool}{its:List ar}(e:its=bs.map nO):TruthOf prog w A (λi v=>its.toArray[i]? =U v) (λi=>bs.getD i aE):=λi v s Q E bU aK=>by
 have Fd:its[i]? =U v:=by simpa using bU
 rw[e,dI]at Fd;obtain⟨b,ak,rfl⟩:=aaG.mp Fd;have bM:bs.getD i aE=b:=by rw[aak,ak]<;>rfl
 have s7:Q (bs.getD i aE) s:=aK;rw[bM]at s7;exact oH s7
theorem any_range:∀bs:List Bool,(cf bs.length).any (λi=>bs.getD i aE)=bs.any id
 |[]=>rfl
 |b::bs=>by rw[cW,PU,rQ,aab,rQ,<-any_range bs];all_goals rfl
theorem all_range:∀bs:List Bool,(cf bs.length).all (λi=>bs.getD i aE)=bs.all id
 |[]=>rfl
 |b::bs=>by rw[cW,PU,nK,ow,nK,<-all_range bs];all_goals rfl
section
variable{X:bN}
inductive al2(K:PySem.W.Frag)(vs:List V)(H:ax)(Q:c9):Prop
 |mk (a:Addr) (bs:List Bool) (h0:vs=[V.ref a]) (ag:aI K H a (bs.map V.bB)) (ai:Q (.bB (bs.any id)) H)
inductive al1(K:PySem.W.Frag)(vs:List V)(H:ax)(Q:c9):Prop
 |mk (a:Addr) (bs:List Bool) (h0:vs=[V.ref a]) (ag:aI K H a (bs.map V.bB)) (ai:Q (.bB (bs.all id)) H)
theorem adz(aF:X.calm=ah):iE X (.builtin "any") (al2 X.K):=by
 intro pins s σ H vs us Q ab r h;obtain⟨a,bs,rfl,aP,q⟩:=h;obtain⟨its,di,au,_⟩:=ab.list aP;rw[bT.CD r];have ak:=di.Jz;refine call_any_walk (Vq au.isList λh4 aQ st fu=>?_);subst aQ;refine⟨_,_,_,_,_,_,_,I,Av (A:=X.A.in1) (ab.ok.hd aF) _ a fu its.toArray,st,ZF ak,λh' tk aH=>?_⟩;refine⟨.bB _,H,ab.kept λb o v7=>aH b o (λmx=>?_) (fG _ v7),?_,q⟩
 ·rcases ek.mp mx with aS|mx
  ·exact aro (aS▸ef v7) (pF _)
  ·cases mx
 ·show nO _=nO _;rw[<-any_range,ak,fO,aU]
theorem vL(aF:X.calm=ah):iE X (.builtin "all") (al1 X.K):=by
 intro pins s σ H vs us Q ab r h;obtain⟨a,bs,rfl,aP,q⟩:=h;obtain⟨its,di,au,_⟩:=ab.list aP;rw[bT.CD r];have ak:=di.Jz;refine call_all_walk (Vq au.isList λh4 aQ st fu=>?_);subst aQ;refine⟨_,_,_,_,_,_,_,I,Av (A:=X.A.in1) (ab.ok.hd aF) _ a fu its.toArray,st,ZF ak,λh' tk aH=>?_⟩;refine⟨.bB _,H,ab.kept λb o v7=>aH b o (λmx=>?_) (fG _ v7),?_,q⟩
 ·rcases ek.mp mx with aS|mx
  ·exact aro (aS▸ef v7) (pF _)
  ·cases mx
 ·show nO _=nO _;rw[<-all_range,ak,fO,aU]
end
mutual
inductive j'(K:PySem.W.Frag)(H:ax):V->PyData->Prop
 |bZ:j' K H .bZ .none
 |bB (b:Bool):j' K H (.bB b) (.bool b)
 |int (i:Int):j' K H (.int i) (.int i)
 |str (x:Str):j' K H (.str x) (.str x)
 |lst {a:Addr} {xs:List V} {ds:List PyData}:aI K H a xs->uE K H xs ds->j' K H (.ref a) (.list ds)
 |tup {a:Addr} {xs:List V} {ds:List PyData}:eQ K H a xs->uE K H xs ds->j' K H (.ref a) (.tuple ds)
inductive uE(K:PySem.W.Frag)(H:ax):List V->List PyData->Prop
 |nil:uE K H [] []
 |cons {v:V} {vs:List V} {d:PyData} {ds:List PyData}:j' K H v d->uE K H vs ds->uE K H (v::vs) (d::ds)
end
section
variable{X:bN}{pins:List (Addr×Obj)}{σ:St}{H:ax}{s:aT}
mutual
theorem j'.reads(ab:Inv X pins σ H s):∀(d:PyData)(v:V)(u:ar),j' X.K H v d->RelV v u->∃as,Reads s.heap u d as
 | .none,_,_,h,r=>by cases h;cases r;exact⟨_,Reads.none⟩
 | .bool b,_,_,h,r=>by cases h;cases r;exact⟨_,Reads.bool b⟩
 | .int i,_,_,h,r=>by cases h;obtain⟨t,rfl⟩:=r;exact⟨_,Reads.int i t⟩
 | .str x,_,_,h,r=>by cases h;obtain⟨t,rfl⟩:=r;exact⟨_,Reads.str x t⟩
 | .list ds,_,_,h,r=>by
  cases h with
  |lst aP ay=>cases r;obtain⟨its,di,⟨o,n,aA,aF,_,hd⟩,_⟩:=ab.list aP;obtain⟨as,aL⟩:=j'.readsAll ab ds _ its ay di;exact⟨_,Reads.list aA aF hd aL⟩
 | .tuple ds,_,_,h,r=>by
  cases h with
  |tup aP ay=>cases r;obtain⟨its,di,⟨o,aA,aF,n,hd⟩,_⟩:=ab.tuple aP;obtain⟨as,aL⟩:=j'.readsAll ab ds _ its ay di;exact⟨_,Reads.tuple aA aF hd aL⟩
 | .dict _,_,_,h,_=>by cases h
theorem j'.readsAll(ab:Inv X pins σ H s):∀(ds:List PyData)(vs:List V)(us:List ar),uE X.K H vs ds->bT vs us->∃as,ReadsAll s.heap us ds as
 |[],_,_,h,r=>by cases h;cases r;exact⟨_,ReadsAll.nil⟩
 |d::ds,_,_,h,r=>by
  cases h with
  |cons ag ai=>
   cases r with
   |cons bK cS=>obtain⟨as,a7⟩:=j'.reads ab d _ _ ag bK;obtain⟨bs,bc⟩:=j'.readsAll ab ds _ _ ai cS;exact⟨_,ReadsAll.cons a7 bc⟩
end
end
section
variable{X:bN}
inductive ama(K:PySem.W.Frag)(x:V)(y:V)(H:ax)(Q:c9):Prop
 |mk (d e) (h0:j' K H x d) (ag:j' K H y e) (ai:HM d=ah) (aN:HM e=ah) (bD:Q (.bB (!abc d e)) H)
theorem alh(a4:X.A.units+64<cLine):hG X (jf .NotEq) (ama X.K):=by intro pins s σ H x y v u Q ab bq bP h;obtain⟨d,e,hd,he,sd,am2,q⟩:=h;obtain⟨as,bK⟩:=j'.reads ab d x v hd bq;obtain⟨bs,cS⟩:=j'.reads ab e y u he bP;exact SeqAt.compareNe_shaped bK cS sd am2 a4 ⟨.bB _,H,ab,I,q⟩
end
abbrev QR(h:Heap)(c:Addr)(v:Option ar):Prop:=h.IsCell c v
def amn(scope sc:Scope):Scope:={scope with names:=scope.names.map λ(n,k)=>if(k== .free&&sc.kind== .function&&sc.names.lookup n==U .cell)then(n,.cell)else(n,k)}
def iV(cells:List (Str×Addr)):List (Str×lD)->List (Str×Addr)->List (Str×Addr)
 |[],acc=>acc
 |(n,k)::r,acc=>if k== .free then iV cells r ((n,(cells.lookup n).getD 0)::acc)else iV cells r acc
theorem RG(env:Env)(f:Str×lD->List (Str×Addr)->Sem (ForInStep (List (Str×Addr))))(hf:∀n k c,f (n,k) c=if k== .free then(do let a<-Qn env n;pure (.yield ((n,a)::c)))else pure (.yield c)):∀(names:List (Str×lD))(acc:List (Str×Addr)),(∀y∈names,y.2=.free->∃c,env.cells.lookup y.1=U c)->forIn names acc f=pure (iV env.cells names acc)
 |[],acc,_=>by rw[De];rfl
 |(n,k)::r,acc,h=>by
  rw[Hp,hf];have ih:=λacc=>RG env f hf r acc λy a_=>h y (j7 _ a_);unfold iV;by_cases aH:(k==As)=ah
  ·rw[art aH,art aH];obtain⟨c,aF⟩:=h (n,k) mT (by simpa using aH);have e:Qn env n=pure c:=by unfold Qn;rw[aF]
   rw[e];have aQ:(env.cells.lookup n).getD 0=c:=by rw[aF];rfl
   rw[aQ];exact ih _
  ·rw[ars aH,ars aH];exact ih _
theorem adu{scope:Scope}{env:Env}(h:∀y∈scope.names,y.2=.free->∃c,env.cells.lookup y.1=U c):closureFor scope env=pure (iV env.cells scope.names []):=by simp only[closureFor];rw[RG env _ (λn k c=>I) scope.names [] h];rfl
theorem mem_lookup{α:Type}:∀{l:List (Str×α)}{n:Str}{c:α},(n,c)∈l->∃cp,l.lookup n=U cp
 |(k,v)::r,n,c,h=>by
  rw[xr];cases ak:n==k with
  |true=>exact⟨_,I⟩
  |false=>
   rcases ek.mp h with e|h
   ·cases e;simp at ak
   ·exact mem_lookup h
theorem Eg{cells:List (Str×Addr)}:∀{names:List (Str×lD)}{acc:List (Str×Addr)}{n:Str}{c:Addr},(n,c)∈iV cells names acc->(n,c)∈acc\/((n,.free)∈names/\c=(cells.lookup n).getD 0)
 |[],_,_,_,h=>.inl h
 |(m,k)::r,acc,n,c,h=>by
  unfold iV at h;split at h
  ·rename_i aH;have aH:k=.free:=by simpa using aH
   rcases Eg h with h|⟨ag,ai⟩
   ·rcases ek.mp h with e|h
    ·cases e;exact .inr ⟨aH▸mT,I⟩
    ·exact .inl h
   ·exact .inr ⟨j7 _ ag,ai⟩
  ·rcases Eg h with h|⟨ag,ai⟩
   ·exact .inl h
   ·exact .inr ⟨j7 _ ag,ai⟩
theorem JN{cells:List (Str×Addr)}:∀{names:List (Str×lD)}{acc:List (Str×Addr)}{p:Str×Addr},p∈acc->p∈iV cells names acc
 |[],_,_,h=>h
 |(m,k)::r,acc,p,h=>by
  unfold iV;split
  ·exact JN (j7 _ h)
  ·exact JN h
theorem JO{cells:List (Str×Addr)}:∀{names:List (Str×lD)}{acc:List (Str×Addr)}{n:Str},(n,.free)∈names->(n,(cells.lookup n).getD 0)∈iV cells names acc
 |(m,k)::r,acc,n,h=>by
  unfold iV;rcases ek.mp h with e|h
  ·cases e;exact JN mT
  ·split
   ·exact JO h
   ·exact JO h
theorem A':∀{names:List (Str×lD)}{h:Heap}{acc:List (Str×Addr)}{x:Str}{c:Addr},(x,c)∈je h.objs.size names acc->(x,c)∈acc\/((x,.cell)∈names/\h.objs.size<=c/\QR (ui h names) c af)
 |[],_,_,_,_,h=>.inl h
 |(n,k)::r,h,acc,x,c,hm=>by
  unfold je at hm;unfold ui;split at hm
  ·rename_i aH;rw[art aH];have aH:k=.cell:=by simpa using aH
   rw[<-k8 h {cls:=.type "cell",data:=.cell af}]at hm;rcases A' hm with hm|⟨ag,ai,aN⟩
   ·rcases ek.mp hm with e|hm
    ·cases e;exact .inr ⟨aH▸mT,bR _,_,HV r _ _ _ (fX _ I),I⟩
    ·exact .inl hm
   ·rw[k8]at ai;exact .inr ⟨j7 _ ag,HD ai,aN⟩
  ·rename_i aH;rw[ars aH];rcases A' hm with hm|⟨ag,ai,aN⟩
   ·exact .inl hm
   ·exact .inr ⟨j7 _ ag,ai,aN⟩
theorem Ef:∀{names:List (Str×lD)}{n:Nat}{acc:List (Str×Addr)}{p:Str×Addr},p∈acc->p∈je n names acc
 |[],_,_,_,h=>h
 |(m,k)::r,n,acc,p,h=>by
  unfold je;split
  ·exact Ef (j7 _ h)
  ·exact Ef h
theorem JL:∀{names:List (Str×lD)}{n:Nat}{acc:List (Str×Addr)}{x:Str},(x,.cell)∈names->∃c,(x,c)∈je n names acc
 |(m,k)::r,n,acc,x,h=>by
  unfold je;rcases ek.mp h with e|h
  ·cases e;exact⟨n,Ef mT⟩
  ·split
   ·exact JL h
   ·exact JL h
theorem JM:∀{names:List (Str×lD)}{h:Heap}{acc:List (Str×Addr)}{x y:Str}{c:Addr},(∀p∈acc,p.2<h.objs.size)->(∀x y c,(x,c)∈acc->(y,c)∈acc->x=y)->(x,c)∈je h.objs.size names acc->(y,c)∈je h.objs.size names acc->x=y
 |[],_,_,_,_,_,_,av,ag,ai=>av _ _ _ ag ai
 |(n,k)::r,h,acc,x,y,c,au,av,ag,ai=>by
  unfold je at ag ai;split at ag
  ·rename_i aH;rw[art aH]at ai;rw[<-k8 h {cls:=.type "cell",data:=.cell af}]at ag ai;refine JM (h:=h.push _) (λp aO=>?_) (λx y c a b=>?_) ag ai
   ·rw[k8];rcases ek.mp aO with rfl|aO
    ·exact t9 _
    ·exact Ak (au p aO)
   ·rcases ek.mp a with e|a<;>rcases ek.mp b with e'|b
    ·cases e;cases e';rfl
    ·cases e;exact aro (au _ b) (pF _)
    ·cases e';exact aro (au _ a) (pF _)
    ·exact av _ _ _ a b
  ·rename_i aH;rw[ars aH]at ai;exact JM au av ag ai
theorem ajR{M:Ar}{A:dQ}{E:ar->aT->Prop}{s:aT}{scope:Scope}{globals:Addr}{closure:List (Str×Addr)}{qual:Str}{func:Option Addr}{code:ar}{around:Env}{builtins:Addr}{Q:Env->aT->Prop}(h:Q (newEnv scope s.heap.objs.size globals (je (s.heap.objs.size+1) scope.names closure) qual func code (U around) builtins) {s with heap:=ui (s.heap.push {cls:=.type "dict",data:=.dict #[]}) scope.names}):bp M A (abA scope globals closure [] qual func code (U around) builtins) Q E s:=by simp only[abA,aaF,if_true];refine bg (wpAny_alloc ?_);refine bg (wpAny_layCells _ (λn k c=>I) scope.names closure _ _ ?_);rw[show({s with heap:=s.heap.push {cls:=.type "dict",data:=.dict #[]}}:aT).heap.objs.size=s.heap.objs.size+1 from k8 ..];rw[De];exact bg (cD (cD h))
theorem Mi{sc:Scope}:∀{names:List (Str×lD)}{x:Str}{k:lD},(names.map λ(n,k)=>if(k==As&&sc.kind== .function&&sc.names.lookup n==U .cell)then(n,Qb)else(n,k)).lookup x=U k->∃hk,names.lookup x=U hk/\(k=hk\/(hk=.free/\k=.cell))
 |[],_,_,h=>by simp at h
 |(n,Ce)::r,x,k,h=>by
  have ih:=@Mi sc r x k;have h':t4 x ((if(Ce==As&&sc.kind== .function&&sc.names.lookup n==U .cell)=ah then(n,Qb)else(n,Ce))::(r.map _))=U k:=h;cases ao:x==n with
  |true=>
   simp only[xr,ao];by_cases aF:(Ce==As&&sc.kind== .function&&sc.names.lookup n==U .cell)=ah
   ·rw[art aF]at h';simp only[xr,ao]at h';cases h';simp only[e7,beq_iff_eq]at aF;exact⟨Ce,I,.inr ⟨aF.1.1,I⟩⟩
   ·rw[ars aF]at h';simp only[xr,ao]at h';cases h';exact⟨_,I,.inl I⟩
  |false=>
   simp only[xr,ao];by_cases aF:(Ce==As&&sc.kind== .function&&sc.names.lookup n==U .cell)=ah
   ·rw[art aF]at h';simp only[xr,ao]at h';exact ih h'
   ·rw[ars aF]at h';simp only[xr,ao]at h';exact ih h'
structure AN(N:List Str)(sc scope:Scope)(own:List (Str×Nat)):Prop where
 kind:scope.kind=.function
 uniq:∀y∈scope.names,scope.names.lookup y.1=U y.2
 ix:∀p∈own,N[p.2]? =U p.1
 free:∀y∈scope.names,y.2=.free->sc.names.lookup y.1=U .cell\/sc.names.lookup y.1=U .free
 own:∀y∈scope.names,y.2=.local\/y.2=.cell->y.1∈own.map (·.1)\/y.1∉N
def wipe(σ:St):List Nat->St
 |[]=>σ
 |v::vs=>(wipe σ vs).set v af
theorem PB(σ:St):∀vs:List Nat,(wipe σ vs).length=σ.length
 |[]=>rfl
 |v::vs=>by unfold wipe;rw[List.length_set,PB σ vs]
theorem PC{σ:St}{i:Nat}{x:V}:∀{vs:List Nat},(wipe σ vs)[i]? =U (U x)->σ[i]? =U (U x)/\i∉vs
 |[],h=>⟨h,bl⟩
 |v::vs,h=>by
  unfold wipe at h;by_cases av:v=i
  ·subst av;by_cases bU:v<(wipe σ vs).length
   ·rw[PO bU]at h;cases h
   ·rw[aal (by simpa using bU)]at h;cases h
  ·rw[PN av]at h;obtain⟨ag,ai⟩:=PC h;exact⟨ag,by simp only[ek,not_or];exact⟨λe=>av e.symm,ai⟩⟩
abbrev bN.jQ(X:bN)(s:aT)(H:ax)(scope:Scope)(gG:Env)(fp:List Addr):bN:={X with jv:=s,uG:=H,env:=gG,outer:=X.stack,ex:=fp,fn:=λx=>scope.names.lookup x==U .cell,cm:=[],d2:=λ_ _=>False}
section
variable{X:bN}{pins:List (Addr×Obj)}{σ:St}{H:ax}{s:aT}
theorem ac4{scope:Scope}{own:List (Str×Nat)}{fp:List Addr}(ab:Inv X pins σ H s)(ok:AN X.N X.env.scope scope own)(gh:X.N.Nodup)(zj:∀b∈fp,iS X pins H b/\b<s.heap.objs.size):Inv (X.jQ s H scope (nP scope (je (s.heap.objs.size+1) scope.names (iV X.env.cells scope.names [])) s.heap.objs.size X.env) fp) [] (wipe σ (own.map (·.2))) H {s with heap:=ui (s.heap.push {cls:=.type "dict",data:=.dict #[]}) scope.names}:=by
 have zl:∀y∈scope.names,y.2=.free->∃c,X.env.cells.lookup y.1=U c:=λy a_ e=>by
  rcases ok.free y a_ e with k|k
  ·exact ab.ok.has _ (.inl k)
  ·exact ab.ok.has _ (.inr k)
 generalize BF:nP scope (je (s.heap.objs.size+1) scope.names (iV X.env.cells scope.names [])) s.heap.objs.size X.env=gG;have bJ:∀b o,s.heap.get? b=U o->(ui (s.heap.push {cls:=.type "dict",data:=.dict #[]}) scope.names).get? b=U o:=λb o e=>HV _ _ _ _ (fG _ e);have iY:gG.locals=s.heap.objs.size:=by rw[<-BF];rfl
 have lW:gG.cells=je (s.heap.objs.size+1) scope.names (iV X.env.cells scope.names []):=by rw[<-BF];rfl
 have Lo:gG.scope=amn scope X.env.scope:=by rw[<-BF];rfl
 rw[<-k8 s.heap {cls:=.type "dict",data:=.dict #[]}]at lW;have ie:∀{y c},(y,c)∈iV X.env.cells scope.names []->X.env.cells.lookup y=U c/\c<s.heap.objs.size:=λ{y c}hm=>by
  rcases Eg hm with hm|⟨ag,rfl⟩
  ·cases hm
  ·obtain⟨c,aF⟩:=zl _ ag I;rw[aF];obtain⟨w,z⟩:=ab.cell _ _ aF;exact⟨I,z.lt⟩
 have mem:∀{y c},gG.cells.lookup y=U c->(X.env.cells.lookup y=U c/\c<s.heap.objs.size)\/(s.heap.objs.size+1<=c/\QR (ui (s.heap.push {cls:=.type "dict",data:=.dict #[]}) scope.names) c af):=λ{y c}e=>by
  rw[lW]at e;rcases A' (PySem.mem_of_lookup e)with hm|⟨_,ai,aN⟩
  ·exact .inl (ie hm)
  ·rw[k8]at ai;exact .inr ⟨ai,aN⟩
 have look:∀{y},scope.names.lookup y=U .free->∃c,gG.cells.lookup y=U c/\X.env.cells.lookup y=U c:=λ{y}au=>by
  have a_:(y,As)∈scope.names:=PySem.mem_of_lookup au;obtain⟨cp,e'⟩:=mem_lookup (Ef (names:=scope.names) (n:=(s.heap.push {cls:=.type "dict",data:=.dict #[]}).objs.size) (JO (cells:=X.env.cells) (acc:=[]) a_));rw[<-lW]at e';refine⟨cp,e',?_⟩;rw[lW]at e';rcases A' (PySem.mem_of_lookup e')with hm|⟨ag,_,_⟩
  ·exact(ie hm).1
  ·have:=ok.uniq _ ag;rw[au]at this;cases this
 have akp:(X.jQ s H scope gG fp).Ok:=by
  refine⟨ab.ok.mod,by show gG.scope.kind=_;rw[Lo];exact ok.kind,by show gG.globals=_;rw[<-BF];exact ab.ok.glob,by show gG.builtins=_;rw[<-BF];exact ab.ok.blt,by show s.heap.objs.size<=gG.locals;rw[iY];exact bR _,
   λy z c aS aQ=>?_,λy a_=>?_,λy c z e=>?_,ab.ok.hd,ab.ok.frames,.inl I,λb ak=>⟨?_,λy c e z=>?_⟩,ab.bs,b3 ab.ok.pX ab.ma,λb o e ak=>?_,λb ak z=>?_,ab.stack,ab.Y9⟩
  ·have aS:gG.cells.lookup y=U c:=aS;have aQ:gG.cells.lookup z=U c:=aQ;rw[lW]at aS aQ;refine JM (λp aO=>?_) (λy z c a b=>ab.ok.inj y z c (ie a).1 (ie b).1) (PySem.mem_of_lookup aS) (PySem.mem_of_lookup aQ);rw[k8];exact Ak (ie (y:=p.1) (c:=p.2) aO).2
  ·show∃c,gG.cells.lookup y=U c;have key:∀k,gG.kindOf y=U k->(k=.cell\/k=.free)->∃c,gG.cells.lookup y=U c:=λk aH p_=>by
    unfold Env.kindOf at aH;rw[Lo]at aH;obtain⟨hk,e,r⟩:=Mi aH;have:hk=.cell\/hk=.free:=by
     rcases r with rfl|⟨rfl,_⟩
     ·exact p_
     ·exact .inr I
    rcases this with rfl|rfl
    ·obtain⟨c,hm⟩:=JL (n:=(s.heap.push {cls:=.type "dict",data:=.dict #[]}).objs.size) (acc:=iV X.env.cells scope.names []) (PySem.mem_of_lookup e);obtain⟨cp,e'⟩:=mem_lookup hm;exact⟨cp,by rw[lW];exact e'⟩
    ·obtain⟨c,ag,_⟩:=look e;exact⟨c,ag⟩
   rcases a_ with a_|a_
   ·exact key _ a_ (.inl I)
   ·exact key _ a_ (.inr I)
  ·have z:(scope.names.lookup y==U Qb)=ah:=z;have z:scope.names.lookup y=U .cell:=by simpa using z
   have e:gG.cells.lookup y=U c:=e;rw[lW]at e;rcases A' (PySem.mem_of_lookup e)with hm|⟨_,ai,_⟩
   ·rcases Eg hm with hm|⟨ag,_⟩
    ·cases hm
    ·have q:=ok.uniq _ ag;rw[z]at q;cases q
   ·rw[k8]at ai;exact HD ai
  ·show b≠gG.locals;rw[iY];exact hS (zj b ak).2
  ·have e:gG.cells.lookup y=U c:=e;rcases mem e with⟨ag,_⟩|⟨ag,_⟩
   ·exact(zj b ak).1.2.2.2.2.1 y c ag z
   ·have ai:s.heap.objs.size+1<=b:=by rw[<-z];exact ag
    exact aro (h5 (zj b ak).2 (HD ai)) (pF _)
  ·rcases(zj b ak).1.2.2.2.1 with z|z
   ·exact ab.ok.Cs b o e z
   ·exact aro (h5 (ef e) (b3 ab.ok.pX z)) (pF _)
  ·rcases ek.mp (ab.Pe b z)with z|z
   ·exact(zj b ak).1.2.1 z
   ·exact(zj b ak).1.2.2.1 z
 refine⟨akp,I,ab.bare,gR.kept bJ,⟨λ_=>af,?_,λi y acZ aS aQ b0=>?_⟩,λy c e=>?_,?_,λy c e=>?_,λp aO=>?_,ab.bo.kept bJ,by rw[PB];exact ab.len⟩
 ·show Heap.Ns _ gG.locals _;rw[iY];exact Heap.Ns.keeps (Heap.Ns.new ..) λb o e=>HV _ _ _ _ e
 ·obtain⟨aQ,fu⟩:=PC aQ;have zk:scope.names.lookup y=U .free/\(gG.kindOf y=U .cell\/gG.kindOf y=U .free):=by
   have key:∀k,gG.scope.names.lookup y=U k->k=.local\/k=.cell\/k=.free->scope.names.lookup y=U .free/\(gG.kindOf y=U .cell\/gG.kindOf y=U .free):=λk aH p_=>by
    have UJ:=aH;rw[Lo]at aH;obtain⟨hk,e,r⟩:=Mi aH;have no:¬(hk=.local\/hk=.cell):=λd4=>by
     rcases ok.own _ (PySem.mem_of_lookup e) d4 with e'|e'
     ·obtain⟨p,aO,ahr⟩:=fq.mp e';have b0:=ok.ix p aO;have:p.1=y:=ahr;rw[this]at b0;exact fu (fq.mpr ⟨p,aO,Mz gh b0 aS⟩)
     ·exact e' (eN aS)
    rcases r with rfl|⟨rfl,rfl⟩
    ·rcases p_ with rfl|rfl|rfl
     ·exact aro (.inl I) no
     ·exact aro (.inr I) no
     ·exact⟨e,.inr UJ⟩
    ·exact⟨e,.inl UJ⟩
   have b0:xZ gG.scope y:=b0;rcases b0 with b0|b0|b0
   ·exact key _ b0 (.inl I)
   ·exact key _ b0 (.inr (.inl I))
   ·exact key _ b0 (.inr (.inr I))
  obtain⟨m,aC,au⟩:=ab.loc;have ahS:xZ X.env.scope y:=(ok.free _ (PySem.mem_of_lookup zk.1) I).elim (λk=>.inr (.inl k)) (λk=>.inr (.inr k));obtain⟨w,r,q⟩:=au i y acZ aS aQ ahS;refine⟨w,r,.inr ⟨zk.2,?_⟩⟩;obtain⟨c,ag,ai⟩:=look zk.1;rcases q with⟨k,_⟩|⟨_,cp,e',z⟩
  ·have k:X.env.scope.names.lookup y=U .local:=k;rcases ok.free _ (PySem.mem_of_lookup zk.1) I with hk|hk<;>rw[show X.env.scope.names.lookup y=_ from hk]at k<;>cases k
  ·rw[ai]at e';cases e';exact⟨c,ag,z.keeps bJ⟩
 ·have e:gG.cells.lookup y=U c:=e;rcases mem e with⟨ag,_⟩|⟨_,z⟩
  ·obtain⟨w,z⟩:=ab.cell y c ag;exact⟨w,z.keeps bJ⟩
  ·exact⟨_,z⟩
 ·show H gG.locals=af;rw[iY];exact ab.bo.fresh (bR _)
 ·have e:gG.cells.lookup y=U c:=e;rcases mem e with⟨ag,_⟩|⟨ag,_⟩
  ·exact ab.m_ y c ag
  ·exact ab.bo.fresh (HD ag)
 ·exact aro (show p∈([]:List (Addr×Obj))++[]from aO) bl
theorem acQ{E:ar->aT->Prop}{D:Addr}{xs:List V}{y:V}{v:ar}{Q:ar->aT->Prop}(ab:Inv X pins σ H s)(cg:H D=U (.lst xs))(a9:xs.length<sizeLine)(r:RelV y v)(h:∀s',Inv X pins σ (upd H D (.lst (xs++[y]))) s'->Q .none s'):bp (bO X.prog X.w) X.A (call (.builtin "list.append") [.ref D,v]) Q E s:=by obtain⟨nu,its,n,XK,e⟩:=ab.bo D _ cg;have au:=XK.length;refine append_at (hsz:=by rw[fO];omega) e λh' fF kX=>?_;refine h {s with heap:=h'} (ab.write (t':=s.toks) (by rw[cg];trivial) (.inl I) (λb u ak q=>(fF.2 b ak).trans q) ⟨_,kX⟩ ⟨by rw[cA];exact a9,its++[v],n+1,XK.append (.cons r .nil),?_⟩);rw[kX];simp
def AW(X:bN)(ifs:List Expr)(t:TT):Prop:=∀(pins:List (Addr×Obj))(s:aT)(σ:St)(H:ax)(Q:Bool->ax->Prop),Inv X pins σ H s->t σ H Q->bp (bO X.prog X.w) X.A (forIn ifs ah λc r=>if r=ah then do let ok<-Ay c X.env (c' c X.env);pure (Hj ok)else pure (Hj r)) (DZ X pins σ Q) X.d2 s
def pn:TT:=λ_ H Q=>Q ah H
theorem jY:AW X [] pn:=λ_ _ _ H _ ab h=>wpAny_tests_nil ⟨H,ab,h⟩
theorem Gb{c:Expr}{t:TT}(h:jM X c t):AW X [c] t:=λpins s σ H Q ab hw=>wpAny_tests_one (h pins s σ H Q ab hw)
end
theorem z7{α:Type}{t:Sem α}{Q oM:α->aT->Prop}{M:Ar}{A:dQ}{E:ar->aT->Prop}{s:aT}(h:bp M A t Q (λ_ _=>False) s)(hI:∀a s,Q a s->oM a s):bp M A t oM E s:=lF h hI λ_ _ z=>iD z
theorem adw{prog:b6}{w:bX}{A:dQ}{R:xy->aT->Prop}{s:aT}{elt target iter:Expr}{ifs:List Expr}{scope:Scope}{pos:Pos}{it acc:ar}{env:Env}(ab:Nat->aT->Prop)(turn:∀n s,ab n s->bp (bO prog w) A (j9 it) (λr d7=>match r with
 |none=>R (.ok .next) d7
 |some v=>bp (bO prog w) A (HU target it v) (λ_ Zf=>bp (bO prog w) A (Dt target env v) (λ_ h4=>
  bp (bO prog w) A (forIn ifs ah λc r=>if r=ah then do let ok<-Ay c env (c' c env);pure (Hj ok)else pure (Hj r)) (λok tO=>
   if ok=ah then bp (bO prog w) A (c' elt env) (λx Zg=>bp (bO prog w) A (call (.builtin "list.append") [acc,x]) (λ_ Zh=>∃m,m<n/\ab m Zh) (Az (bO prog w) A env λe s'=>R (.error e) s') Zg) (Az (bO prog w) A env λe s'=>R (.error e) s') tO
   else∃m,m<n/\ab m tO) (Az (bO prog w) A env λe s'=>R (.error e) s') h4) (Az (bO prog w) A env λe s'=>R (.error e) s') Zf) (Az (bO prog w) A env λe s'=>R (.error e) s') d7) (Az (bO prog w) A env λe s'=>R (.error e) s') s)
 (n:Nat) (h:ab n s):
 oD (bO prog w) A (.compLoop (.ListComp elt [⟨target,iter,ifs,0⟩] scope pos) 0 it acc env) R s:=by
 refine codeAny_loop I ab (λn s mw=>?_) n h
 show bp _ A ((compTurn (.ListComp elt [⟨target,iter,ifs,0⟩] scope pos) 0 it acc env).onRaise (λx=>do noteFrame x env;theTreesLotGoes x)) _ _ s
 refine wpAny_noted ?_
 rw[compTurn_list]
 refine bg (QE (bg (lF (turn n s mw) (λr d7 Fi=>?_) λ_ _ h'=>h')))
 cases r with
 |none=>exact cD Fi
 |some v=>
  refine bg (lF Fi (λ_ Zf ah0=>?_) λ_ _ h'=>h')
  refine bg (lF ah0 (λ_ h4 B7=>bg (lF B7 (λok tO Fj=>?_) λ_ _ h'=>h')) λ_ _ h'=>h')
  cases ok with
  |false=>exact cD ⟨I,Fj⟩
  |true=>exact bg (bg (lF Fj (λx Zg ah1=>bg (lF ah1 (λ_ Zh ah2=>cD (cD ⟨I,ah2⟩)) λ_ _ h'=>h')) λ_ _ h'=>h'))
section
variable{X:bN}
def GX(jb:TI)(g:h_)(tt:TT)(te:TE)(vs:List Nat):TE:=λσ H Q=>jb σ H λJ H1=>∀D,H1 D=af->∃W:Nat->Nat->ax->Prop,(∃m,W 0 m (upd H1 D (.lst [])))/\∀i m H,W i m H->(J.stop i H/\Q (.ref D) H)\/(J.go i H/\∃mY:ax->Prop,(∀ae,mY ae->∃m',m'<m/\W (i+1) m' ae)/\∀x ae,J.qz i H x ae->g x (wipe σ vs) ae λe6 az=>wipe e6 vs=wipe σ vs/\tt e6 az λb aZ=>if b=ah then te e6 aZ λy bz=>∃acc,bz D=U (.lst acc)/\acc.length<sizeLine/\mY (upd bz D (.lst (acc++[y])))else mY aZ)
theorem VH{pins:List (Addr×Obj)}{s:aT}{σ:St}{H:ax}{Q:c9}{elt ee iter:Expr}{ifs:List Expr}{scope:Scope}{own:List (Str×Nat)}{pos pos':Pos}{jb:TI}{g:h_}{tt:TT}{te:TE}{use:Option (ar->Sem Unit)}{Qf:ar->aT->Prop}(aF:X.calm=ah)(gh:X.N.Nodup)(ab:Inv X pins σ H s)(av:nW X ee iter jb)(ok:AN X.N X.env.scope scope own)(bM:∀(s:aT)(H:ax)(C:Addr)(cl:List (Str×Addr))(fp:List Addr),uK (X.jQ s H scope (nP scope cl C X.env) fp) ee g)(bV:∀(s:aT)(H:ax)(C:Addr)(cl:List (Str×Addr))(fp:List Addr),AW (X.jQ s H scope (nP scope cl C X.env) fp) ifs tt)(he:∀(s:aT)(H:ax)(C:Addr)(cl:List (Str×Addr))(fp:List Addr),bC (X.jQ s H scope (nP scope cl C X.env) fp) elt te)(aP:∀x,HR iter X.env x=pure x)(h:GX jb g tt te (own.map (·.2)) σ H Q)(afU:∀D C s' m ae,Inv X pins σ ae s'->Q (.ref D) ae->s'.heap.Ns C m->iS X pins ae C->Qo (bO X.prog X.w) X.A X.d2 use Qf (.ref D) C (.ok .next) s'):bp (bO X.prog X.w) X.A (abt (.ListComp elt [⟨ee,iter,ifs,0⟩] scope pos) scope X.env pos' (newList []) aE (c' iter X.env) use) Qf X.d2 s:=by
 have zl:∀y∈scope.names,y.2=.free->∃c,X.env.cells.lookup y.1=U c:=λy a_ e=>by
  rcases ok.free y a_ e with k|k
  ·exact ab.ok.has _ (.inl k)
  ·exact ab.ok.has _ (.inr k)
 refine wpAny_comprehension_free (use:=use) I aP (adu zl) ok.kind (λy a_ e=>by rw[ok.uniq y a_,e]) (b2 (av pins s σ H _ ab h) λarj s1 ao=>b2 ao λLH s2 ai=>?_);obtain⟨it,fp,fw,J,az,e,b7,T,GQ,f2,q⟩:=ai;subst e;refine H3 (ajR ?_) (by show 0<=sizeLine;decide);generalize cg:s2.heap.objs.size=D;have afN:az D=af:=b7.bo.fresh (HC cg);obtain⟨W,⟨m0,z'⟩,turn⟩:=q D afN;generalize E_:({s2 with heap:=s2.heap.push {cls:=.type "list",data:=.seq ([]:List ar).toArray}}:aT)=s3;have eP:Inv X pins σ (upd az D (.lst [])) s3:=by rw[<-E_];refine b7.laid (t':=s2.toks) (λb o e=>fG _ e) (HC cg) ⟨ec _,[],0,.nil,?_⟩;rw[<-cg];exact fX _ I
 have aN:s3.heap=s2.heap.push {cls:=.type "list",data:=.seq ([]:List ar).toArray}:=by rw[<-E_]
 have ma:∀b∈fp,b<s2.heap.objs.size:=λb ak=>by obtain⟨o,e,_⟩:=T.obj _ _ GQ b ak;exact ef e
 have ew:∀b∈fp,iS X pins (upd az D (.lst [])) b/\b<s3.heap.objs.size:=λb ak=>by have dD:=ma b ak;refine⟨⟨?_,(f2 b ak).2⟩,by rw[aN,k8];exact Ak dD⟩;rw[aY (by rw[<-cg];exact hS dD)];exact(f2 b ak).1
 have GR:fw 0 s3.heap:=T.keep _ _ _ GQ λb _ o e=>by rw[aN];exact fG _ e
 have jL:=ac4 eP ok gh ew;have kD:=bM s3 (upd az D (.lst [])) s3.heap.objs.size (je (s3.heap.objs.size+1) scope.names (iV X.env.cells scope.names [])) fp;have pt:=bV s3 (upd az D (.lst [])) s3.heap.objs.size (je (s3.heap.objs.size+1) scope.names (iV X.env.cells scope.names [])) fp;have MW:=he s3 (upd az D (.lst [])) s3.heap.objs.size (je (s3.heap.objs.size+1) scope.names (iV X.env.cells scope.names [])) fp;show oD _ _ (.compStart (.ListComp elt [⟨ee,iter,ifs,0⟩] scope pos) 0 (.ref it) (.ref D) (nP scope (je (s3.heap.objs.size+1) scope.names (iV X.env.cells scope.names [])) s3.heap.objs.size X.env)) (Qo (bO X.prog X.w) X.A X.d2 use Qf (.ref D) s3.heap.objs.size) {s3 with heap:=ui (s3.heap.push {cls:=.type "dict",data:=.dict #[]}) scope.names};have Wi:∀b∈fp,(upd az D (.lst [])) b=af:=λb ak=>(ew b ak).1.1;generalize KZ:nP scope (je (s3.heap.objs.size+1) scope.names (iV X.env.cells scope.names [])) s3.heap.objs.size X.env=ce at jL kD pt MW⊢;have Rx:ce.locals=s3.heap.objs.size:=by subst KZ;rfl
 generalize ni:upd az D (.lst [])=aZ at eP jL kD pt MW z' Wi ew;generalize ahF:({s3 with heap:=ui (s3.heap.push {cls:=.type "dict",data:=.dict #[]}) scope.names}:aT)=s4 at jL⊢;have Y7:fw 0 s4.heap:=T.keep _ _ _ GR λb _ o e=>by rw[<-ahF];exact HV _ _ _ _ (fG _ e)
 have xb:∀{cj:St}{ae:ax}{s':aT},Inv (X.jQ s3 aZ scope ce fp) [] cj ae s'->(∀b∈fp,ae b=af)->∀b∈fp,iS (X.jQ s3 aZ scope ce fp) [] ae b:=λ{cj ae s'}hU aC b ak=>⟨aC b ak,(hU.ok.Er b ak).1,hU.ok.Bj b ak,.inl ak,λx c e=>(hU.ok.Er b ak).2 x c e,λp aO=>aro (show p∈([]:List (Addr×Obj))++[]from aO) bl⟩
 have loop:oD (bO X.prog X.w) X.A (.compLoop (.ListComp elt [⟨ee,iter,ifs,0⟩] scope pos) 0 (.ref it) (.ref D) ce) (Qo (bO X.prog X.w) X.A X.d2 use Qf (.ref D) s3.heap.objs.size) s4:=by
  refine adw (λn s'=>∃i ae,Inv (X.jQ s3 aZ scope ce fp) [] (wipe σ (own.map (·.2))) ae s'/\fw i s'.heap/\(∀b∈fp,ae b=af)/\W i n ae) ?_ m0 ⟨0,aZ,jL,Y7,Wi,z'⟩;rintro n s5 ⟨i,cb,r_,z5,l5,dm⟩;rcases turn i n cb dm with⟨stop,alZ⟩|⟨go,mY,afR,step⟩
  ·have td:=T.done (X.jQ s3 aZ scope ce fp) I I I aF i [] s5 _ cb (λ_ _=>False) r_ (xb r_ l5) z5 stop;refine z7 td λr c6⟨aL,sa⟩=>?_;subst aL;have lb:Inv X pins σ cb c6:=eP.adb (ch:=fp) sa.os sa.base sa.bo sa.bare λb ak=>⟨(ew b ak).1.2.2.2.1,(ew b ak).1.2.1,(ew b ak).1.2.2.2.2.1,(ew b ak).1.2.2.2.2.2⟩;have ajy:cb s3.heap.objs.size=af:=by have z:cb ce.locals=af:=sa.free;rw[Rx]at z;exact z
   obtain⟨m,aC,_⟩:=sa.loc;have aC:c6.heap.Ns ce.locals m:=aC;rw[Rx]at aC;exact afU D s3.heap.objs.size c6 m cb lb alZ aC (eP.v9 (bR _) ajy)
  ·have z8:=T.item (X.jQ s3 aZ scope ce fp) I I I aF i [] s5 _ cb (λ_ _=>False) r_ (xb r_ l5) z5 go;refine z7 z8 λr c6⟨u,aL,e_⟩=>?_;subst aL;refine z7 e_ λ_ dp⟨x,d3,lb,ph,aoZ,Pd,lp⟩=>?_;have acz:=lb.pinned (xb lb lp) (T.obj _ _ Pd);refine z7 (kD _ dp _ d3 x u _ acz ph (step x d3 aoZ)) λ_ j0⟨He,gr,acA,Ve,M9⟩=>?_;refine z7 (pt _ j0 He gr _ acA M9) λb lB⟨g5,Q3,mN⟩=>?_;have fin:∀{s':aT}{ae:ax},Inv (X.jQ s3 aZ scope ce fp) ([]++Cy fp dp.heap) He ae s'->mY ae->∃m,m<n/\∃i ae,Inv (X.jQ s3 aZ scope ce fp) [] (wipe σ (own.map (·.2))) ae s'/\fw i s'.heap/\(∀b∈fp,ae b=af)/\W i m ae:=λ{s' ae}hU cN=>by
    obtain⟨m',hm,fc⟩:=afR ae cN;have W4:∀b∈fp,∀o,dp.heap.get? b=U o->s'.heap.get? b=U o/\ae b=af:=λb ak o e=>let z:=hU.pin (b,o) (pB _ (pB _ (FF ak e)));⟨z.1,z.2.1⟩
    have au:(wipe σ (own.map (·.2))).length=He.length:=by rw[<-Ve,PB]
    refine⟨m',hm,i+1,ae,(hU.C2 (pins:=[])).weak au (λj v e=>?_),T.keep _ _ _ Pd λb ak o e=>(W4 b ak o e).1,λb ak=>?_,fc⟩
    ·rw[<-Ve]at e;exact(PC e).1
    ·obtain⟨o,e,_⟩:=T.obj _ _ Pd b ak;exact(W4 b ak o e).2
   cases b with
   |false=>simp only[xp,if_false]at mN⊢;exact fin Q3 mN
   |true=>simp only[if_true]at mN⊢;refine z7 (MW _ lB He g5 _ Q3 mN) λz Gn⟨ark,qU,acw,al0,acc,afK,ahY,cN⟩=>?_;exact acQ (X:=X.jQ s3 aZ scope ce fp) acw afK ahY al0 λXR acx=>fin acx cN
 exact codeAny_compStart_list loop (T.self X.A 0 _ _ _ Y7 loop)
theorem kB{elt ee iter:Expr}{ifs:List Expr}{scope:Scope}{own:List (Str×Nat)}{pos:Pos}{jb:TI}{g:h_}{tt:TT}{te:TE}(aF:X.calm=ah)(gh:X.N.Nodup)(av:nW X ee iter jb)(ok:AN X.N X.env.scope scope own)(bM:∀(s:aT)(H:ax)(C:Addr)(cl:List (Str×Addr))(fp:List Addr),uK (X.jQ s H scope (nP scope cl C X.env) fp) ee g)(bV:∀(s:aT)(H:ax)(C:Addr)(cl:List (Str×Addr))(fp:List Addr),AW (X.jQ s H scope (nP scope cl C X.env) fp) ifs tt)(he:∀(s:aT)(H:ax)(C:Addr)(cl:List (Str×Addr))(fp:List Addr),bC (X.jQ s H scope (nP scope cl C X.env) fp) elt te)(aP:∀x,HR iter X.env x=pure x:=by intro _;rfl):bC X (.ListComp elt [⟨ee,iter,ifs,0⟩] scope pos) (GX jb g tt te (own.map (·.2))):=by intro pins s σ H Q ab h;rw[eval_ListComp];refine VH aF gh ab av ok bM bV he aP h λD C s' m ae hU q aC f=>⟨m,aC,λnf fF=>?_⟩;obtain⟨f0,f1,f2,ew,f4,gu⟩:=f;exact⟨.ref D,ae,hU.turned (t':=s'.toks) (λb o ak e=>(fF.2 b ak).trans e) f0 f1 ew f4 gu,I,q⟩
theorem Cz{i:Nat}{y:Str}{py:Pos}{elt ee iter:Expr}{ifs:List Expr}{scope:Scope}{own:List (Str×Nat)}{pos Y6:Pos}{jb:TI}{g:h_}{tt:TT}{te:TE}(aF:X.calm=ah)(gh:X.N.Nodup)(a_:X.N[i]? =U y)(Vf:X.env.scope.names.lookup y=U .local)(ahI:xC (.ListComp elt [⟨ee,iter,ifs,0⟩] scope pos) (U (.Name y py)) Y6.line X.env=pure ah)(av:nW X ee iter jb)(ok:AN X.N X.env.scope scope own)(bM:∀(s:aT)(H:ax)(C:Addr)(cl:List (Str×Addr))(fp:List Addr),uK (X.jQ s H scope (nP scope cl C X.env) fp) ee g)(bV:∀(s:aT)(H:ax)(C:Addr)(cl:List (Str×Addr))(fp:List Addr),AW (X.jQ s H scope (nP scope cl C X.env) fp) ifs tt)(he:∀(s:aT)(H:ax)(C:Addr)(cl:List (Str×Addr))(fp:List Addr),bC (X.jQ s H scope (nP scope cl C X.env) fp) elt te)(aP:∀x,HR iter X.env x=pure x:=by intro _;rfl):lJ X (.Assign [.Name y py] (.ListComp elt [⟨ee,iter,ifs,0⟩] scope pos) Y6) (Zi (GX jb g tt te (own.map (·.2))) (mu i)):=by
 intro pins s σ H D ab h;rw[exec_Assign_Name_used _ _ _ _ ahI];refine bg (QE (bg ?_));show bp _ X.A (do let _<-abt (.ListComp elt [⟨ee,iter,ifs,0⟩] scope pos) scope X.env (firstIterPos [⟨ee,iter,ifs,0⟩] pos) (newList []) aE (c' iter X.env) (U (Dt (.Name y py) X.env))) _ _ s;have h:GX jb g tt te (own.map (·.2)) σ H (λx H1=>mu i x σ H1 D.cN):=h;refine bg (b2 (VH (Qf:=λ_ s'=>uL X pins D .next s') aF gh ab av ok bM bV he aP h λL C s' m ae hU q aC f=>?_) λ_ s' aK=>cD (cD aK));show bp _ _ (Dt (.Name y py) X.env (.ref L)) _ _ _;refine wpAny_assign_Name (Zb (v:=V.ref L) hU gh a_ (.inl Vf) I (λs2 b7⟨a,fF,ay⟩=>?_) (.inr Vf));obtain⟨f0,f1,f2,ew,f4,gu⟩:=f;have af5:C≠a:=by
  rcases ay with z|z
  ·rw[z];exact f1
  ·exactλe=>f4 y a z e.symm
 refine⟨m,aC.sameBut fF af5,λaN amD=>?_⟩;exact⟨_,ae,b7.turned (t':=s2.toks) (λb o ak e=>(amD.2 b ak).trans e) f0 f1 ew f4 gu,q⟩
theorem CY{elt:Expr}{d8:List Comprehension}{scope:Scope}{pos py:Pos}{y:Str}{l:Nat}{env:Env}(aH:env.scope.kind=.function)(a_:env.scope.names.lookup y=U .local)(au:(py.line==pos.line)=ah)(ay:(scope.names.any λ(n,k)=>n==y&&(k== .local||k== .cell))=aE):xC (.ListComp elt d8 scope pos) (U (.Name y py)) l env=pure ah:=by
 have aiK:env.kindOf y=U .local:=a_;have ak:env.blockKind=.function:=by unfold Env.blockKind;rw[aH];rfl
 unfold xC;simp only[ak,aiK,ay,Expr.pos,au];rfl
end
theorem FA{K:PySem.W.Frag}{a:Addr}{xs:List V}{g:h_}{tt:TT}{te:TE}{vs:List Nat}{σ:St}{H1:ax}{D:Addr}{iG:ax->Prop}(Pv:Nat->ax->Prop)(h0:Pv 0 (upd H1 D (.lst [])))(au:∀i H,i<=xs.length->Pv i H->aI K H a xs)(aP:∀i x H,xs[i]? =U x->Pv i H->g x (wipe σ vs) H λe6 az=>wipe e6 vs=wipe σ vs/\tt e6 az λb aZ=>
 if b=ah then te e6 aZ λy bz=>∃acc,bz D=U (.lst acc)/\acc.length<sizeLine/\Pv (i+1) (upd bz D (.lst (acc++[y])))else Pv (i+1) aZ) (hd:∀H,Pv xs.length H->iG H):
 ∃W:Nat->Nat->ax->Prop,(∃m,W 0 m (upd H1 D (.lst [])))/\∀i m H,W i m H->((mX K a).stop i H/\iG H)\/((mX K a).go i H/\∃mY:ax->Prop,(∀ae,mY ae->∃m',m'<m/\W (i+1) m' ae)/\∀x ae,(mX K a).qz i H x ae->g x (wipe σ vs) ae λe6 az=>wipe e6 vs=wipe σ vs/\tt e6 az λb aZ=>if b=ah then te e6 aZ λy bz=>∃acc,bz D=U (.lst acc)/\acc.length<sizeLine/\mY (upd bz D (.lst (acc++[y])))else mY aZ):=by
 refine⟨λi m H=>m=xs.length-i/\i<=xs.length/\Pv i H,⟨xs.length,bl,ec _,h0⟩,?_⟩
 rintro i m H ⟨rfl,av,p⟩
 have q:=au i H av p
 by_cases dD:i<xs.length
 ·refine .inr ⟨⟨xs,xs[i],q,by simp[dD]⟩,Pv (i+1),λae p'=>⟨xs.length-(i+1),aG,I,dD,p'⟩,λx ae y=>?_⟩;obtain⟨e,y⟩:=y;subst e;exact aP i x _ (y xs q) p
 ·have e:i=xs.length:=by omega
  subst e;exact .inl ⟨⟨xs,q,bR _⟩,hd H p⟩
def Rp(N:List Str)(sc scope:Scope)(own:List (Str×Nat)):Bool:=(match scope.kind with| .function=>ah|_=>aE)&&(scope.names.all λy=>decide (scope.names.lookup y.1=U y.2))&&(own.all λp=>decide (N[p.2]? =U p.1))&&(scope.names.all λy=>match y.2 with
 | .free=>(match sc.names.lookup y.1 with|some .cell=>ah|some .free=>ah|_=>aE)
 | .local=>decide (y.1∈own.map (·.1))||decide (y.1∉N)
 | .cell=>decide (y.1∈own.map (·.1))||decide (y.1∉N)
 |_=>ah)
theorem ic{N:List Str}{sc scope:Scope}{own:List (Str×Nat)}(h:Rp N sc scope own=ah):AN N sc scope own:=by
 unfold Rp at h;simp only[e7,jA,decide_eq_true_eq]at h;obtain⟨⟨⟨ag,ai⟩,aN⟩,bD⟩:=h;refine⟨?_,ai,aN,λy a_ e=>?_,λy a_ e=>?_⟩
 ·split at ag
  ·assumption
  ·cases ag
 ·have q:=bD y a_;simp only[e]at q;split at q<;>first|exact .inl (by assumption)|exact .inr (by assumption)|cases q
 ·have q:=bD y a_;rcases e with e|e<;>(simp only[e,pz,decide_eq_true_eq]at q;exact q)
section
variable{prog:b6}{w:bX}{A:dQ}{R:xy->aT->Prop}{s:aT}{elt t0 mD t1 ci:Expr}{aqU aqV:List Expr}{scope:Scope}{pos:Pos}{it acc:ar}{env:Env}
end
section
variable{X:bN}
end
section
variable{dy:Type}[DecidableEq dy]
def eb(kvs:List (dy×V))(k:dy):Option V:=(kvs.find? λkv=>decide (kv.1=k)).map (·.2)
def putK(kvs:List (dy×V))(k:dy)(v:V):List (dy×V):=if(kvs.any λkv=>decide (kv.1=k))=ah then kvs.map (λkv=>if kv.1=k then(kv.1,v)else kv)else kvs++[(k,v)]
def RX(kvs:List (dy×V))(k:dy):List (dy×V):=kvs.filter λkv=>decide (kv.1≠k)
theorem aoE{k:dy}:eb ([]:List (dy×V)) k=af:=rfl
theorem nI{p:dy×V}{r:List (dy×V)}{k:dy}(e:p.1=k):eb (p::r) k=U p.2:=by simp[eb,nM,e]
theorem mb{p:dy×V}{r:List (dy×V)}{k:dy}(e:¬p.1=k):eb (p::r) k=eb r k:=by simp[eb,nM,e]
theorem C3(k:dy):∀kvs:List (dy×V),(kvs.any λkv=>decide (kv.1=k))=(eb kvs k).isSome
 |[]=>rfl
 |p::r=>by
  rw[rQ];by_cases e:p.1=k
  ·simp only[nI e,arq e,Bool.true_or,aaF]
  ·rw[mb e,arp e,Bool.false_or];exact C3 k r
theorem xi(k j:dy)(y:V):∀kvs:List (dy×V),eb (kvs.map λkv=>if kv.1=k then(kv.1,y)else kv) j=(eb kvs j).map λx=>if j=k then y else x
 |[]=>rfl
 |p::r=>by
  have ih:=xi k j y r;rw[dO];by_cases h:p.1=k
  ·rw[art h];by_cases e:p.1=j
   ·rw[nI (p:=(p.1,y)) e,nI e,HF,art (e.symm.trans h)]
   ·rw[mb (p:=(p.1,y)) e,mb e,ih]
  ·rw[ars h];by_cases e:p.1=j
   ·rw[nI (p:=p) e,nI e,HF,ars (λz=>h (e.trans z))]
   ·rw[mb (p:=p) e,mb e,ih]
theorem ZQ(k j:dy)(y:V):∀kvs:List (dy×V),eb kvs k=af->eb (kvs++[(k,y)]) j=if j=k then U y else eb kvs j
 |[],_=>by
  by_cases e:k=j
  ·rw[art e.symm];exact nI (p:=(k,y)) e
  ·rw[ars (λz=>e z.symm)];exact mb (p:=(k,y)) e
 |p::r,aC=>by
  rw[List.cons_append];have aH:¬p.1=k:=λz=>by rw[nI z]at aC;cases aC
  rw[mb aH]at aC;have ih:=ZQ k j y r aC;by_cases e:p.1=j
  ·rw[nI e,nI e,ars (λz=>aH (e.trans z))]
  ·rw[mb e,mb e,ih]
theorem C4(kvs:List (dy×V))(k j:dy)(y:V):eb (putK kvs k y) j=if j=k then U y else eb kvs j:=by
 unfold putK;by_cases a:(kvs.any λkv=>decide (kv.1=k))=ah
 ·rw[art a,xi];rw[C3]at a;by_cases e:j=k
  ·obtain⟨x,ao⟩:=aaE.mp a;rw[art e,e,ao,HF,art I]
  ·rw[ars e];cases eb kvs j with
   |none=>rfl
   |some x=>rw[HF,ars e]
 ·rw[ars a];refine ZQ k j y kvs ?_;rw[C3]at a;cases q:eb kvs k with
  |none=>rfl
  |some x=>rw[q]at a;exact(a I).elim
theorem zy(kvs:List (dy×V))(k:dy)(v:V):(putK kvs k v).length<=kvs.length+1:=by
 unfold putK;split
 ·rw[aU];omega
 ·rw[cA,cW,j4];omega
theorem CC{kvs:List (dy×V)}{k:dy}(v:V)(h:eb kvs k=af):putK kvs k v=kvs++[(k,v)]:=by unfold putK;rw[C3,h];exact ars a5
theorem jO.B9{o:Option V}{u:Option ar}(r:jO o u):o.isSome=u.isSome:=by
 cases o with
 |none=>cases u with
  |none=>rfl
  |some _=>exact(show False from r).elim
 |some _=>cases u with
  |none=>exact(show False from r).elim
  |some _=>rfl
theorem jO.getD{o:Option V}{u:Option ar}{d:V}{d':ar}(r:jO o u)(Gh:RelV d d'):RelV (o.getD d) (u.getD d'):=by
 cases o with
 |none=>cases u with
  |none=>exact Gh
  |some _=>exact(show False from r).elim
 |some _=>cases u with
  |none=>exact(show False from r).elim
  |some _=>exact r
theorem fh.val{kvs:List (dy×V)}{vs:List (dy×ar)}(r:fh kvs vs)(k:dy):jO (eb kvs k) (xE vs k):=by
 unfold fh at r;induction r with
 |nil=>exact xI
 |@cons p q ps iz h t ih=>
  obtain⟨ag,ai⟩:=h;by_cases e:p.1=k
  ·have e':q.1=k:=ag.symm.trans e;have b:xE (q::iz) k=U q.2:=by simp[xE,nM,e']
   rw[nI e,b];exact ai
  ·have e':¬q.1=k:=λz=>e (ag.trans z);have b:xE (q::iz) k=xE iz k:=by simp[xE,nM,e']
   rw[mb e,b];exact ih
theorem fh.any{kvs:List (dy×V)}{vs:List (dy×ar)}(r:fh kvs vs)(k:dy):(kvs.any λkv=>decide (kv.1=k))=vs.any λkv=>decide (kv.1=k):=by
 unfold fh at r;induction r with
 |nil=>rfl
 |cons h t ih=>rw[rQ,rQ,ih,h.1]
theorem fh.Na{kvs:List (dy×V)}{vs:List (dy×ar)}(r:fh kvs vs)(k:dy){y:V}{u:ar}(bP:RelV y u):fh (kvs.map λkv=>if kv.1=k then(kv.1,y)else kv) (vs.map λkv=>if kv.1=k then(kv.1,u)else kv):=by
 unfold fh at r⊢;induction r with
 |nil=>exact .nil
 |@cons p q ps iz h t ih=>
  rw[dO,dO];refine .cons ?_ ih;obtain⟨ag,ai⟩:=h;by_cases e:p.1=k
  ·rw[art e,art (ag.symm.trans e)];exact⟨ag,bP⟩
  ·rw[ars e,ars (λz=>e (ag.trans z))];exact⟨ag,ai⟩
theorem fh.put{kvs:List (dy×V)}{vs:List (dy×ar)}(r:fh kvs vs)(k:dy){y:V}{u:ar}(bP:RelV y u):fh (putK kvs k y) (AC vs k u):=by
 unfold putK AC;rw[r.any k];by_cases e:(vs.any λkv=>decide (kv.1=k))=ah
 ·rw[art e,art e];exact r.Na k bP
 ·rw[ars e,ars e];exact Paired.snoc r ⟨I,bP⟩
theorem fh.drop{kvs:List (dy×V)}{vs:List (dy×ar)}(r:fh kvs vs)(k:dy):fh (RX kvs k) (without vs k):=by
 unfold fh at r⊢;unfold RX without;induction r with
 |nil=>exact .nil
 |@cons p q ps iz h t ih=>
  obtain⟨ag,ai⟩:=h;rw[nL,nL];by_cases e:p.1=k
  ·have a:¬decide (p.1≠k)=ah:=by simp[e]
   have b:¬decide (q.1≠k)=ah:=by simp[ag.symm.trans e]
   rw[ars a,ars b];exact ih
  ·have e':¬q.1=k:=λz=>e (ag.trans z);have a:decide (p.1≠k)=ah:=by simp[e]
   have b:decide (q.1≠k)=ah:=by simp[e']
   rw[art a,art b];exact .cons ⟨ag,ai⟩ ih
theorem fh.length{kvs:List (dy×V)}{vs:List (dy×ar)}(r:fh kvs vs):kvs.length=vs.length:=Paired.length r
end
theorem rr{P:b6}{w:bX}{k:Key}{u:ar}(r:RelV (cc k) u):(eF P w).is k u=ah:=by
 cases k with
 |inl i=>obtain⟨t,e⟩:=(show∃t,u=HN i t from r);subst e;exact ajj P w i t
 |inr x=>obtain⟨t,e⟩:=(show∃t,u=Dq x t from r);subst e;exact ajk P w x t
theorem Vp{P:b6}{w:bX}:∀{ks:List Key}{us:List ar},bT (ks.map cc) us->ItemsAre (eF P w) ks us
 |[],_,r=>by rw[t5]at r;cases r;exact .nil
 |k::ks,_,r=>by
  rw[dO]at r;cases r with
  |cons h t=>exact .cons (rr h) (Vp t)
abbrev KT(H:ax):List (List Key×V)->List (List Key×Addr×ar)->Prop:=Paired λp q=>p.1=q.1/\H q.2.1=U (.tup (p.1.map cc))/\RelV p.2 q.2.2
theorem KT.val{H:ax}{kvs:List (List Key×V)}{xs:List (List Key×Addr×ar)}(r:KT H kvs xs)(k:List Key):jO (eb kvs k) ((r2 xs k).map (·.2)):=by
 induction r with
 |nil=>exact xI
 |@cons p q ps iz h t ih=>
  obtain⟨ag,_,ai⟩:=h;by_cases e:p.1=k
  ·have e':q.1=k:=ag.symm.trans e;have b:r2 (q::iz) k=U q.2:=by simp[r2,nM,e']
   rw[nI e,b];exact ai
  ·have e':¬q.1=k:=λz=>e (ag.trans z);have b:r2 (q::iz) k=r2 iz k:=by simp[r2,nM,e']
   rw[mb e,b];exact ih
theorem KT.Na{H:ax}{kvs:List (List Key×V)}{xs:List (List Key×Addr×ar)}(r:KT H kvs xs)(k:List Key){y:V}{u:ar}(bP:RelV y u):KT H (kvs.map λkv=>if kv.1=k then(kv.1,y)else kv) (xs.map (putAt k u)):=by
 induction r with
 |nil=>exact .nil
 |@cons p q ps iz h t ih=>
  rw[dO,dO];refine .cons ?_ ih;obtain⟨ag,ai,aN⟩:=h;unfold putAt;by_cases e:p.1=k
  ·rw[art e,art (ag.symm.trans e)];exact⟨ag,ai,bP⟩
  ·rw[ars e,ars (λz=>e (ag.trans z))];exact⟨ag,ai,aN⟩
theorem KT.put{H:ax}{kvs:List (List Key×V)}{xs:List (List Key×Addr×ar)}(r:KT H kvs xs)(k:List Key){b:Addr}{y:V}{u:ar}(ak:H b=U (.tup (k.map cc)))(bP:RelV y u):KT H (putK kvs k y) (storedH xs k b u):=by
 have e:(kvs.any λkv=>decide (kv.1=k))=(r2 xs k).isSome:=by rw[C3,(r.val k).B9,PZ]
 unfold putK storedH;rw[e];by_cases q:(r2 xs k).isSome=ah
 ·rw[art q,art q];exact r.Na k bP
 ·rw[ars q,ars q];exact Paired.snoc r ⟨I,ak,bP⟩
theorem KT.keeps{H ae:ax}{kvs:List (List Key×V)}{xs:List (List Key×Addr×ar)}(r:KT H kvs xs)(bV:∀b ys,H b=U (.tup ys)->ae b=U (.tup ys)):KT ae kvs xs:=Paired.Ml r λ_ _ z=>⟨z.1,bV _ _ z.2.1,z.2.2⟩
section
variable{P:b6}{w:bX}{H:ax}{h:Heap}{a:Addr}
theorem XB{u:dE}(ok:fI P w H h)(e:mh H a u):gF P w H h a u:=e.ok ok
theorem ra{kvs:List (Key×V)}(ok:fI P w H h)(e:mh H a (.cC kvs)):kvs.length<=sizeLine/\(a==kO)=aE/\∃vs,fh kvs vs/\h.DictOf (eF P w) a vs:=show gF P w H h a (.cC kvs)from XB ok e
theorem Ej{kvs:List (Key×V)}(ok:fI P w H h)(e:H a=U (.cC kvs)):kvs.length<=sizeLine/\(a==kO)=aE/\∃vs,fh kvs vs/\h.DictOf (eF P w) a vs:=ra ok (.inl e)
theorem th{ks:List Key}(ok:fI P w H h)(e:H a=U (.tup (ks.map cc))):(uj (eF P w)).is h ks a:=by obtain⟨_,its,r,o,ag,ai,n,aN⟩:=(show gF P w H h a (.tup (ks.map cc))from ok a _ e);exact⟨o,its.toArray,n,ag,ai,aN,by simpa using Vp r⟩
theorem sG{kvs:List (List Key×V)}(ok:fI P w H h)(e:mh H a (.e3 kvs)):kvs.length<=sizeLine/\(a==kO)=aE/\∃xs,KT H kvs xs/\h.DictOfH (uj (eF P w)) a xs:=by
 obtain⟨z,y,xs,r,o,es,ep,ag,ai,aN,bD,cw⟩:=(show gF P w H h a (.e3 kvs)from XB ok e);refine⟨z,y,xs,r,o,es,ep,ag,ai,aN,bD,λx ao=>?_,cw⟩;have all:∀{l:List (List Key×V)}{m:List (List Key×Addr×ar)},KT H l m->∀x∈m,(uj (eF P w)).is h x.1 x.2.1:=by
  intro l m q;induction q with
  |nil=>intro x ao;exact nomatch ao
  |@cons p q ps iz aK t ih=>
   intro x ao;rcases ek.mp ao with e|ao
   ·subst e;exact th ok (by rw[<-aK.1];exact aK.2.1)
   ·exact ih x ao
 exact all r x ao
theorem El{kvs:List (List Key×V)}(ok:fI P w H h)(e:H a=U (.e3 kvs)):kvs.length<=sizeLine/\(a==kO)=aE/\∃xs,KT H kvs xs/\h.DictOfH (uj (eF P w)) a xs:=sG ok (.inl e)
end
def gd(H:ax)(a:Addr)(y:V)(r:Option V):Prop:=(∃kvs k,mh H a (.cC kvs)/\y=cc k/\r=eb kvs k)\/∃kvs k b,mh H a (.e3 kvs)/\y=.ref b/\H b=U (.tup (k.map cc))/\r=eb kvs k
def mW(H:ax)(a:Addr)(y v:V)(ae:ax):Prop:=(∃kvs k,H a=U (.cC kvs)/\y=cc k/\kvs.length<sizeLine/\ae=upd H a (.cC (putK kvs k v)))\/∃kvs k b,H a=U (.e3 kvs)/\y=.ref b/\H b=U (.tup (k.map cc))/\kvs.length<sizeLine/\ae=upd H a (.e3 (putK kvs k v))
theorem gd.k{H:ax}{a:Addr}{kvs:List (Key×V)}{k:Key}(e:H a=U (.cC kvs)):gd H a (cc k) (eb kvs k):=.inl ⟨kvs,k,.inl e,I,I⟩
theorem gd.t{H:ax}{a b:Addr}{kvs:List (List Key×V)}{k:List Key}(e:H a=U (.e3 kvs))(e9:H b=U (.tup (k.map cc))):gd H a (.ref b) (eb kvs k):=.inr ⟨kvs,k,b,.inl e,I,e9,I⟩
theorem mW.k{H:ax}{a:Addr}{kvs:List (Key×V)}{k:Key}{v:V}(e:H a=U (.cC kvs))(au:kvs.length<sizeLine):mW H a (cc k) v (upd H a (.cC (putK kvs k v))):=.inl ⟨kvs,k,e,I,au,I⟩
theorem mW.t{H:ax}{a b:Addr}{kvs:List (List Key×V)}{k:List Key}{v:V}(e:H a=U (.e3 kvs))(e9:H b=U (.tup (k.map cc)))(au:kvs.length<sizeLine):mW H a (.ref b) v (upd H a (.e3 (putK kvs k v))):=.inr ⟨kvs,k,b,e,I,e9,au,I⟩
section
variable{X:bN}{pins:List (Addr×Obj)}{σ:St}{H:ax}{s:aT}{a:Addr}{y v:V}{u r:ar}{o:Option V}{A:dQ}{E:ar->aT->Prop}
theorem Inv.D'(ab:Inv X pins σ H s):kO<s.heap.objs.size:=by have h:k9<s.heap.objs.size:=(ab.mod.glob.keeps ab.iH).lt;exact aaB a5 h
theorem adM{Q:ar->aT->Prop}(a4:A.units+1<cLine)(ab:Inv X pins σ H s)(g:gd H a y (U v))(bP:RelV y u)(h:∀fc s',Inv X pins σ H s'->RelV v fc->Q fc s'):bp (bO X.prog X.w) A (Ax (.ref a) u) Q E s:=by
 rcases g with⟨kvs,k,e,eu,l⟩|⟨kvs,k,b,e,eu,e9,l⟩
 ·subst eu;obtain⟨z,hd,vs,rel,dZ⟩:=ra ab.bo e;obtain⟨fc,hw,nD⟩:=jO.some_of (v:=v) (o:=xE vs k) (by rw[l];exact rel.val k);exact abJ (rr bP) dZ.mapOf hw (h fc _ (ab.tok _) nD)
 ·subst eu;cases(show u=eZ b from bP);obtain⟨z,hd,xs,rel,dZ⟩:=sG ab.bo e;obtain⟨fc,hw,nD⟩:=jO.some_of (v:=v) (o:=(r2 xs k).map (·.2)) (by rw[l];exact rel.val k);obtain⟨p,aO,fb⟩:=aaG.mp hw;refine wpAny_getItem_heap (AD a4) (th ab.bo e9) dZ aO ?_;rw[fb];exact h fc _ (ab.tok _) nD
theorem adN{Q:ar->aT->Prop}(a4:A.units+1<cLine)(ab:Inv X pins σ H s)(g:gd H a y o)(bP:RelV y u)(h:∀s',Inv X pins σ H s'->Q (.bool o.isSome) s'):bp (bO X.prog X.w) A (jf .In u (.ref a)) Q E s:=by
 rcases g with⟨kvs,k,e,eu,l⟩|⟨kvs,k,b,e,eu,e9,l⟩
 ·subst eu;obtain⟨z,hd,vs,rel,dZ⟩:=ra ab.bo e;refine wpAny_in_of (rr bP) hd dZ.mapOf ?_;rw[<-(rel.val k).B9,<-l];exact h _ (ab.tok _)
 ·subst eu;cases(show u=eZ b from bP);obtain⟨z,hd,xs,rel,dZ⟩:=sG ab.bo e;refine wpAny_in_heap (AD a4) (th ab.bo e9) hd dZ ?_;have q:=(rel.val k).B9;rw[PZ]at q;rw[<-q,<-l];exact h _ (ab.tok _)
theorem adP{Q:ar->aT->Prop}(a4:A.units+1<cLine)(ab:Inv X pins σ H s)(g:gd H a y o)(bP:RelV y u)(h:∀s',Inv X pins σ H s'->Q (.bool (!o.isSome)) s'):bp (bO X.prog X.w) A (jf .NotIn u (.ref a)) Q E s:=by
 rcases g with⟨kvs,k,e,eu,l⟩|⟨kvs,k,b,e,eu,e9,l⟩
 ·subst eu;obtain⟨z,hd,vs,rel,dZ⟩:=ra ab.bo e;refine wpAny_notIn_of (rr bP) hd dZ.mapOf ?_;rw[<-(rel.val k).B9,<-l];exact h _ (ab.tok _)
 ·subst eu;cases(show u=eZ b from bP);obtain⟨z,hd,xs,rel,dZ⟩:=sG ab.bo e;refine wpAny_notIn_heap (AD a4) (th ab.bo e9) hd dZ ?_;have q:=(rel.val k).B9;rw[PZ]at q;rw[<-q,<-l];exact h _ (ab.tok _)
theorem JX{h':Heap}{t':Nat}{ob:dE}(ab:Inv X pins σ H s)(eA:qW (H a))(aP:xw a s.heap h')(he:∃q,h'.get? a=U q)(new:gF X.prog X.w (upd H a ob) h' a ob):Inv X pins σ (upd H a ob) {s with heap:=h',toks:=t'}:=ab.write (x:=a) (e:=a) eA (.inl I) (λb q ak z=>(aP.2 b ak).trans z) he new
theorem adU{P:b6}{w:bX}{ae:ax}{h':Heap}{kvs:List (Key×V)}{vs:List (Key×ar)}(z:kvs.length<=sizeLine)(hd:(a==kO)=aE)(rel:fh kvs vs)(dZ:h'.DictOf (eF P w) a vs):gF P w ae h' a (.cC kvs):=⟨z,hd,vs,rel,dZ⟩
theorem adQ{ae:ax}{Q:Unit->aT->Prop}(a4:A.units+1<cLine)(ab:Inv X pins σ H s)(g:mW H a y v ae)(bP:RelV y u)(di:RelV v r)(h:∀s',Inv X pins σ ae s'->Q () s'):bp (bO X.prog X.w) A (setItem (.ref a) u r) Q E s:=by
 rcases g with⟨kvs,k,e,eu,l,J7⟩|⟨kvs,k,b,e,eu,e9,l,J7⟩
 ·subst eu J7;obtain⟨z,hd,vs,rel,dZ⟩:=Ej ab.bo e;have a9:vs.length<=sizeLine:=by rw[<-rel.length];exact z
  have au:(putK kvs k v).length<=sizeLine:=by have:=zy kvs k v;omega
  refine wpAny_setItem_pairs (hsz:=a9) (rr bP) dZ λh' yZ aP=>h _ ?_;have he:∃q,h'.get? a=U q:=let⟨q,_,_,aK,_⟩:=yZ;⟨q,aK⟩;exact JX ab (by rw[e];exact xI) aP he (adU au hd (rel.put k di) yZ)
 ·subst eu J7;cases(show u=eZ b from bP);obtain⟨z,hd,xs,rel,dZ⟩:=El ab.bo e;have a9:xs.length<=sizeLine:=by rw[<-Paired.length rel];exact z
  have au:(putK kvs k v).length<=sizeLine:=by have:=zy kvs k v;omega
  refine wpAny_setItem_heap (hsz:=a9) (AD a4) (th ab.bo e9) dZ λh' yZ aP=>h _ ?_;obtain⟨q,es,ep,aK,ai,aN,bD,_,cw⟩:=yZ;refine JX ab (by rw[e];exact xI) aP ⟨q,aK⟩ ⟨au,hd,_,(rel.put k e9 di).keeps λc ys y2=>?_,q,es,ep,aK,ai,aN,bD,cw⟩;rw[aY (cH y2 e (λz=>nomatch z))];exact y2
end
section
variable{X:bN}{pins:List (Addr×Obj)}{σ:St}{H:ax}{s:aT}{a:Addr}{kvs:List (Key×V)}{k:Key}{u:ar}{A:dQ}{E:ar->aT->Prop}
theorem adO{Q:ar->aT->Prop}(ab:Inv X pins σ H s)(e:mh H a (.cC kvs))(h:∀t s',Inv X pins σ H s'->Q (.int kvs.length t) s'):bp (bO X.prog X.w) A (call (.builtin "len") [.ref a]) Q E s:=by obtain⟨z,hd,vs,rel,dZ⟩:=ra ab.bo e;refine call_len_dict hd dZ (by rw[<-rel.length];rw[AB]at z;omega) ?_;rw[<-rel.length];exact h _ _ (ab.tok _)
end
def Jd(i:Expr):Prop:=∀h2 qg,HX i aE h2 qg=Qs [h2,qg] (Ax h2 qg)
theorem Zc{prog:b6}{w:bX}{A:dQ}{E:ar->aT->Prop}{s:aT}{env:Env}{value slice:Expr}{pos:Pos}{T id:String}{Q:ar->aT->Prop}(au:HY (.type T) "__getitem__"=pure (U (.builtin id)))(aP:Jd slice)(h:bp (bO prog w) A (c' value env) (λo d7=>bp (bO prog w) A (c' slice env) (λi h4=>h4.TypeIs o T/\bp (bO prog w) A (Ax o i) Q E h4) E d7) E s):bp (bO prog w) A (c' (.Subscript value slice pos) env) Q E s:=by
 refine Subscript_ (lF h (λo d7 Fi=>lF Fi (λi h4 B7=>?_) λ_ _ x=>x) λ_ _ x=>x);obtain⟨ey,B7⟩:=B7;unfold P4;refine bg ?_;rw[getitemInPython_of_ne ey.not_modules];refine bg (wpAny_specialOf ey au ?_);have fin:bp (bO prog w) A (HX slice aE o i) (λr tO=>bp (bO prog w) A (letTemporaryGo value o r>>=λ_=>pure r) Q E tO) E h4:=by rw[aP o i];exact wpAny_operating (lF B7 (λr tO Fj=>bg (wpAny_letTemporaryGo (cD Fj))) λ_ _ x=>x)
 first
  |exact cD (bg fin)
  |exact bg (cD (bg fin))
  |exact bg fin
theorem adS{X:bN}{pins:List (Addr×Obj)}{σ:St}{H:ax}{s:aT}{a:Addr}{y:V}{o:Option V}(ab:Inv X pins σ H s)(g:gd H a y o):s.TypeIs (.ref a) "dict":=by
 rcases g with⟨kvs,k,e,_,_⟩|⟨kvs,k,b,e,_,_,_⟩
 ·obtain⟨_,_,vs,_,dZ⟩:=ra ab.bo e;exact dZ.typeIs
 ·obtain⟨_,_,xs,_,dZ⟩:=sG ab.bo e;exact dZ.typeIs
inductive ar6(Q:c9)(x:V)(y:V)(az:ax):Prop
 |mk (a v) (h0:x=.ref a) (ag:gd az a y (U v)) (ai:Q v az)
def anN(td ty:TE):TE:=λσ H Q=>td σ H λx H1=>ty σ H1 λy az=>ar6 Q x y az
inductive ar9(Q:c9)(y:V)(x:V)(az:ax):Prop
 |mk (a o) (h0:x=.ref a) (ag:gd az a y o) (ai:Q (.bB o.isSome) az)
def anQ(ty td:TE):TE:=λσ H Q=>ty σ H λy H1=>td σ H1 λx az=>ar9 Q y x az
inductive asa(Q:c9)(y:V)(x:V)(az:ax):Prop
 |mk (a o) (h0:x=.ref a) (ag:gd az a y o) (ai:Q (.bB (!o.isSome)) az)
def anS(ty td:TE):TE:=λσ H Q=>ty σ H λy H1=>td σ H1 λx az=>asa Q y x az
inductive arZ(D:Ends)(σ:St)(v:V)(x:V)(y:V)(aZ:ax):Prop
 |mk (a bz) (h0:x=.ref a) (ag:mW aZ a y v bz) (ai:D.cN σ bz)
def amA(td ty mQ:TE):fS:=λD σ H=>mQ σ H λv H1=>td σ H1 λx az=>ty σ az λy aZ=>arZ D σ v x y aZ
section
variable{X:bN}{o i e value:Expr}{pos pos' mO:Pos}{td ty mQ:TE}
theorem zO(a4:X.A.units+1<cLine)(aA:bC X o td)(av:bC X i ty)(aP:Jd i):bC X (.Subscript o i pos) (anN td ty):=by intro pins s σ H Q ab h;refine Zc PySem.F.slot_dict_getitem.lookup aP (b2 (aA pins s σ H _ ab h) λu s1⟨x,H1,a',bq,a7⟩=>b2 (av pins s1 σ H1 _ a' a7) λqg s2⟨y,az,b7,bP,a,v,ex,g,bc⟩=>?_);subst ex;obtain rfl:u=eZ a:=bq;exact⟨adS b7 g,adM a4 b7 g bP λfc s3 eP nD=>⟨v,az,eP,nD,bc⟩⟩
theorem F5(a4:X.A.units+1<cLine)(av:bC X i ty)(aA:bC X o td):DV X .In i o (anQ ty td):=by intro pins s σ H Q ab h;refine b2 (av pins s σ H _ ab h) λqg s1⟨y,H1,a',bP,a7⟩=>b2 (aA pins s1 σ H1 _ a' a7) λu s2⟨x,az,b7,bq,a,h2,ex,g,bc⟩=>?_;subst ex;obtain rfl:u=eZ a:=bq;exact adN a4 b7 g bP λs3 eP=>⟨.bB h2.isSome,az,eP,I,bc⟩
theorem alo(a4:X.A.units+1<cLine)(av:bC X i ty)(aA:bC X o td):DV X .NotIn i o (anS ty td):=by intro pins s σ H Q ab h;refine b2 (av pins s σ H _ ab h) λqg s1⟨y,H1,a',bP,a7⟩=>b2 (aA pins s1 σ H1 _ a' a7) λu s2⟨x,az,b7,bq,a,h2,ex,g,bc⟩=>?_;subst ex;obtain rfl:u=eZ a:=bq;exact adP a4 b7 g bP λs3 eP=>⟨.bB (!h2.isSome),az,eP,I,bc⟩
theorem w2(a4:X.A.units+1<cLine)(aA:bC X o td)(av:bC X i ty)(bU:bC X value mQ)(aP:xC value (U (.Subscript o i pos')) pos.line X.env=pure aE):lJ X (.Assign [.Subscript o i pos'] value pos) (amA td ty mQ):=by intro pins s σ H D ab h;refine wpAny_Assign_Subscript (b2 (bU pins s σ H _ ab h) λr s1⟨v,H1,a',di,a7⟩=>b2 (aA pins s1 σ H1 _ a' a7) λu s2⟨x,az,b7,bq,bc⟩=>b2 (av pins s2 σ az _ b7 bc) λqg s3⟨y,aZ,eP,bP,a,bz,ex,g,c_⟩=>?_) aP;subst ex;obtain rfl:u=eZ a:=bq;exact adQ a4 eP g bP di λs4 jL=>⟨σ,bz,jL,c_⟩
end
theorem adT{P:b6}{w:bX}{H:ax}(h:Heap)(ak:kO<h.objs.size):gF P w H (h.push {cls:=.type "dict",data:=.dict #[]}) h.objs.size (.cC []):=⟨ec _,beq_eq_false_iff_ne.mpr (bQ (hS ak)),[],.nil,aa6 h⟩
theorem adX{P:b6}{w:bX}{H:ax}(h:Heap)(ak:kO<h.objs.size):gF P w H (h.push {cls:=.type "dict",data:=.dict #[]}) h.objs.size (.e3 []):=⟨ec _,beq_eq_false_iff_ne.mpr (bQ (hS ak)),[],.nil,_,#[],0,fX _ I,⟨I,I,I⟩,I,I,qE⟩
def anR:TE:=λ_ H Q=>∀p,H p=af->Q (.ref p) (upd H p (.cC []))
section
variable{X:bN}{pos:Pos}
theorem zP:bC X (.Dict [] [] pos) anR:=λpins s σ H Q ab h=>wpAny_Dict_empty ⟨.ref s.heap.objs.size,_,ab.laid (a:=s.heap.objs.size) (o:=.cC []) (t':=s.toks) (λ_ _ q=>fG _ q) (bR _) (adT s.heap ab.D'),I,h _ (ab.bo.fresh (bR _))⟩
end
def ny(kvs more:List (Key×V)):List (Key×V):=more.foldl (λacc kv=>putK acc kv.1 kv.2) kvs
theorem fh.merge:∀{more:List (Key×V)}{rs:List (Key×ar)}{kvs:List (Key×V)}{vs:List (Key×ar)},fh more rs->fh kvs vs->fh (ny kvs more) (Dz vs rs):=by
 intro more rs kvs vs r;unfold fh at r;induction r generalizing kvs vs with
 |nil=>intro q;exact q
 |@cons p q ps iz h t ih=>
  intro er;have e:fh (putK kvs p.1 p.2) (AC vs q.1 q.2):=by have:=er.put p.1 h.2;rw[<-h.1];exact this
  exact ih e
theorem VN:∀(more kvs:List (Key×V)),(ny kvs more).length<=kvs.length+more.length
 |[],kvs=>by show kvs.length<=kvs.length+0;omega
 |p::r,kvs=>by have ag:=VN r (putK kvs p.1 p.2);have ai:=zy kvs p.1 p.2;show(ny (putK kvs p.1 p.2) r).length<=_;rw[cW];omega
structure acC(X:bN)(o:Expr)(m:Str)(apos:Pos)(e:Expr)(g7:Pos):Prop where
 base:oC o m X.env (c' o X.env)=c' o X.env
 few:((jC g7 (eO [e] X.env)).all (λx=>!x.1)&&(Dv g7 (Dy [] X.env)).all (λx=>x.1.isSome)&&decide (([e]:List Expr).length+([]:List xx).length+(if([]:List xx).isEmpty then 0 else 1)<30))=ah
 line:(apos.endLine==g7.line)=ah
 Pt:jC g7 (eO [e] X.env)=[(aE,c' e X.env)]
structure acD(X:bN)(o:Expr)(m:Str)(apos:Pos)(e f:Expr)(g7:Pos):Prop where
 base:oC o m X.env (c' o X.env)=c' o X.env
 few:((jC g7 (eO [e,f] X.env)).all (λx=>!x.1)&&(Dv g7 (Dy [] X.env)).all (λx=>x.1.isSome)&&decide (([e,f]:List Expr).length+([]:List xx).length+(if([]:List xx).isEmpty then 0 else 1)<30))=ah
 line:(apos.endLine==g7.line)=ah
 Pt:jC g7 (eO [e,f] X.env)=[(aE,c' e X.env),(aE,c' f X.env)]
def I'(H:ax)(a:Addr):Prop:=(∃kvs,mh H a (.cC kvs))\/∃kvs,mh H a (.e3 kvs)
theorem Vm{X:bN}{pins:List (Addr×Obj)}{σ:St}{H:ax}{s:aT}{a:Addr}(ab:Inv X pins σ H s)(d:I' H a):s.TypeIs (.ref a) "dict"/\(∀b,eZ a=.ref b->∃ob,s.heap.get? b=U ob/\ob.dict=af)/\(a==kO)=aE:=by
 rcases d with⟨kvs,e⟩|⟨kvs,e⟩
 ·obtain⟨_,hd,vs,_,dZ⟩:=ra ab.bo e;refine⟨dZ.typeIs,λb q=>?_,hd⟩;cases q;obtain⟨ob,_,_,ag,ai,_⟩:=dZ;exact⟨ob,ag,ai.2.1⟩
 ·obtain⟨_,hd,xs,_,dZ⟩:=sG ab.bo e;refine⟨dZ.typeIs,λb q=>?_,hd⟩;cases q;obtain⟨ob,_,_,ag,ai,_⟩:=dZ;exact⟨ob,ag,ai.2.1⟩
section
variable{X:bN}{pins:List (Addr×Obj)}{σ:St}{H:ax}{s:aT}{a:Addr}{y d:V}{u r:ar}{o:Option V}{A:dQ}{E:ar->aT->Prop}
theorem adK{Q:ar->aT->Prop}(a4:A.units+1<cLine)(ab:Inv X pins σ H s)(g:gd H a y o)(bP:RelV y u)(h:∀fc s',Inv X pins σ H s'->RelV (o.getD .bZ) fc->Q fc s'):bp (bO X.prog X.w) A (call (.builtin "dict.get") [.ref a,u]) Q E s:=by
 rcases g with⟨kvs,k,e,eu,l⟩|⟨kvs,k,b,e,eu,e9,l⟩
 ·subst eu;obtain⟨z,hd,vs,rel,dZ⟩:=ra ab.bo e;refine Dx PySem.F.slot_dict_get dZ.typeIs PySem.F.entry_dict_get (PySem.F.args_dict_get_2 _ _) (meets_dict_get (eF X.prog X.w) a (rr bP) hd) ⟨_,dZ.mapOf,h _ _ (ab.tok _) ?_⟩;rw[l];exact(rel.val k).getD I
 ·subst eu;cases(show u=eZ b from bP);obtain⟨z,hd,xs,rel,dZ⟩:=sG ab.bo e;refine Dx PySem.F.slot_dict_get dZ.typeIs PySem.F.entry_dict_get (PySem.F.args_dict_get_2 _ _) (meetsH_dict_get (uj (eF X.prog X.w)) a b hd) ⟨AD a4,k,xs,th ab.bo e9,dZ,h _ _ (ab.tok _) ?_⟩;rw[l];exact(rel.val k).getD I
theorem adL{Q:ar->aT->Prop}(a4:A.units+1<cLine)(ab:Inv X pins σ H s)(g:gd H a y o)(bP:RelV y u)(Gh:RelV d r)(h:∀fc s',Inv X pins σ H s'->RelV (o.getD d) fc->Q fc s'):bp (bO X.prog X.w) A (call (.builtin "dict.get") [.ref a,u,r]) Q E s:=by
 rcases g with⟨kvs,k,e,eu,l⟩|⟨kvs,k,b,e,eu,e9,l⟩
 ·subst eu;obtain⟨z,hd,vs,rel,dZ⟩:=ra ab.bo e;refine Dx PySem.F.slot_dict_get dZ.typeIs PySem.F.entry_dict_get (PySem.F.args_dict_get_3 _ _ _) (meets_dict_get_default (eF X.prog X.w) a (rr bP) hd r) ⟨_,dZ.mapOf,h _ _ (ab.tok _) ?_⟩;rw[l];exact(rel.val k).getD Gh
 ·subst eu;cases(show u=eZ b from bP);obtain⟨z,hd,xs,rel,dZ⟩:=sG ab.bo e;refine Dx PySem.F.slot_dict_get dZ.typeIs PySem.F.entry_dict_get (PySem.F.args_dict_get_3 _ _ _) (meetsH_dict_get_default (uj (eF X.prog X.w)) a b hd r) ⟨AD a4,k,xs,th ab.bo e9,dZ,h _ _ (ab.tok _) ?_⟩;rw[l];exact(rel.val k).getD Gh
end
inductive ar7(ty:TE)(σ:St)(Q:c9)(x:V)(H1:ax):Prop
 |mk (a) (h0:x=.ref a) (ag:I' H1 a) (ai:ty σ H1 λy az=>∃o,gd az a y o/\Q (o.getD .bZ) az)
def anO(td ty:TE):TE:=λσ H Q=>td σ H λx H1=>ar7 ty σ Q x H1
inductive ar8(ty:TE)(k5:TE)(σ:St)(Q:c9)(x:V)(H1:ax):Prop
 |mk (a) (h0:x=.ref a) (ag:I' H1 a) (ai:ty σ H1 λy az=>k5 σ az λz aZ=>∃o,gd aZ a y o/\Q (o.getD z) aZ)
def anP(td ty k5:TE):TE:=λσ H Q=>td σ H λx H1=>ar8 ty k5 σ Q x H1
section
variable{X:bN}{o e f:Expr}{apos g7:Pos}{td ty k5:TE}
theorem als(a4:X.A.units+1<cLine)(aA:bC X o td)(he:bC X e ty)(m:acC X o "get" apos e g7):bC X (.Call (.Attribute o "get" apos) [e] [] g7) (anO td ty):=by intro pins s σ H Q ab h;refine wpAny_Call_method m.base m.few m.line PySem.F.plainAttrs_dict PySem.F.slot_dict_get PySem.F.type_dict_get (b2 (aA pins s σ H _ ab h) λu s1⟨x,H1,a',bq,a,ex,d,a7⟩=>?_);subst ex;obtain rfl:u=eZ a:=bq;obtain⟨t1,k4,_⟩:=Vm a' d;refine⟨t1,k4,?_⟩;rw[m.Pt];refine Dn I (HH (Ap (b2 (he pins s1 σ H1 _ a' a7) λqg s2⟨y,az,b7,bP,h2,g,bc⟩=>Dp ?_)));exact adK a4 b7 g bP λfc s3 eP nD=>⟨_,az,eP,nD,bc⟩
theorem WZ(a4:X.A.units+1<cLine)(aA:bC X o td)(he:bC X e ty)(hf:bC X f k5)(m:acD X o "get" apos e f g7):bC X (.Call (.Attribute o "get" apos) [e,f] [] g7) (anP td ty k5):=by
 intro pins s σ H Q ab h;refine wpAny_Call_method m.base m.few m.line PySem.F.plainAttrs_dict PySem.F.slot_dict_get PySem.F.type_dict_get (b2 (aA pins s σ H _ ab h) λu s1⟨x,H1,a',bq,a,ex,d,a7⟩=>?_);subst ex;obtain rfl:u=eZ a:=bq;obtain⟨t1,k4,_⟩:=Vm a' d;refine⟨t1,k4,?_⟩;rw[m.Pt];refine Dn I (HH (Ap (b2 (he pins s1 σ H1 _ a' a7) λqg s2⟨y,az,b7,bP,bc⟩=>Ap (b2 (hf pins s2 σ az _ b7 bc) λaqp s3⟨z,aZ,eP,w8,h2,g,c_⟩=>Dp ?_))))
 exact adL a4 eP g bP w8 λfc s4 jL nD=>⟨_,aZ,jL,nD,c_⟩
end
section
variable{X:bN}{pins:List (Addr×Obj)}{σ:St}{H:ax}{s:aT}{a:Addr}{kvs:List (Key×V)}{A:dQ}{E:ar->aT->Prop}
end
section
variable{X:bN}{pins:List (Addr×Obj)}{σ:St}{H:ax}{s:aT}{a:Addr}{y:V}{u:ar}{A:dQ}{E:ar->aT->Prop}
end
theorem Px:entryFor table "dict.update.loop"=U oB.«dict.update.loop»:=entryFor_of_tree (by kernel_rfl)
theorem xg:plainId "dict.update.loop"=ah:=aD
section
variable{prog:b6}{w:bX}{A:dQ}{E:ar->aT->Prop}
end
section
variable{X:bN}
end
theorem ac6:jD "reversed"=U (.type "reversed"):=aD
section
variable{X:bN}{pins:List (Addr×Obj)}{σ:St}{H:ax}{s:aT}{h':Heap}
theorem Inv.G6{t':Nat}{ch:List Addr}(ab:Inv X pins σ H s)(k:∀b o,b∉ch->s.heap.get? b=U o->h'.get? b=U o)(hf:∀b∈ch,iS X pins H b):Inv X pins σ H {s with heap:=h',toks:=t'}:=by
 have tr:∀b u,H b=U u->b∉ch:=λb u e z=>by have q:=(hf b z).1;rw[q]at e;cases e
 refine ab.step (g':=s.gens) (d':=s.drawn) (ch:=ch) (λb ak=>⟨(hf b ak).2.2.2.1,(hf b ak).2.1,(hf b ak).2.2.2.2.1,(hf b ak).2.2.2.2.2⟩) (λb o _ _ aF e _=>k b o aF e) (λb o _ _ aF e _=>⟨o.slots,k b o aF e⟩) (λ_ _ _ _ n=>n) (λb o aF e=>⟨o,k b o aF e⟩) (λ_ _ e=>e) (λ_ _ _ e=>e) (λb ps e=>⟨#[],by rw[e];simp⟩) (λm hm=>?_) (λb u e=>?_) ab.bare
 ·obtain⟨o,es,ep,aA,r⟩:=hm;exact⟨o,es,ep,k _ o (λz=>(hf _ z).2.1 I) aA,r⟩
 ·refine(ab.bo b u e).qu (λc v aF q=>k c v ?_ q) (λ_ q=>q) λ_ _ q=>q;rcases aF with z|z
  ·rw[z];exact tr b u e
  ·exact tr c _ z
theorem Inv.G7{t':Nat}{ch:List Addr}{T:Addr}{ob:dE}(ab:Inv X pins σ H s)(k:∀b o,b∉ch->s.heap.get? b=U o->h'.get? b=U o)(hf:∀b∈ch,iS X pins H b)(ey:s.heap.objs.size<=T)(new:gF X.prog X.w (upd H T ob) h' T ob):Inv X pins σ (upd H T ob) {s with heap:=h',toks:=t'}:=by
 have aC:H T=af:=ab.bo.fresh ey;have tr:∀b u,H b=U u->b∉ch:=λb u e z=>by have q:=(hf b z).1;rw[q]at e;cases e
 refine ab.step (g':=s.gens) (d':=s.drawn) (ch:=ch) (λb ak=>⟨(hf b ak).2.2.2.1,(hf b ak).2.1,(hf b ak).2.2.2.2.1,(hf b ak).2.2.2.2.2⟩) (λb o _ _ aF e _=>k b o aF e) (λb o _ _ aF e _=>⟨o.slots,k b o aF e⟩) (λb o _ e n=>?_) (λb o aF e=>⟨o,k b o aF e⟩) (λb xs e=>?_) (λb o u e=>?_) (λb ps e=>⟨#[],?_⟩) (λm hm=>?_) (λb u e=>?_) ab.bare
 ·rw[aY (hS (h5 (ef e) ey))];exact n
 ·rw[aY (bj e aC)];exact e
 ·rw[aY (bj e aC)];exact e
 ·rw[aY (bj e aC),e];simp
 ·obtain⟨o,es,ep,aA,r⟩:=hm;exact⟨o,es,ep,k _ o (λz=>(hf _ z).2.1 I) aA,r⟩
 ·by_cases ak:b=T
  ·subst ak;rw[aW]at e;cases e;exact new
  ·rw[aY ak]at e;refine(ab.bo b u e).qu (λc v aF q=>k c v ?_ q) (λc q=>by rw[aY (bj q aC)];exact q) λc xs q=>by rw[aY (bj q aC)];exact q
   rcases aF with z|z
   ·rw[z];exact tr b u e
   ·exact tr c _ z
theorem Inv.lock{d:Addr}{u:dE}(ab:Inv X pins σ H s)(h:H d=U u)(eA:qW (U u)):∃cO,Inv X pins σ (upd H d (.dV cO u)) s:=by
 have x:=ab.bo d u h;have ex:∃cO,s.heap.get? d=U cO:=by
  cases u with
  |lst xs=>obtain⟨_,_,_,_,e⟩:=x;exact⟨_,e⟩
  |cC kvs=>obtain⟨_,_,_,_,o,_,_,e,_⟩:=x;exact⟨o,e⟩
  |e3 kvs=>obtain⟨_,_,_,_,o,_,_,e,_⟩:=x;exact⟨o,e⟩
  |set S n=>obtain⟨o,_,_,_,e,_⟩:=x;exact⟨o,e⟩
  |ins C aq bk=>obtain⟨_,_,_,e,_⟩:=x;exact⟨_,e⟩
  |ext xo=>obtain⟨_,⟨_,e⟩,_⟩:=x;exact⟨_,e⟩
  |_=>exact iD eA
 obtain⟨cO,e⟩:=ex;have new:gF X.prog X.w (upd H d (.dV cO u)) s.heap d (.dV cO u):=by
  refine⟨e,x.qu (λb v _ q=>q) (λb q=>?_) λb xs q=>?_⟩
  ·rw[aY (λz=>by rw[z,h]at q;cases q;exact eA)];exact q
  ·rw[aY (λz=>by rw[z,h]at q;cases q;exact eA)];exact q
 exact⟨cO,ab.write (x:=d) (e:=d) (t':=s.toks) (h':=s.heap) (by rw[h];exact eA) (.inl I) (λb v _ q=>q) ⟨cO,e⟩ new⟩
theorem Inv.Ct{d:Addr}{u:dE}(ab:Inv X pins σ H s)(h:H d=U u)(eA:qW (U u)):∀o' hR,X.uG d≠U (.dV o' hR):=λo' hR e=>by have q:=ab.base.lU d o' hR e;rw[h]at q;cases q;exact eA
theorem Inv.unlock{d:Addr}{cO:Obj}{u:dE}(ab:Inv X pins σ H s)(h:H d=U (.dV cO u))(aC:∀o' hR,X.uG d≠U (.dV o' hR)):Inv X pins σ (upd H d u) s:=by
 have zG:∀b o,H b=U o->(∀o' hR,o≠.dV o' hR)->b≠d:=λb o e fu z=>by rw[z,h]at e;cases e;exact fu _ _ I
 have neN:∀b,H b=af->b≠d:=λb e z=>by rw[z,h]at e;cases e
 refine⟨ab.ok,ab.os,ab.bare,⟨ab.base.keep,ab.base.slot,λb o e n ao=>?_,ab.base.there,λb xs e=>?_,λb o x e=>?_,λb ps e=>?_⟩,ab.loc,ab.cell,?_,λx c e=>?_,λp aO=>?_,λb o e=>?_,ab.len⟩
 ·rw[aY (neN b (ab.base.free b o e n ao))];exact ab.base.free b o e n ao
 ·have q:=ab.base.nG b xs e;rw[aY (zG b _ q (λ_ _ z=>nomatch z))];exact q
 ·have q:=ab.base.lU b o x e;rw[aY (λz=>by rw[z]at e;exact aC _ _ e)];exact q
 ·obtain⟨m,q⟩:=ab.base.nE b ps e;exact⟨m,by rw[aY (zG b _ q (λ_ _ z=>nomatch z))];exact q⟩
 ·rw[aY (neN _ ab.free)];exact ab.free
 ·rw[aY (neN c (ab.m_ x c e))];exact ab.m_ x c e
 ·obtain⟨e,n,r⟩:=ab.pin p aO;exact⟨e,by rw[aY (neN _ n)];exact n,r⟩
 ·by_cases ak:b=d
  ·rw[ak,aW]at e;cases e;rw[ak];obtain⟨_,x⟩:=ab.bo d _ h;exact x.qu (λc v _ q=>q) (λc q=>by rw[aY (zG c _ q (λ_ _ z=>nomatch z))];exact q) λc xs q=>by rw[aY (zG c _ q (λ_ _ z=>nomatch z))];exact q
  ·rw[aY ak]at e;exact(ab.bo b o e).qu (λc v _ q=>q) (λc q=>by rw[aY (zG c _ q (λ_ _ z=>nomatch z))];exact q) λc xs q=>by rw[aY (zG c _ q (λ_ _ z=>nomatch z))];exact q
end
inductive an1(t:fS)(D:Ends)(σ:St)(H:ax):Prop
 |mk (d u) (h0:H d=U u) (ag:qW (U u)) (ai:∀cO,t ⟨λcj ae=>ae d=U (.dV cO u)/\D.cN cj (upd ae d u),λv ae=>ae d=U (.dV cO u)/\D.zU v (upd ae d u),λcj ae=>ae d=U (.dV cO u)/\D.iH cj (upd ae d u),λcj ae=>ae d=U (.dV cO u)/\D.dC cj (upd ae d u)⟩ σ (upd H d (.dV cO u)))
inductive an2(t:TE)(σ:St)(H:ax)(Q:c9):Prop
 |mk (d u) (h0:H d=U u) (ag:qW (U u)) (ai:∀cO,t σ (upd H d (.dV cO u)) λv ae=>ae d=U (.dV cO u)/\Q v (upd ae d u))
section
variable{X:bN}
theorem M3{st:Stmt}{t:fS}(h:lJ X st t):lJ X st (an1 t):=by
 intro pins s σ H D ab hw;obtain⟨d,u,hd,eA,hw⟩:=hw;obtain⟨cO,a'⟩:=ab.lock hd eA;refine b2 (h pins s σ _ _ a' (hw cO)) λf s1 q=>?_;cases f with
 |next=>obtain⟨cj,ae,b7,e,q⟩:=q;exact⟨cj,_,b7.unlock e (ab.Ct hd eA),q⟩
 |brk=>obtain⟨cj,ae,b7,e,q⟩:=q;exact⟨cj,_,b7.unlock e (ab.Ct hd eA),q⟩
 |cont=>obtain⟨cj,ae,b7,e,q⟩:=q;exact⟨cj,_,b7.unlock e (ab.Ct hd eA),q⟩
 |ret v=>obtain⟨x,cj,ae,b7,r,e,q⟩:=q;exact⟨x,cj,_,b7.unlock e (ab.Ct hd eA),r,q⟩
theorem alz{e:Expr}{t:TE}(h:bC X e t):bC X e (an2 t):=by intro pins s σ H Q ab hw;obtain⟨d,u,hd,eA,hw⟩:=hw;obtain⟨cO,a'⟩:=ab.lock hd eA;refine b2 (h pins s σ _ _ a' (hw cO)) λv s1⟨x,H1,b7,r,aQ,q⟩=>?_;exact⟨x,_,b7.unlock aQ (ab.Ct hd eA),r,q⟩
theorem zS{ee:Expr}{pins:List (Addr×Obj)}{σ:St}{H:ax}{s:aT}{R:It->ax->Prop}{J:It}{fw:Nat->Heap->Prop}{tk:Nat}(ab:Inv X pins σ H s)(o:Obj)(T:Turn X.prog X.w X.K ee J [s.heap.objs.size] s.heap.objs.size fw)(st:fw 0 (s.heap.push o))(q:R J H):Jf X pins σ ee R (.ref s.heap.objs.size) {s with heap:=s.heap.push o,toks:=tk}:=by
 refine⟨s.heap.objs.size,[s.heap.objs.size],fw,J,H,I,ab.kept λb ob e=>fG _ e,T,st,λb ak=>?_,q⟩;have e:b=s.heap.objs.size:=by simpa using ak
 subst e;exact ab.v9 (bR _) (ab.bo.fresh (bR _))
end
def Q7(i j c:Int)(n:Nat):Prop:=c≠0/\c.natAbs<1073741824/\apD i j c=ah/\aaS i j c=n
theorem Q7.neg{i j:Int}(ay:-(2^62)<=i)(af4:i<2^62)(ak:-(2^62)<=j)(sR:j<2^62):Q7 i j (-1) (i-j).toNat:=⟨a5,a5,PySem.W.small_down ay af4 ak sR,PySem.W.rangeSize_downNat i j⟩
section
variable{X:bN}{ee:Expr}
end
def Jb(K:PySem.W.Frag)(a:Addr)(n:Nat):It:=⟨λi H=>i<n/\∃(xs:List V)(x:V),aI K H a xs/\xs[n-1-i]? =U x,λi H x ae=>ae=H/\∀xs,aI K H a xs->xs[n-1-i]? =U x,λi _=>n<=i⟩
theorem aor{P:b6}{w:bX}{K:PySem.W.Frag}{ee:Expr}(a it:Addr)(n:Nat):Turn P w K ee (Jb K a n) [it] it (λi h=>i<=n/\h.IsRevIter it a ((n:Int)-1-(i:Nat)))where
 mem:=bl
 obj:=λi h st b ak=>by
  have e:b=it:=by simpa using ak
  subst e;obtain⟨_,o,e,c,d⟩:=st;exact⟨o,e,λv z=>by rw[d]at z;cases z⟩
 keep:=λi h h' st k=>⟨st.1,st.2.at λo e=>k it bl o e⟩
 item:=by intro X cX hw fT aF i pins s σ H E ab hf st bM;subst cX hw fT;obtain⟨fU,xs,x,aK,ao⟩:=bM;obtain⟨its,di,p,a9⟩:=ab.list aK;obtain⟨u,a4,gz⟩:=di.get ao;obtain⟨f0,f1,f2,ew,f4,gu⟩:=hf it bl;obtain⟨_,hit⟩:=st;have aS:(n:Int)-1-((i:Nat):Int)=((n-1-i:Nat):Int):=aG;rw[aS]at hit;refine wpAny_pyNext_rev_item hit p.isList (x:=u) (by simpa using a4) λh' eG fF=>?_;have aQ:((n-1-i:Nat):Int)-1=(n:Int)-1-((i+1:Nat):Int):=aG;rw[aQ]at eG;have a':Inv X pins σ H {s with heap:=h'}:=ab.turned (t':=s.toks) (λb o ak e=>(fF.2 b ak).trans e) f0 f1 ew f4 gu;obtain⟨o,e,c,d⟩:=id eG;exact⟨u,I,Bs (s:={s with heap:=h'}) e c d a5 ⟨x,H,a',gz,⟨I,λys a_=>by rw[ab.Cg a_ aK];exact ao⟩,⟨fU,eG⟩,λb ak=>(hf b ak).1⟩⟩
 done:=by intro X cX hw fT aF i pins s σ H E ab hf st bM;subst cX hw fT;obtain⟨f0,f1,f2,ew,f4,gu⟩:=hf it bl;obtain⟨fU,hit⟩:=st;have o5:n<=i:=bM;have aS:(n:Int)-1-((i:Nat):Int)=-1:=aG;rw[aS]at hit;exact wpAny_pyNext_rev_end (ab.ok.hd aF) hit λh' e9=>⟨I,ab.turned (t':=s.toks) (λb o ak e=>e9 b o ak e) f0 f1 ew f4 gu⟩
 self:=λA i s Q E st h=>abU st.2 h
inductive arC(K:PySem.W.Frag)(R:It->ax->Prop)(vs:List V)(H1:ax):Prop
 |mk (a:Addr) (xs:List V) (h0:vs=[.ref a]) (ag:aI K H1 a xs) (ai:R (Jb K a xs.length) H1)
def ah8(K:PySem.W.Frag)(bt:hp):TI:=λσ H R=>bt σ H λvs H1=>arC K R vs H1
section
variable{X:bN}{ee:Expr}
theorem alG{e:Expr}{bt:hp}{p pos:Pos}(bM:lI X "reversed")(hm:X.ap "reversed"=af)(ay:lc X [e] bt)(aP:eO [e] X.env=[(aE,c' e X.env)]:=by rfl):nW X ee (.Call (.Name "reversed" p) [e] [] pos) (ah8 X.K bt):=by
 intro pins s σ H R ab h;refine Call_ (ti ab bM hm ac6 (An (b2 (ay pos pins s σ H _ ab h) λus s1⟨vs,H1,a',bK,a7⟩=>?_) aP I));obtain⟨a,xs,e,aK,q⟩:=a7;subst e;cases bK with
 |cons r iO=>
  cases iO;cases r;obtain⟨its,di,p',a9⟩:=a'.list aK;have au:=di.length;have aS:((its.toArray.size:Nat):Int)-1=(xs.length:Int)-1-((0:Nat):Int):=by simp only[fO];omega
  refine call_reversed_list p'.isList (abU (l:=a) (i:=((its.toArray.size:Nat):Int)-1) ⟨_,fX _ I,I,I⟩ ?_);refine zS (tk:=s1.toks) a' _ (aor a _ xs.length) ⟨ec _,?_⟩ q;rw[<-aS];exact⟨_,fX _ I,I,I⟩
end
def xU(x:Str):It:=⟨λi _=>i<x.cps.size,λi H v ae=>ae=H/\∃c,x.cps[i]? =U c/\v=.str ⟨#[c]⟩,λi _=>x.cps.size<=i⟩
theorem ZG{P:b6}{w:bX}{K:PySem.W.Frag}{ee:Expr}(it:Addr)(x:Str)(t:Tok)(ty:String)(ta:ty="str_ascii_iterator"\/ty="str_iterator"):Turn P w K ee (xU x) [it] it (λi h=>h.IsStrIter it ty x t i)where
 mem:=bl
 obj:=λi h st b ak=>by
  have e:b=it:=by simpa using ak
  subst e;obtain⟨o,e,c,d⟩:=st;exact⟨o,e,λv z=>by rw[d]at z;cases z⟩
 keep:=λi h h' st k=>let⟨o,aA,r⟩:=st;⟨o,k it bl o aA,r⟩
 item:=by
  intro X cX hw fT aF i pins s σ H E ab hf st bM;subst cX hw fT;obtain⟨f0,f1,f2,ew,f4,gu⟩:=hf it bl;have W:Walks X.prog X.w X.A it [it] [it] x.cps.size (SignAt x) (λi h=>h.IsStrIter it ty x t i):=by
   rcases ta with e|e
   ·rw[e];exact Walks.strAscii (ab.ok.hd aF) it x t
   ·rw[e];exact Walks.strWide (ab.ok.hd aF) it x t
  have qc:["enumerate","zip","dict_itemiterator","dict_reverseitemiterator","odict_iterator","itertools.zip_longest","itertools.pairwise"].contains ty=aE:=by
   rcases ta with e|e
   ·rw[e];decide
   ·rw[e];decide
  refine W.item i s _ _ bM st λv h' tk bU eG iu=>?_;obtain⟨c,u,EQ,rfl⟩:=bU;have a':Inv X pins σ H {s with heap:=h',toks:=tk}:=ab.turned (λb o ak e=>iu b o (by simpa using ak) e) f0 f1 ew f4 gu;obtain⟨qp,e,ads,dZ⟩:=id eG;exact⟨_,I,Bs (s:={s with heap:=h',toks:=tk}) e ads dZ qc ⟨.str ⟨#[c]⟩,H,a',⟨u,I⟩,⟨I,c,EQ,I⟩,eG,λb ak=>(hf b ak).1⟩⟩
 done:=by
  intro X cX hw fT aF i pins s σ H E ab hf st bM;subst cX hw fT;obtain⟨f0,f1,f2,ew,f4,gu⟩:=hf it bl;have ao:x.cps[i]? =af:=Z5 bM;rcases ta with e|e
  ·rw[e]at st;exact wpAny_pyNext_ascii_end (ab.ok.hd aF) st ao λh' e9=>⟨I,ab.turned (t':=s.toks) (λb o ak e=>e9 b o ak e) f0 f1 ew f4 gu⟩
  ·rw[e]at st;exact wpAny_pyNext_wide_end (ab.ok.hd aF) st ao λh' e9=>⟨I,ab.turned (t':=s.toks) (λb o ak e=>e9 b o ak e) f0 f1 ew f4 gu⟩
 self:=λA i s Q E st h=>by
  rcases ta with e|e
  ·rw[e]at st;exact wpAny_pyIter_striter_ascii st h
  ·rw[e]at st;exact wpAny_pyIter_striter_wide st h
inductive arD(R:It->ax->Prop)(v:V)(H1:ax):Prop
 |mk (x) (h0:v=.str x) (ag:R (xU x) H1)
def ah9(te:TE):TI:=λσ H R=>te σ H λv H1=>arD R v H1
theorem MY{X:bN}{ee e:Expr}{te:TE}(he:bC X e te):nW X ee e (ah9 te):=by
 intro pins s σ H R ab h;refine b2 (he pins s σ H _ ab h) λv s1⟨y,H1,a',bK,x,ex,q⟩=>?_;subst ex;obtain⟨t,rfl⟩:=bK;cases ay:x.cps.all (·<128)
 ·exact wpAny_pyIter_wide ay (zS (tk:=s1.toks) a' _ (ZG _ x t "str_iterator" (.inr I)) ⟨_,fX _ I,I,I⟩ q)
 ·exact wpAny_pyIter_ascii ay (zS (tk:=s1.toks) a' _ (ZG _ x t "str_ascii_iterator" (.inl I)) ⟨_,fX _ I,I,I⟩ q)
section
variable{prog:b6}{w:bX}{A:dQ}{E:ar->aT->Prop}{s:aT}
theorem LF{d:Addr}{o:Obj}{es:Array mV}{ep:Nat}{Q:ar->aT->Prop}(hd:(d==kO)=aE)(aA:s.heap.get? d=U o)(aF:o.ExactDict)(o4:o.data=.dict es ep)(hI:Q (.ref s.heap.objs.size) {s with heap:=s.heap.push {cls:=.type "dict_keyiterator",data:=.fields #[.ref d,.int 0 0,.int es.size 0,.int ep 0]}}):bp (bO prog w) A (AA (.ref d)) Q E s:=by have ey:s.TypeIs (.ref d) "dict":=⟨o,aA,aF.1⟩;refine abV ey aa3 (xF aa3 ey F.entry_dict_iter ?_ (F.args_dict_iter_1 _));unfold oB.«dict.__iter__»;refine bg ?_;unfold apz;refine bg (abQ ey ?_);show bp _ _ (pure (eZ d)) _ _ s;refine cD ?_;show bp _ _ (aaP d>>=_) _ _ s;unfold aaP;rw[ars (by rw[hd];exact eM)];refine bg (cD ?_);refine bg (H0 aA o4 ?_);refine bg (QC aA o4 ?_);refine bg (H3 (cD ⟨_,I,"dict_keyiterator",_,⟨_,fX _ I,I⟩,Aq.lookup,?_⟩));simpa[oF]using hI
theorem Wh{it d:Addr}{i n ep:Nat}{cO:Obj}{es:Array mV}{cP:mV}{Q:Option ar->aT->Prop}(hit:s.heap.IsKeyIter it d i n ep)(my:s.heap.get? d=U cO)(BG:cO.data=.dict es ep)(hsz:es.size=n)(ao:es[i]? =U cP)(hI:∀h',h'.IsKeyIter it d (i+1) n ep->xw it s.heap h'->Q (U cP.key) {s with heap:=h'}):bp (bO prog w) A (j9 (.ref it)) Q E s:=by
 obtain⟨o,aA,aF,hd⟩:=id hit;unfold j9;refine bg (HZ (DC (name:=dY "__next__") hit.typeIs Aq (xF Aq hit.typeIs aa1 ?_ (aa0 _))));refine bg (cD ?_);refine bg ?_;refine bg ?_;first|refine bg (H5 hit.typeIs (cD ?_))|refine bg (H6 hit.typeIs (cD ?_))
 refine bg (abI aA hd ?_);have Lk:aaR "dict_keyiterator"=aE:=a5;simp only[Lk,xp,if_false];show bp _ _ (if(eZ d==r0)=ah then _ else _) _ _ s;rw[ars (show¬((eZ d==r0)=ah)from eM)];refine bg (cD ?_);refine bg (H0 my BG ?_);rw[ars (by rw[hsz];simp)];refine bg (cD ?_);refine bg (QC my BG ?_);rw[ars bl];refine cD ?_;obtain⟨agY,K4⟩:=Array.getElem?_eq_some_iff.mp ao;simp only[show¬((i:Int)<0)from aG,if_false,Hk,PG agY];refine bg ?_;first|refine bg (H5 hit.typeIs (cD ?_))|refine bg (H6 hit.typeIs (cD ?_))
 refine bg (abL hit.typeIs ?_);show bp _ _ (setField (.ref it) 1 (oF ((i:Int)+1))>>=_) _ _ s;refine bg (abY aA hd bl ?_);have EZ:(s.heap.update it (aa9 (·.setIfInBounds 1 (oF ((i:Int)+1))))).IsKeyIter it d (i+1) n ep:=⟨_,Heap.get?_update_self _ aA (Obj.isFreed_of_fields (aa8 hd _)),(Obj.cls_mapFields ..).trans aF,by rw[aa8 hd];simp[oF]⟩;refine bg (lE ?_);refine bg (abL (s:={s with heap:=s.heap.update it (aa9 (·.setIfInBounds 1 (oF ((i:Int)+1))))}) EZ.typeIs ?_);show bp _ _ (pure es[i].key) _ _ _;rw[K4];exact cD (cD ⟨_,I,cD (hI _ EZ (aa7 ..))⟩)
theorem My{it d:Addr}{i n ep:Nat}{cO:Obj}{es:Array mV}{Q:Option ar->aT->Prop}(d4:A.handled=af)(hit:s.heap.IsKeyIter it d i n ep)(my:s.heap.get? d=U cO)(BG:cO.data=.dict es ep)(hsz:es.size=n)(o5:n<=i)(hI:∀h',Heap.ExtBut it s.heap h'->Q af {s with heap:=h'}):bp (bO prog w) A (j9 (.ref it)) Q E s:=by
 obtain⟨o,aA,aF,hd⟩:=id hit;unfold j9;refine bg (HZ (DC (name:=dY "__next__") hit.typeIs Aq (xF Aq hit.typeIs aa1 ?_ (aa0 _))));refine bg (cD ?_);refine bg ?_;refine bg ?_;first|refine bg (H5 hit.typeIs (cD ?_))|refine bg (H6 hit.typeIs (cD ?_))
 refine bg (abI aA hd ?_);have Lk:aaR "dict_keyiterator"=aE:=a5;simp only[Lk,xp,if_false];show bp _ _ (if(eZ d==r0)=ah then _ else _) _ _ s;rw[ars (show¬((eZ d==r0)=ah)from eM)];refine bg (cD ?_);refine bg (H0 my BG ?_);rw[ars (by rw[hsz];simp)];refine bg (cD ?_);refine bg (QC my BG ?_);rw[ars bl];refine cD ?_;have agx:es.size<=i:=by rw[hsz];exact o5
 simp only[show¬((i:Int)<0)from aG,if_false,Hk,Z5 agx];refine bg ?_;first|refine bg (H5 hit.typeIs (cD ?_))|refine bg (H6 hit.typeIs (cD ?_))
 show bp _ _ (setField (.ref it) 0 .none>>=_) _ _ s;refine bg (abY aA hd bl ?_);show bp _ _ (newExc (.type "StopIteration") []>>=_) _ _ _;refine bg ?_;simp only[newExc,newTuple];refine bg (H3 ?_ (by size_fits));refine bg (m:=abv _ _) (wpAny_of_eq (a:=r0) (by first|rfl|(simp only[abv];rfl)) ?_);refine H3 ?_ (by size_fits);simp only[raiseNew];refine bg (wpAny_handled ?_);rw[show A.in1.handled=af from d4];refine bg (cD (wpAny_throw ?_));refine bg (abK (T:="StopIteration") (b:=true) ⟨_,fX _ I,I⟩ abz ?_);exact cD (hI _ (((aa7 ..).extBut.push _).push _))
end
theorem VD{dy:Type}{kvs:List (dy×V)}{vs:List (dy×ar)}(h:fh kvs vs):∀{i:Nat}{k:dy}{v:V},kvs[i]? =U (k,v)->∃u,vs[i]? =U (k,u)/\RelV v u:=by
 unfold fh at h;induction h with
 |nil=>intro i k v e;simp at e
 |@cons a b l₁ l₂ r t ih=>
  intro i k v e;cases i with
  |zero=>simp only[PM,aaH]at e;subst e;refine⟨b.2,?_,r.2⟩;simp only[PM];exact congrArg U (Prod.ext r.1.symm I)
  |succ j=>simp only[Hq]at e⊢;exact ih e
theorem aln{α β:Type}{G:α->β->Prop}{l₁:List α}{l₂:List β}(h:Paired G l₁ l₂):∀{i:Nat}{a:α},l₁[i]? =U a->∃b,l₂[i]? =U b/\G a b:=by
 induction h with
 |nil=>intro i a e;simp at e
 |@cons a b l₁ l₂ r t ih=>
  intro i uP e;cases i with
  |zero=>simp only[PM,aaH]at e;subst e;exact⟨b,I,r⟩
  |succ j=>simp only[Hq]at e⊢;exact ih e
theorem XI{k:Key}{u:ar}(h:kq k u=ah):RelV (cc k) u:=by
 rcases n' h with⟨i,t,rfl,rfl⟩|⟨x,t,rfl,rfl⟩
 ·exact⟨t,I⟩
 ·exact⟨t,I⟩
section
variable{X:bN}{pins:List (Addr×Obj)}{σ:St}{H:ax}{s:aT}{d:Addr}{o:Obj}
theorem Inv.y8{kvs:List (Key×V)}(ab:Inv X pins σ H s)(h:H d=U (.dV o (.cC kvs))):(d==kO)=aE/\s.heap.get? d=U o/\o.ExactDict/\∃(es:Array mV)(ep:Nat)(vs:List (Key×ar)),o.data=.dict es ep/\es.size=kvs.length/\fh kvs vs/\s.heap.DictAt (eF X.prog X.w) d vs ep:=by obtain⟨hd,z,aP,vs,kv,o',es,ep,aA,ao,hj,r⟩:=ab.bo d _ h;rw[hd]at aA;cases aA;refine⟨aP,hd,ao,es,ep,vs,hj,?_,kv,o,es,hd,ao,hj,r⟩;have eK:=r.2.1.length;have fi:kvs.length=vs.length:=Paired.length kv;rw[rP]at eK;omega
theorem Inv.Kl{kvs:List (List Key×V)}(ab:Inv X pins σ H s)(h:H d=U (.dV o (.e3 kvs))):(d==kO)=aE/\s.heap.get? d=U o/\o.ExactDict/\∃(es:Array mV)(ep:Nat),o.data=.dict es ep/\es.size=kvs.length/\∀(i:Nat)(k:List Key)(v:V),kvs[i]? =U (k,v)->∃(cP:mV)(q:Addr),es[i]? =U cP/\cP.key=.ref q/\H q=U (.tup (k.map cc)):=by
 obtain⟨hd,z,aP,xs,pr,o',es,ep,aA,ao,hj,he,_⟩:=ab.bo d _ h;rw[hd]at aA;cases aA;refine⟨aP,hd,ao,es,ep,hj,?_,λi k v e=>?_⟩
 ·have eK:es.size=xs.length:=size_of_entries he;have fi:kvs.length=xs.length:=Paired.length pr;omega
 ·obtain⟨b,ak,aS,aQ,_⟩:=aln pr e;have q:=entry_at he i;rw[ak]at q;exact⟨_,b.2.1,q,I,aQ⟩
end
def Ja(d:Addr)(o:Obj)(kvs:List (Key×V)):It:=⟨λi H=>H d=U (.dV o (.cC kvs))/\i<kvs.length,λi H x ae=>ae=H/\∃k v,kvs[i]? =U (k,v)/\x=cc k,λi H=>H d=U (.dV o (.cC kvs))/\kvs.length<=i⟩
def Q4(d:Addr)(o:Obj)(kvs:List (List Key×V)):It:=⟨λi H=>H d=U (.dV o (.e3 kvs))/\i<kvs.length,λi H x ae=>ae=H/\∃(k:List Key)(v:V)(q:Addr),kvs[i]? =U (k,v)/\x=.ref q/\H q=U (.tup (k.map cc)),λi H=>H d=U (.dV o (.e3 kvs))/\kvs.length<=i⟩
def DR(d:Addr)(o:Obj)(kvs:List (Key×V)):It:=⟨λi H=>H d=U (.dV o (.cC kvs))/\i<kvs.length,λi H x ae=>∃T k v,kvs[i]? =U (k,v)/\x=.ref T/\H T=af/\ae=upd H T (.tup [cc k,v]),λi H=>H d=U (.dV o (.cC kvs))/\kvs.length<=i⟩
theorem y0{o:Obj}{es n1:Array mV}{ep n0:Nat}(h:o.data=.dict es ep)(h':o.data=.dict n1 n0):n1=es/\n0=ep:=by rw[h]at h';cases h';exact⟨I,I⟩
section
variable{P:b6}{w:bX}{K:PySem.W.Frag}{ee:Expr}{d:Addr}{o:Obj}{es:Array mV}{ep:Nat}
theorem aoo{kvs:List (Key×V)}(it:Addr)(my:o.data=.dict es ep):Turn P w K ee (Ja d o kvs) [it] it (λi h=>h.IsKeyIter it d i kvs.length ep)where
 mem:=bl
 obj:=λi h st b ak=>by
  have e:b=it:=by simpa using ak
  subst e;obtain⟨qp,e,c,dZ⟩:=st;exact⟨qp,e,λv z=>by rw[dZ]at z;cases z⟩
 keep:=λi h h' st k=>st.at λqp e=>k it bl qp e
 item:=by intro X cX hw fT aF i pins s σ H E ab hf st bM;subst cX hw fT;obtain⟨hd,av⟩:=bM;obtain⟨f0,f1,f2,ew,f4,gu⟩:=hf it bl;obtain⟨aP,lX,ao,n1,n0,vs,hj,hsz,kv,hm⟩:=ab.y8 hd;obtain⟨rfl,rfl⟩:=y0 my hj;obtain⟨⟨k,v⟩,g_⟩:∃p,kvs[i]? =U p:=⟨kvs[i],gB av⟩;obtain⟨u,a4,gz⟩:=VD kv g_;have au:kvs.length=vs.length:=Paired.length kv;rw[au]at st;refine wpAny_pyNext_dict_item st hm a4 λkey h' wo eG fF=>?_;have a':Inv X pins σ H {s with heap:=h'}:=ab.turned (t':=s.toks) (λb ob ak e=>(fF.2 b ak).trans e) f0 f1 ew f4 gu;obtain⟨qp,e,c,dZ⟩:=id eG;refine⟨key,I,Bs (s:={s with heap:=h'}) e c dZ a5 ⟨cc k,H,a',XI (show kq k key=ah from wo),⟨I,k,v,g_,I⟩,?_,λb ak=>(hf b ak).1⟩⟩;show h'.IsKeyIter it d (i+1) kvs.length _;rw[au];exact eG
 done:=by intro X cX hw fT aF i pins s σ H E ab hf st bM;subst cX hw fT;obtain⟨hd,av⟩:=bM;obtain⟨f0,f1,f2,ew,f4,gu⟩:=hf it bl;obtain⟨aP,lX,ao,n1,n0,vs,hj,hsz,kv,hm⟩:=ab.y8 hd;obtain⟨rfl,rfl⟩:=y0 my hj;exact My (ab.ok.hd aF) st lX hj hsz av λh' e9=>⟨I,ab.turned (t':=s.toks) (λb ob ak e=>e9 b ob ak e) f0 f1 ew f4 gu⟩
 self:=λA i s Q E st h=>abT st h
theorem aop{kvs:List (List Key×V)}(it:Addr)(my:o.data=.dict es ep):Turn P w K ee (Q4 d o kvs) [it] it (λi h=>h.IsKeyIter it d i kvs.length ep)where
 mem:=bl
 obj:=λi h st b ak=>by
  have e:b=it:=by simpa using ak
  subst e;obtain⟨qp,e,c,dZ⟩:=st;exact⟨qp,e,λv z=>by rw[dZ]at z;cases z⟩
 keep:=λi h h' st k=>st.at λqp e=>k it bl qp e
 item:=by intro X cX hw fT aF i pins s σ H E ab hf st bM;subst cX hw fT;obtain⟨hd,av⟩:=bM;obtain⟨f0,f1,f2,ew,f4,gu⟩:=hf it bl;obtain⟨aP,lX,ao,n1,n0,hj,hsz,ent⟩:=ab.Kl hd;obtain⟨rfl,rfl⟩:=y0 my hj;obtain⟨⟨k,v⟩,g_⟩:∃p,kvs[i]? =U p:=⟨kvs[i],gB av⟩;obtain⟨cP,q,K4,wo,aK⟩:=ent i k v g_;refine Wh st lX hj hsz K4 λh' eG fF=>?_;have a':Inv X pins σ H {s with heap:=h'}:=ab.turned (t':=s.toks) (λb ob ak e=>(fF.2 b ak).trans e) f0 f1 ew f4 gu;obtain⟨qp,e,c,dZ⟩:=id eG;exact⟨cP.key,I,Bs (s:={s with heap:=h'}) e c dZ a5 ⟨.ref q,H,a',wo,⟨I,k,v,q,g_,I,aK⟩,eG,λb ak=>(hf b ak).1⟩⟩
 done:=by intro X cX hw fT aF i pins s σ H E ab hf st bM;subst cX hw fT;obtain⟨hd,av⟩:=bM;obtain⟨f0,f1,f2,ew,f4,gu⟩:=hf it bl;obtain⟨aP,lX,ao,n1,n0,hj,hsz,ent⟩:=ab.Kl hd;obtain⟨rfl,rfl⟩:=y0 my hj;exact My (ab.ok.hd aF) st lX hj hsz av λh' e9=>⟨I,ab.turned (t':=s.toks) (λb ob ak e=>e9 b ob ak e) f0 f1 ew f4 gu⟩
 self:=λA i s Q E st h=>by refine abV st.typeIs aa4 (xF aa4 st.typeIs F.entry_dict_keyiterator_iter ?_ (F.args_dict_keyiterator_iter_1 _));show bp _ _ (ret (.ref it)) _ _ s;exact cD ⟨_,I,"dict_keyiterator",_,st.typeIs,Aq.lookup,h⟩
theorem aon{kvs:List (Key×V)}{nZ:List Expr}{iu:Nat}{mO:Pos}(it:Addr)(my:o.data=.dict es ep):Turn P w K (.Tuple nZ iu mO) (DR d o kvs) [it] it (λi h=>∃ok h2,IsItemIter h it d i kvs.length ep ok h2)where
 mem:=bl
 obj:=λi h st b ak=>by
  have e:b=it:=by simpa using ak
  subst e;obtain⟨ok,h2,e⟩:=st;exact⟨_,e,λv z=>nomatch z⟩
 keep:=λi h h' st k=>let⟨ok,h2,e⟩:=st;⟨ok,h2,k it bl _ e⟩
 item:=by
  intro X cX hw fT aF i pins s σ H E ab hf st bM;subst cX hw fT;obtain⟨hd,av⟩:=bM;obtain⟨aP,lX,ao,n1,n0,vs,hj,hsz,kv,hm⟩:=ab.y8 hd;obtain⟨rfl,rfl⟩:=y0 my hj;obtain⟨⟨k,v⟩,g_⟩:∃p,kvs[i]? =U p:=⟨kvs[i],gB av⟩;obtain⟨u,a4,gz⟩:=VD kv g_;have au:kvs.length=vs.length:=Paired.length kv;obtain⟨ok,h2,he⟩:=st;rw[au]at he;have dD:it<s.heap.objs.size:=ef he;refine wpAny_pyNext_items_item he hm a4 λkey h' wo aA ey a9 aH=>?_;refine⟨_,I,wpAny_letOwnedTupleGo_items (s:={s with heap:=h'}) aA λnf wi fF=>?_⟩;have BA:nf.get? s.heap.objs.size=U {cls:=.type "tuple",data:=.seq #[key,u]}:=(fF.2 _ (oz dD)).trans ey;have new:gF X.prog X.w (upd H s.heap.objs.size (.tup [cc k,v])) nf s.heap.objs.size (.tup [cc k,v]):=⟨iC,[key,u],.cons (XI (show kq k key=ah from wo)) (.cons gz .nil),⟨_,BA,I,_,I⟩⟩;have a':Inv X pins σ (upd H s.heap.objs.size (.tup [cc k,v])) {s with heap:=nf}:=ab.G7 (t':=s.toks) (ch:=[it]) (λb ob ak e=>(fF.2 b (by simpa using ak)).trans (aH b ob (by simpa using ak) e)) hf (bR _) new;refine⟨.ref s.heap.objs.size,_,a',I,⟨_,k,v,g_,I,ab.bo.fresh (bR _),I⟩,⟨key,u,?_⟩,λb ak=>?_⟩
  ·rw[au];exact wi
  ·have e:b=it:=by simpa using ak
   rw[e,aY (hS dD)];exact(hf it bl).1
 done:=by intro X cX hw fT aF i pins s σ H E ab hf st bM;subst cX hw fT;obtain⟨hd,av⟩:=bM;obtain⟨f0,f1,f2,ew,f4,gu⟩:=hf it bl;obtain⟨aP,lX,ao,n1,n0,vs,hj,hsz,kv,hm⟩:=ab.y8 hd;obtain⟨rfl,rfl⟩:=y0 my hj;have au:kvs.length=vs.length:=Paired.length kv;obtain⟨ok,h2,he⟩:=st;rw[au]at he;exact wpAny_pyNext_items_end (ab.ok.hd aF) he hm (aal aG) λh' e9=>⟨I,ab.turned (t':=s.toks) (λb ob ak e=>e9 b ob ak e) f0 f1 ew f4 gu⟩
 self:=λA i s Q E st h=>let⟨_,_,e⟩:=st;PySem.W.kcp_self e h
end
inductive arA(R:It->ax->Prop)(x:V)(H1:ax):Prop
 |mk (d o) (h0:x=.ref d) (ag:((∃kvs,H1 d=U (.dV o (.cC kvs))/\R (Ja d o kvs) H1)\/∃kvs,H1 d=U (.dV o (.e3 kvs))/\R (Q4 d o kvs) H1))
def ah6(td:TE):TI:=λσ H R=>td σ H λx H1=>arA R x H1
inductive arz(R:It->ax->Prop)(x:V)(H1:ax):Prop
 |mk (d o kvs) (h0:x=.ref d) (ag:H1 d=U (.dV o (.cC kvs))) (ai:R (DR d o kvs) H1)
def ah5(td:TE):TI:=λσ H R=>td σ H λx H1=>arz R x H1
section
variable{X:bN}{ee e:Expr}{td:TE}{apos g7:Pos}
theorem alF(he:bC X e td):nW X ee e (ah6 td):=by
 intro pins s σ H R ab h;refine b2 (he pins s σ H _ ab h) λu s1⟨x,H1,a',bq,d,o,ex,q⟩=>?_;subst ex;obtain rfl:u=eZ d:=bq;rcases q with⟨kvs,hd,q⟩|⟨kvs,hd,q⟩
 ·obtain⟨aP,lX,ao,es,ep,vs,hj,hsz,kv,hm⟩:=a'.y8 hd;refine LF aP lX ao hj (zS (tk:=s1.toks) a' _ (aoo _ hj) ⟨_,fX _ I,I,?_⟩ q);rw[hsz]<;>rfl
 ·obtain⟨aP,lX,ao,es,ep,hj,hsz,ent⟩:=a'.Kl hd;refine LF aP lX ao hj (zS (tk:=s1.toks) a' _ (aop _ hj) ⟨_,fX _ I,I,?_⟩ q);rw[hsz]<;>rfl
theorem W2{nZ:List Expr}{iu:Nat}{mO:Pos}(he:bC X e td)(o2:oC e "items" X.env (c' e X.env)=c' e X.env:=by rfl)(o6:(apos.endLine==g7.line)=ah:=by rfl):nW X (.Tuple nZ iu mO) (.Call (.Attribute e "items" apos) [] [] g7) (ah5 td):=by
 intro pins s σ H R ab h;refine wpAny_Call_method (T:="dict") (id:="dict.items") o2 I o6 F.plainAttrs_dict aa2 F.type_dict_items (b2 (he pins s σ H _ ab h) λu s1⟨x,H1,a',bq,d,o,kvs,ex,hd,q⟩=>?_);subst ex;obtain rfl:u=eZ d:=bq;obtain⟨aP,lX,ao,es,ep,vs,hj,hsz,kv,hm⟩:=a'.y8 hd;have au:kvs.length=vs.length:=Paired.length kv;refine⟨hm.dictOf.typeIs,hm.dictOf.mapOf.noDict,?_⟩;have b7:Inv X pins σ H1 {s1 with heap:=s1.heap.push {cls:=.type "dict_items",data:=.fields #[.ref d]}}:=a'.kept (t':=s1.toks) λb ob q=>fG _ q;have fin:bp (bO X.prog X.w) X.A (AA (.ref s1.heap.objs.size)) (Jf X pins σ (.Tuple nZ iu mO) R) X.d2 {s1 with heap:=s1.heap.push {cls:=.type "dict_items",data:=.fields #[.ref d]}}:=by refine wpAny_pyIter_items (d:=d) (knd:=eF X.prog X.w) ⟨_,fX _ I,I,I⟩ (hm.push _) (zS (tk:=s1.toks) b7 _ (aon _ hj) ⟨.none,.none,?_⟩ q);rw[au];exact fX _ I
 show bp _ _ (Qm g7 (.builtin "dict.items") [.ref d] [] []) _ X.d2 s1;exact method_meetsIn aa2 F.entry_dict_items I (PySem.evalArgs_none ⟨I,hm.dictOf.typeIs,F.args_dict_items_1 _,_,meets_dict_items (eF X.prog X.w) d aP,⟨vs,hm.dictOf⟩,fin⟩)
end
def DQ(K:PySem.W.Frag)(a:Addr):It:=⟨λi H=>∃(xs:List V)(x:V),aI K H a xs/\xs[i]? =U x,λi H v ae=>∃T x,v=.ref T/\H T=af/\ae=upd H T (.tup [.int (i:Nat),x])/\∀xs,aI K H a xs->xs[i]? =U x,λi H=>∃xs:List V,aI K H a xs/\xs.length<=i⟩
theorem aom{P:b6}{w:bX}{K:PySem.W.Frag}{nZ:List Expr}{iu:Nat}{mO:Pos}(a e it:Addr):Turn P w K (.Tuple nZ iu mO) (DQ K a) [e,it] e (λi h=>(∃old,IsEnum h e it ((i:Nat):Int) old)/\h.IsListIter it a i/\e≠it)where
 mem:=bl
 obj:=λi h st b ak=>by
  obtain⟨⟨old,he⟩,⟨o,aA,aF,hd⟩,_⟩:=st;have e':b=e\/b=it:=by simpa using ak
  rcases e' with z|z
  ·rw[z];exact⟨_,he,λv q=>nomatch q⟩
  ·rw[z];exact⟨o,aA,λv q=>by rw[hd]at q;cases q⟩
 keep:=λi h h' st k=>let⟨⟨old,he⟩,av,fu⟩:=st;⟨⟨old,k e bl _ he⟩,av.at λo q=>k it bl o q,fu⟩
 item:=by
  intro X cX hw fT aF i pins s σ H E ab hf st bM;subst cX hw fT;obtain⟨⟨old,he⟩,hit,fu⟩:=st;obtain⟨xs,x,aK,ao⟩:=bM;obtain⟨its,di,p,a9⟩:=ab.list aK;obtain⟨u,a4,gz⟩:=di.get ao;have zg:e<s.heap.objs.size:=ef he;have h1:it<s.heap.objs.size:=by obtain⟨_,q,_⟩:=hit;exact ef q
  refine wpAny_pyNext_enum_item he hit p.isList (x:=u) (by simpa using a4) fu λh' aA EZ ey hsz aH=>?_;refine⟨_,I,wpAny_letOwnedTupleGo_enum (s:={s with heap:=h',toks:=s.toks+1}) aA λnf wi fF=>?_⟩;have BA:nf.get? s.heap.objs.size=U {cls:=.type "tuple",data:=.seq #[.int i s.toks,u]}:=(fF.2 _ (oz zg)).trans ey;have new:gF X.prog X.w (upd H s.heap.objs.size (.tup [.int (i:Nat),x])) nf s.heap.objs.size (.tup [.int (i:Nat),x]):=⟨iC,[.int i s.toks,u],.cons ⟨_,I⟩ (.cons gz .nil),⟨_,BA,I,_,I⟩⟩;have a':Inv X pins σ (upd H s.heap.objs.size (.tup [.int (i:Nat),x])) {s with heap:=nf,toks:=s.toks+1}:=ab.G7 (ch:=[e,it]) (λb ob ak q=>(fF.2 b (λz=>ak (by simp[z]))).trans (aH b ob (λz=>ak (by simp[z])) (λz=>ak (by simp[z])) q)) hf (bR _) new;refine⟨.ref s.heap.objs.size,_,a',I,⟨_,x,I,ab.bo.fresh (bR _),I,λys a_=>by rw[ab.Cg a_ aK];exact ao⟩,⟨⟨u,?_⟩,EZ.at λo q=>(fF.2 it (bQ fu)).trans q,fu⟩,λb ak=>?_⟩
  ·have aS:((i+1:Nat):Int)=(i:Int)+1:=by omega
   rw[aS];exact wi
  ·have sR:b<s.heap.objs.size:=by
    have e':b=e\/b=it:=by simpa using ak
    rcases e' with z|z
    ·rw[z];exact zg
    ·rw[z];exact h1
   rw[aY (hS sR)];exact(hf b ak).1
 done:=by intro X cX hw fT aF i pins s σ H E ab hf st bM;subst cX hw fT;obtain⟨⟨old,he⟩,hit,fu⟩:=st;obtain⟨xs,aK,ao⟩:=bM;obtain⟨its,di,p,a9⟩:=ab.list aK;obtain⟨f0,f1,f2,ew,f4,gu⟩:=hf it bl;have au:=di.length;exact wpAny_pyNext_enum_end (ab.ok.hd aF) he hit p.isList (by simp;omega) λh' e9=>⟨I,ab.turned (t':=s.toks) (λb o ak q=>e9 b o ak q) f0 f1 ew f4 gu⟩
 self:=λA i s Q E st h=>let⟨⟨_,he⟩,_⟩:=st;abS he h
inductive ary(K:PySem.W.Frag)(R:It->ax->Prop)(vs:List V)(H1:ax):Prop
 |mk (a xs) (h0:vs=[.ref a]) (ag:aI K H1 a xs) (ai:R (DQ K a) H1)
def ah4(K:PySem.W.Frag)(bt:hp):TI:=λσ H R=>bt σ H λvs H1=>ary K R vs H1
theorem F7{X:bN}{e:Expr}{bt:hp}{p pos mO:Pos}{nZ:List Expr}{iu:Nat}(bM:lI X "enumerate")(hm:X.ap "enumerate"=af)(ay:lc X [e] bt)(aP:eO [e] X.env=[(aE,c' e X.env)]:=by rfl):nW X (.Tuple nZ iu mO) (.Call (.Name "enumerate" p) [e] [] pos) (ah4 X.K bt):=by
 intro pins s σ H R ab h;refine Call_ (ti ab bM hm boot_enumerate (An (b2 (ay pos pins s σ H _ ab h) λus s1⟨vs,H1,a',bK,a7⟩=>?_) aP I));obtain⟨a,xs,ex,aK,q⟩:=a7;subst ex;cases bK with
 |cons r iO=>
  cases iO;cases r;obtain⟨its,di,p',a9⟩:=a'.list aK;refine call_enumerate_list p'.isList λh' he hit hsz aH=>abS he ?_;have b7:Inv X pins σ H1 {s1 with heap:=h'}:=a'.kept (t':=s1.toks) aH;refine⟨s1.heap.objs.size+1,[s1.heap.objs.size+1,s1.heap.objs.size],_,_,H1,I,b7,aom a (s1.heap.objs.size+1) s1.heap.objs.size,⟨⟨.none,he⟩,hit,Nat.succ_ne_self _⟩,λb ak=>?_,q⟩;have e':b=s1.heap.objs.size+1\/b=s1.heap.objs.size:=by simpa using ak
  have hle:s1.heap.objs.size<=b:=by
   rcases e' with z|z
   ·rw[z];exact Dh _ _
   ·rw[z];exact bR _
  exact a'.v9 hle (a'.bo.fresh hle)
theorem Rw:jD "zip"=U (.type "zip"):=aD
def Jc(K:PySem.W.Frag)(a b:Addr):It:=⟨λi H=>∃(xs ys:List V)(x y:V),aI K H a xs/\aI K H b ys/\xs[i]? =U x/\ys[i]? =U y,λi H v ae=>∃T x y,v=.ref T/\H T=af/\ae=upd H T (.tup [x,y])/\(∀xs,aI K H a xs->xs[i]? =U x)/\∀ys,aI K H b ys->ys[i]? =U y,λi H=>∃xs ys:List V,aI K H a xs/\aI K H b ys/\(xs.length<=i\/ys.length<=i)⟩
theorem aos{P:b6}{w:bX}{K:PySem.W.Frag}{nZ:List Expr}{iu:Nat}{mO:Pos}{a b z TI fR ci cU:Addr}(D:Qk z TI fR ci cU a b):Turn P w K (.Tuple nZ iu mO) (Jc K a b) [z,TI,fR,ci,cU] z (λi h=>IsZip h z TI fR .none/\nN h TI (.ref ci) (.ref cU)/\(∃x y,nN h fR x y)/\h.IsListIter ci a i/\h.IsListIter cU b i)where
 mem:=bl
 obj:=λi h st c aF=>by
  obtain⟨a9,gJ,⟨x,y,jU⟩,⟨l8,aS,_,vN⟩,⟨hM,aQ,_,Bd⟩⟩:=st;have e':c=z\/c=TI\/c=fR\/c=ci\/c=cU:=by simpa using aF
  rcases e' with q|q|q|q|q
  ·rw[q];exact⟨_,a9,λv q=>nomatch q⟩
  ·rw[q];exact⟨_,gJ,λv q=>nomatch q⟩
  ·rw[q];exact⟨_,jU,λv q=>nomatch q⟩
  ·rw[q];exact⟨l8,aS,λv q=>by rw[vN]at q;cases q⟩
  ·rw[q];exact⟨hM,aQ,λv q=>by rw[Bd]at q;cases q⟩
 keep:=λi h h' st k=>by obtain⟨a9,gJ,⟨x,y,jU⟩,ag,ai⟩:=st;exact⟨k z bl _ a9,k TI bl _ gJ,⟨x,y,k fR bl _ jU⟩,ag.at λo q=>k ci bl o q,ai.at λo q=>k cU bl o q⟩
 item:=by
  intro X cX hw fT aF i pins s σ H E ab hf st bM;subst cX hw fT;obtain⟨a9,gJ,⟨x0,jz,jU⟩,ag,ai⟩:=st;obtain⟨xs,ys,x,y,rn,ro,ao,a_⟩:=bM;obtain⟨its,di,p,_⟩:=ab.list rn;obtain⟨gw,w7,dc,_⟩:=ab.list ro;obtain⟨u,a4,gz⟩:=di.get ao;obtain⟨iB,ahQ,zV⟩:=w7.get a_;have Ly:z<s.heap.objs.size:=ef a9;refine abX D a9 gJ jU ag ai p.isList dc.isList (x:=u) (y:=iB) (by simpa using a4) (by simpa using ahQ) λh' mR acF EH Bt ey hsz aH=>?_;refine⟨_,I,wpAny_letOwnedTupleGo_zip (s:={s with heap:=h'}) mR λnf ao0 fF=>?_⟩;have BA:nf.get? s.heap.objs.size=U {cls:=.type "tuple",data:=.seq #[u,iB]}:=(fF.2 _ (oz Ly)).trans ey;have new:gF X.prog X.w (upd H s.heap.objs.size (.tup [x,y])) nf s.heap.objs.size (.tup [x,y]):=⟨iC,[u,iB],.cons gz (.cons zV .nil),⟨_,BA,I,_,I⟩⟩;have a':Inv X pins σ (upd H s.heap.objs.size (.tup [x,y])) {s with heap:=nf}:=ab.G7 (t':=s.toks) (ch:=[z,TI,fR,ci,cU]) (λc o ak q=>(fF.2 c (λgM=>ak (by simp[gM]))).trans (aH c o (λgM=>ak (by simp[gM])) (λgM=>ak (by simp[gM])) (λgM=>ak (by simp[gM])) (λgM=>ak (by simp[gM])) q)) hf (bR _) new;refine⟨.ref s.heap.objs.size,_,a',I,⟨_,x,y,I,ab.bo.fresh (bR _),I,λl au=>by rw[ab.Cg au rn];exact ao,λl au=>by rw[ab.Cg au ro];exact a_⟩,⟨ao0,?_,⟨u,iB,?_⟩,?_,?_⟩,λc km=>?_⟩
  ·exact(fF.2 _ D.TIz).trans (aH _ _ D.TIz D.TITO D.TIi1 D.TIi2 gJ)
  ·exact(fF.2 _ D.TOz).trans acF
  ·exact EH.at λo q=>(fF.2 _ D.i1z).trans q
  ·exact Bt.at λo q=>(fF.2 _ D.i2z).trans q
  ·have dD:c<s.heap.objs.size:=by
    have e':c=z\/c=TI\/c=fR\/c=ci\/c=cU:=by simpa using km
    rcases e' with q|q|q|q|q
    ·rw[q];exact Ly
    ·rw[q];exact ef gJ
    ·rw[q];exact ef jU
    ·rw[q];obtain⟨_,aS,_⟩:=ag;exact ef aS
    ·rw[q];obtain⟨_,aQ,_⟩:=ai;exact ef aQ
   rw[aY (hS dD)];exact(hf c km).1
 done:=by
  intro X cX hw fT aF i pins s σ H E ab hf st bM;subst cX hw fT;obtain⟨a9,gJ,⟨x0,jz,jU⟩,ag,ai⟩:=st;obtain⟨xs,ys,rn,ro,EU⟩:=bM;obtain⟨its,di,p,_⟩:=ab.list rn;obtain⟨gw,w7,dc,_⟩:=ab.list ro;have eK:=di.length;have fi:=w7.length;have he:its.toArray[i]? =af\/gw.toArray[i]? =af:=by
   rcases EU with q|q
   ·exact .inl (by simp;omega)
   ·exact .inr (by simp;omega)
  exact abW (ab.ok.hd aF) D a9 gJ jU ag ai p.isList dc.isList he λh' aH=>⟨I,ab.G6 (t':=s.toks) (ch:=[z,TI,fR,ci,cU]) (λc o ak q=>aH c o (λgM=>ak (by simp[gM])) (λgM=>ak (by simp[gM])) (λgM=>ak (by simp[gM])) (λgM=>ak (by simp[gM])) q) hf⟩
 self:=λA i s Q E st h=>QD st.1 h
inductive arE(K:PySem.W.Frag)(R:It->ax->Prop)(vs:List V)(H1:ax):Prop
 |mk (a b xs ys) (h0:vs=[.ref a,.ref b]) (ag:aI K H1 a xs) (ai:aI K H1 b ys) (aN:R (Jc K a b) H1)
def aia(K:PySem.W.Frag)(bt:hp):TI:=λσ H R=>bt σ H λvs H1=>arE K R vs H1
theorem alH{X:bN}{e aQ:Expr}{bt:hp}{p pos mO:Pos}{nZ:List Expr}{iu:Nat}(bM:lI X "zip")(hm:X.ap "zip"=af)(ay:lc X [e,aQ] bt)(aP:eO [e,aQ] X.env=(aE,c' e X.env)::eO [aQ] X.env:=by rfl)(f5:(jC pos (eO [aQ] X.env)).any (·.1)=aE:=by rfl):nW X (.Tuple nZ iu mO) (.Call (.Name "zip" p) [e,aQ] [] pos) (aia X.K bt):=by
 intro pins s σ H R ab h;refine Call_ (ti ab bM hm Rw (An (b2 (ay pos pins s σ H _ ab h) λus s1⟨vs,H1,a',bK,a7⟩=>?_) aP f5));obtain⟨a,b,xs,ys,ex,rn,ro,q⟩:=a7;subst ex;cases bK with
 |cons r iO=>
  cases iO with
  |cons r' iO=>
   cases iO;cases r;cases r';obtain⟨its,di,dK,_⟩:=a'.list rn;obtain⟨gw,w7,dc,_⟩:=a'.list ro;have Fx:a<s1.heap.objs.size:=dK.lt;have Fy:b<s1.heap.objs.size:=dc.lt;refine call_zip_2 dK.isList dc.isList λh' a9 gJ jU ag ai hsz aH=>QD a9 ?_;have b7:Inv X pins σ H1 {s1 with heap:=h'}:=a'.kept (t':=s1.toks) aH;refine⟨s1.heap.objs.size+4,[s1.heap.objs.size+4,s1.heap.objs.size+2,s1.heap.objs.size+3,s1.heap.objs.size,s1.heap.objs.size+1],_,_,H1,I,b7,aos (PySem.W.ktu_apart s1.heap.objs.size a b Fx Fy),⟨a9,gJ,⟨_,_,jU⟩,ag,ai⟩,λc km=>?_,q⟩;have e':c=s1.heap.objs.size+4\/c=s1.heap.objs.size+2\/c=s1.heap.objs.size+3\/c=s1.heap.objs.size\/c=s1.heap.objs.size+1:=by simpa using km
   have hle:s1.heap.objs.size<=c:=by
    rcases e' with z|z|z|z|z
    ·rw[z];exact Dh _ _
    ·rw[z];exact Dh _ _
    ·rw[z];exact Dh _ _
    ·rw[z];exact bR _
    ·rw[z];exact Dh _ _
   exact a'.v9 hle (a'.bo.fresh hle)
end bL
section
namespace acb
open PySem PyProof.Rows
end acb
namespace bf
open PySem PySem.Builtin PySem.Builtin.Str PySem.StrLaws
abbrev a6(x:Str):List Nat:=x.cps.toList
theorem mG(x:Str):x.length=(a6 x).length:=by simp[a6,Qj]
theorem Bk{x y:Str}(h:a6 x=a6 y):x=y:=Str.ext' (Array.toList_inj.mp h)
theorem ou(x y:Str):a6 (x++y)=a6 x++a6 y:=by show(x++y).cps.toList=_;rw[Str.cps_append,Array.toList_append]
theorem ajp(x:Str):(⟨(a6 x).toArray⟩:Str)=x:=Bk I
def pre(S l:List Nat):Bool:=l.take S.length==S
def fk(S:List Nat):Nat->List Nat->List Nat->List (List Nat)
 |_,acc,[]=>[acc]
 |0,acc,c::r=>if pre S (c::r)=ah then acc::fk S (S.length-1) [] r else fk S 0 (acc++[c]) r
 |k+1,acc,_::r=>fk S k acc r
def par(S:List Nat):List Nat->List Nat->Option (List Nat×List Nat)
 |_,[]=>af
 |acc,c::r=>if pre S (c::r)=ah then U (acc,(c::r).drop S.length)else par S (acc++[c]) r
theorem z4(S:List Nat)(k:Nat)(acc:List Nat):fk S k acc []=[acc]:=by cases k<;>rfl
theorem Y3{S acc r:List Nat}{c:Nat}(h:pre S (c::r)=ah):fk S 0 acc (c::r)=acc::fk S (S.length-1) [] r:=by show(if pre S (c::r)=ah then acc::fk S (S.length-1) [] r else fk S 0 (acc++[c]) r)=_;rw[art h]
theorem Y4{S acc r:List Nat}{c:Nat}(h:pre S (c::r)=aE):fk S 0 acc (c::r)=fk S 0 (acc++[c]) r:=by show(if pre S (c::r)=ah then acc::fk S (S.length-1) [] r else fk S 0 (acc++[c]) r)=_;rw[ars (by rw[h];exact eM)]
theorem Y5(S:List Nat):∀(k:Nat)(acc l:List Nat),fk S k acc l=fk S 0 acc (l.drop k)
 |0,_,_=>by rw[rR]
 |k+1,acc,[]=>by rw[List.drop_nil,z4,z4]
 |k+1,acc,c::r=>by show fk S k acc r=fk S 0 acc (r.drop k);exact Y5 S k acc r
theorem alR{S:List Nat}(d1:S≠[]):pre S []=aE:=by
 cases S with
 |nil=>exact aro I d1
 |cons s S=>rfl
theorem afu{L:List Nat}{a:Nat}(h:a<L.length):∃c,L.drop a=c::L.drop (a+1):=⟨L[a],kK h⟩
theorem Pb(S L:List Nat):∀(m a:Nat)(acc:List Nat),a+m<=L.length->(∀k,a<=k->k<a+m->pre S (L.drop k)=aE)->fk S 0 acc (L.drop a)=fk S 0 (acc++(L.drop a).take m) (L.drop (a+m))
 |0,a,acc,_,_=>by rw[qG,iP,HB]
 |m+1,a,acc,h,aC=>by have dD:a<L.length:=aG;obtain⟨c,e⟩:=afu dD;have h0:=aC a (bR _) aG;have ih:=Pb S L m (a+1) (acc++[c]) aG (λk ag ai=>aC k aG aG);have aQ:a+1+m=a+(m+1):=aG;rw[aQ]at ih;rw[e]at h0;rw[e,Y4 h0,ih,List.take_succ_cons,j2]<;>rfl
theorem adW(L:List Nat)(a b:Nat):(L.drop a).drop b=L.drop (a+b):=by
 first
  |rw[C']
  |rw[C',Nat.add_comm]
theorem anp{S L:List Nat}(d1:S≠[]){c:Nat}{acc:List Nat}(h:pre S (L.drop c)=ah):fk S 0 acc (L.drop c)=acc::fk S 0 [] (L.drop (c+S.length)):=by
 rw[<-adW];cases e:L.drop c with
 |nil=>rw[e,alR d1]at h;cases h
 |cons d r=>
  rw[e]at h;rw[Y3 h,Y5];cases S with
  |nil=>exact aro I d1
  |cons s S=>rfl
theorem Rb{x y:Str}(a_:a6 y≠[])(i:Nat):At x y x.length i↔pre (a6 y) ((a6 x).drop i)=ah:=by
 have ao:=mG x;have au:=mG y;constructor
 ·intro h;have ai:=h.2;rw[subAt_eq,au]at ai;exact ai
 ·intro h;have e:((a6 x).drop i).take (a6 y).length=a6 y:=eq_of_beq h;have aS:=congrArg Ag e;rw[fo,j3]at aS;have aQ:0<(a6 y).length:=aap.mpr a_;refine⟨aG,?_⟩;rw[subAt_eq,au];exact h
theorem Wm{x y:Str}(a_:a6 y≠[]){i:Nat}(h:¬At x y x.length i):pre (a6 y) ((a6 x).drop i)=aE:=by
 cases aO:pre (a6 y) ((a6 x).drop i)with
 |false=>rfl
 |true=>exact aro ((Rb a_ i).mpr aO) h
theorem aiQ{y:Str}(a_:a6 y≠[]):1<=y.length:=by have aQ:0<(a6 y).length:=aap.mpr a_;rw[mG y];exact aQ
theorem Zy(x:Str)(i j:Nat):a6 (strSub x i j)=((a6 x).drop i).take (j-i):=strSub_toList x i j
theorem aoh(x:Str)(i:Nat):a6 (strSub x i x.length)=(a6 x).drop i:=by rw[Zy,mG x];exact pE (by rw[j3]<;>omega)
theorem WX{x y:Str}(a_:a6 y≠[]):∀(cuts:List Nat)(a f:Nat),a<=(a6 x).length->ChainG x y x.length a cuts f->(∀k,f<=k->¬At x y x.length k)->(partsFrom x y.length a cuts).map a6=fk (a6 y) 0 [] ((a6 x).drop a)
 |[],a,f,ay,h,aC=>by have e:f=a:=h;subst e;show[a6 (strSub x f x.length)]=_;have run:=Pb (a6 y) (a6 x) ((a6 x).length-f) f [] aG (λk ag _=>Wm a_ (aC k ag));have aQ:f+((a6 x).length-f)=(a6 x).length:=aG;rw[aQ,xq,z4,t6,pE (by rw[j3]<;>omega)]at run;rw[run,aoh]
 |c::r,a,f,ay,h,aC=>by obtain⟨ag,ai,aN,bD⟩:=h;have aF:c+y.length<=x.length:=ai.1;have ao:=mG x;have au:=mG y;have ih:=WX a_ r (c+y.length) f aG bD aC;show a6 (strSub x a c)::(partsFrom x y.length (c+y.length) r).map a6=_;have run:=Pb (a6 y) (a6 x) (c-a) a [] aG (λk co fD=>Wm a_ (aN k co aG));have aQ:a+(c-a)=c:=aG;rw[aQ,t6,anp a_ ((Rb a_ c).mp ai)]at run;rw[run,ih,Zy,au]
theorem anq(x y:Str)(a_:a6 y≠[])(aH:¬rW x<rW y):(Txt.split x y).map a6=fk (a6 y) 0 [] (a6 x):=by
 obtain⟨f,g,aC⟩:=occ_tight x y (aiQ a_);have key:=WX a_ _ 0 f (ec _) g aC;rw[rR]at key;have Wp:occurrences x y 0 x.length (x.length+1)=[]->[x].map a6=fk (a6 y) 0 [] (a6 x):=λaA=>by rw[aA]at key;rw[<-key];show[a6 x]=[a6 (strSub x 0 x.length)];rw[sub_whole]
 unfold Txt.split;by_cases ag:(decide (x.length<y.length)||decide (rW x<rW y))=ah
 ·rw[art ag];have dD:x.length<y.length:=by
   simp only[pz,decide_eq_true_eq]at ag;rcases ag with h|h
   ·exact h
   ·exact aro h aH
  refine Wp ?_;cases aA:occurrences x y 0 x.length (x.length+1)with
  |nil=>rfl
  |cons c r=>rw[aA]at g;have aF:c+y.length<=x.length:=g.2.1.1;omega
 ·rw[ars ag];by_cases ai:(occurrences x y 0 x.length (x.length+1)).isEmpty=ah
  ·rw[art ai];exact Wp (aao.mp ai)
  ·rw[ars ai,partsBetween_eq];exact key
theorem aiI{x y:Str}(h:y.cps.all (·<256)=ah):¬rW x<rW y:=by
 have e:rW y=1:=by unfold PySem.Builtin.Str.strKind;rw[art h]
 rw[e];unfold PySem.Builtin.Str.strKind;split
 ·omega
 ·split<;>omega
def f6(S:List Nat):List (List Nat)->List Nat
 |[]=>[]
 |[p]=>p
 |p::q::r=>p++(S++f6 S (q::r))
theorem G3(y:Str):∀parts:List Str,a6 (Qi y parts)=f6 (a6 y) (parts.map a6)
 |[]=>rfl
 |[_]=>rfl
 |x::z::r=>by show a6 (x++y++Qi y (z::r))=a6 x++(a6 y++f6 (a6 y) ((z::r).map a6));rw[ou,ou,G3 y (z::r),j2]
theorem join_eq(y:Str)(parts:List Str):Txt.join y parts=Qi y parts:=glued_eq_join y parts
end bf
end
namespace bL
open PySem PySem.Spec PyProof.Rows
theorem ZS:∀l:List (Str×Tok),bT ((l.map (·.1)).map V.str) (Qy l)
 |[]=>.nil
 |p::r=>.cons ⟨p.2,I⟩ (ZS r)
theorem Ph:∀{ys:List Str}{us:List ar},bT (ys.map V.str) us->P1 us ys
 |[],_,.nil=>.nil
 |y::ys,_,.cons r t=>by obtain⟨k,rfl⟩:=r;exact .cons y k (Ph t)
def M_(ys:List Str):ax->c9->Prop:=λH Q=>∀p,H p=af->Q (.ref p) (upd H p (.lst (ys.map V.str)))
section
variable{X:bN}{pins:List (Addr×Obj)}{σ:St}{H:ax}{s:aT}{Q:c9}
theorem Mf{l:List (Str×Tok)}{ys:List Str}{k:Nat}(ab:Inv X pins σ H s)(e:l.map (·.1)=ys)(a9:ys.length<=sizeLine)(h:M_ ys H Q):hD X pins σ Q (.ref s.heap.objs.size) {s with toks:=k,heap:=s.heap.push {cls:=.type "list",data:=.seq (Qy l).toArray}}:=by have aO:=ab.bo.fresh (bR _);refine⟨.ref s.heap.objs.size,upd H s.heap.objs.size (.lst (ys.map V.str)),ab.laid (λb u q=>fG _ q) (bR _) ⟨by rw[aU];exact a9,Qy l,_,?_,fX _ I⟩,I,h _ aO⟩;rw[<-e];exact ZS l
end
section
variable{X:bN}
theorem aju:sb X "str.split" (λx xs H Q=>∃a b,x=.str a/\xs=[.str b]/\(b.length==0)=aE/\a.length+2<=sizeLine/\M_ (Txt.split a b) H Q):=by
 intro pins s σ H x xs v us Q ab bq rs h;obtain⟨a,b,rfl,rfl,ak,a9,h⟩:=h;obtain⟨t,rfl⟩:=bq;cases rs with
 |cons bK rs=>
  cases rs;obtain⟨u,rfl⟩:=bK;have au:(Txt.split a b).length<=sizeLine:=b3 (apv a b) a9;have aC:(aaT a (P8 a b 0 a.length (a.length+1)) b.length).length<=sizeLine:=by have aS:=StrLaws.occ_length_le a b 0 a.length (a.length+1);rw[length_partsBetween];omega
  cases ag:(decide (a.length<b.length)||decide (rW a<rW b))
  ·cases hf:(P8 a b 0 a.length (a.length+1)).isEmpty
   ·refine uh HJ (xD _ _ _) P' (P_ _ _) (meets_str_split_sep a b t u ag ak hf aG aC) ?_;show hD X pins σ Q (.ref s.heap.objs.size) {s with toks:=_,heap:=s.heap.push {cls:=.type "list",data:=.seq (strsFrom s.toks (aaT a (P8 a b 0 a.length (a.length+1)) b.length)).toArray}};rw[strsFrom_eq];exact Mf (ys:=Txt.split a b) ab ((numbered_texts _ _).trans ((ars (ne_true_of_eq_false ag)).trans (ars (ne_true_of_eq_false hf))).symm) au h
   ·refine uh HJ (xD _ _ _) P' (P_ _ _) (meets_str_split_not_found a b t u ag ak hf) ?_;exact Mf (l:=[(a,t)]) (ys:=Txt.split a b) (k:=s.toks) ab ((ars (ne_true_of_eq_false ag)).trans (art hf)).symm au h
  ·refine uh HJ (xD _ _ _) P' (P_ _ _) (meets_str_split_cannot_occur a b t u ag) ?_;exact Mf (l:=[(a,t)]) (ys:=Txt.split a b) (k:=s.toks) ab (art ag).symm au h
theorem ajt:sb X "str.join" (λx xs H Q=>∃a p,∃ys:List Str,x=.str a/\xs=[.ref p]/\(aI X.K H p (ys.map V.str)\/eQ X.K H p (ys.map V.str))/\(ys.map (·.length)).sum+ys.length*a.length<=16777216/\Q (.str (Txt.join a ys)) H):=by
 intro pins s σ H x xs v us Q ab bq rs h;obtain⟨a,p,ys,rfl,rfl,aO,a9,h⟩:=h;obtain⟨t,rfl⟩:=bq;cases rs with
 |cons bK rs=>
  cases rs;cases bK;rcases aO with aO|aO
  ·obtain⟨its,r,⟨o,n,aA,aF,_,hd⟩,_⟩:=ab.list aO;exact apq (items:=its.toArray) ⟨o,aA,aF,n,hd⟩ (by rw[aax];exact Ph r) a9 λt' k=>⟨.str _,H,ab.tok k,⟨t',I⟩,h⟩
  ·obtain⟨its,r,bV,_⟩:=ab.tuple aO;exact apr (items:=its.toArray) bV (by rw[aax];exact Ph r) a9 λt' k=>⟨.str _,H,ab.tok k,⟨t',I⟩,h⟩
theorem ajs{id:String}{g:Str->Str->V}(rule:∀(a b:Str)(t u:Tok)(s:aT)(Q:ar->aT->Prop),(∀(v:ar)(k:Nat),RelV (g a b) v->Q v {s with toks:=k})->bp (bO X.prog X.w) X.A (call (.builtin id) [.str a t,.str b u]) Q X.d2 s):sb X id (λx xs H Q=>∃a b,x=.str a/\xs=[.str b]/\Q (g a b) H):=by
 intro pins s σ H x xs v us Q ab bq rs h;obtain⟨a,b,rfl,rfl,h⟩:=h;obtain⟨t,rfl⟩:=bq;cases rs with
 |cons bK rs=>cases rs;obtain⟨u,rfl⟩:=bK;exact rule a b t u s _ λv k r=>⟨g a b,H,ab.tok k,r,h⟩
theorem ajv:sb X "str.startswith" (λx xs H Q=>∃a b,x=.str a/\xs=[.str b]/\Q (.bB (Txt.startswith a b)) H):=ajs (g:=λa b=>.bB (Txt.startswith a b)) λ_ _ _ _ s _ h=>PySem.SC.startswith (h _ s.toks I)
end
section
variable{X:bN}{o e:Expr}{to te:TE}
def Pm(r:V->List V->ax->c9->Prop)(to te:TE):TE:=λσ H Q=>to σ H λx H1=>(∃a,x=.str a)/\te σ H1 λy az=>r x [y] az Q
theorem MX{id:String}{name:Str}{apos pos:Pos}{r:V->List V->ax->c9->Prop}(slot:Slot "str" name id)(ty:QA (.builtin id)=pure (.type "method_descriptor"))(rule:sb X id r)(aA:bC X o to)(he:bC X e te)(aP:eO [e] X.env=[(aE,c' e X.env)]:=by rfl)(o2:oC o name X.env (c' o X.env)=c' o X.env:=by rfl)(o6:(apos.endLine==pos.line)=ah:=by rfl):bC X (.Call (.Attribute o name apos) [e] [] pos) (Pm r to te):=by intro pins s σ H Q ab h;refine PySem.Call_method1 o2 aP o6 (b2 (aA pins s σ H _ ab h) λv s1⟨x,H1,a',bK,a7⟩=>?_);obtain⟨⟨a,rfl⟩,a7⟩:=a7;obtain⟨t,rfl⟩:=_root_.id bK;refine⟨"str",_,F.plainAttrs_str,slot,ty,xD _ _ _,(λ_ e=>nomatch e),Dn I (HH (Ap ?_))⟩;exact b2 (he pins s1 σ H1 _ a' a7) λu s2⟨y,az,b7,cS,bc⟩=>Dp (rule pins s2 σ az _ [y] _ [u] Q b7 bK (.cons cS .nil) bc)
theorem alD{apos pos:Pos}(aA:bC X o to)(he:bC X e te)(aP:eO [e] X.env=[(aE,c' e X.env)]:=by rfl)(o2:oC o "split" X.env (c' o X.env)=c' o X.env:=by rfl)(o6:(apos.endLine==pos.line)=ah:=by rfl):bC X (.Call (.Attribute o "split" apos) [e] [] pos) (Pm (λx xs H Q=>∃a b,x=.str a/\xs=[.str b]/\(b.length==0)=aE/\a.length+2<=sizeLine/\M_ (Txt.split a b) H Q) to te):=MX HJ F.type_str_split aju aA he aP o2 o6
theorem zR{apos pos:Pos}(aA:bC X o to)(he:bC X e te)(aP:eO [e] X.env=[(aE,c' e X.env)]:=by rfl)(o2:oC o "join" X.env (c' o X.env)=c' o X.env:=by rfl)(o6:(apos.endLine==pos.line)=ah:=by rfl):bC X (.Call (.Attribute o "join" apos) [e] [] pos) (Pm (λx xs H Q=>∃a p,∃ys:List Str,x=.str a/\xs=[.ref p]/\(aI X.K H p (ys.map V.str)\/eQ X.K H p (ys.map V.str))/\(ys.map (·.length)).sum+ys.length*a.length<=16777216/\Q (.str (Txt.join a ys)) H) to te):=MX F.slot_str_join F.type_str_join ajt aA he aP o2 o6
end
section
variable{X:bN}
theorem F0:hG X (jf .In) (λx y H Q=>∃(c:Nat)(z:Str),x=.str ⟨#[c]⟩/\y=.str z/\Q (.bB (decide (c∈z.cps.toList))) H):=by intro pins s σ H x y v u Q ab bq bP h;obtain⟨c,z,rfl,rfl,q⟩:=h;obtain⟨t,rfl⟩:=bq;obtain⟨t',rfl⟩:=bP;exact apo (gg ab q (PySem.StrLaws.found_one z c).symm)
end
theorem IsPart.raw{v:ar}{o:Option Int}(p:IsPart v o):∃l:Option (Int×Tok),v=partValue l/\l.map (·.1)=o:=by
 cases p with
 |none=>exact⟨af,I,I⟩
 |int i t=>exact⟨U (i,t),I,I⟩
def Ba(n d:Nat):Option Int->Int
 |none=>(d:Int)
 |some i=>max 0 (min (if i<0 then i+(n:Int)else i) (n:Int))
theorem RF(n d:Nat)(o:Option Int):Ba n d o=((cG.dM n d o:Nat):Int):=by
 cases o with
 |none=>rfl
 |some v=>
  show max (0:Int) (min (if v<0 then v+(n:Int)else v) (n:Int))=(((if v<0 then(v+(n:Int)).toNat else min v.toNat n):Nat):Int);by_cases bU:v<0
  ·simp only[art bU];omega
  ·simp only[ars bU];omega
theorem am9(a b:Option Int)(n:Nat):rX a b 1 n=sliceRange (Ba n 0 a) (Ba n n b) 1:=by
 have ag:((1:Int)>0)=True:=bl;cases a<;>cases b<;>first
  |rfl
  |(simp only[rX,Ba,ag,if_true];rfl)
  |simp[rX,Ba]
theorem am8(a b:Option Int)(n:Nat):rX a b 1 n=(cf (cG.dM n n b-cG.dM n 0 a)).map (λk=>cG.dM n 0 a+k):=by
 rw[am9,RF,RF];generalize cG.dM n 0 a=p;generalize cG.dM n n b=q;simp only[sliceRange,show((1:Int)>0)=True from bl,if_true];by_cases dD:(p:Int)<q
 ·have b0:(((q:Int)-p+1-1)/1).toNat=q-p:=by first|omega|(simp;done)|(simp;omega)
  simp only[dD,if_true,b0];refine jB λk _=>?_;omega
 ·have:q-p=0:=by omega
  simp[dD,this]
def vM(z:Str)(lo av:Option Int):Str:=⟨((z.cps.toList.drop (cG.dM z.length 0 lo)).take (cG.dM z.length z.length av-cG.dM z.length 0 lo)).toArray⟩
theorem Yb(z:Str)(lo av:Option Int):PySem.StrLaws.sliceText z lo av=vM z lo av:=by
 have ag:cG.dM z.length 0 lo<=z.length:=cG.XX _ _ (ec _) _;have ai:cG.dM z.length z.length av<=z.length:=cG.XX _ _ (bR _) _;have aO:cG.dM z.length 0 lo<=max (cG.dM z.length 0 lo) (cG.dM z.length z.length av):=Nat.le_max_left _ _;have aK:max (cG.dM z.length 0 lo) (cG.dM z.length z.length av)<=z.length:=Nat.max_le.mpr ⟨ag,ai⟩;have hd:max (cG.dM z.length 0 lo) (cG.dM z.length z.length av)-cG.dM z.length 0 lo=cG.dM z.length z.length av-cG.dM z.length 0 lo:=aG;have e:rX lo av 1 z.length=rX (U ((cG.dM z.length 0 lo:Nat):Int)) (U ((max (cG.dM z.length 0 lo) (cG.dM z.length z.length av):Nat):Int)) 1 z.length:=by rw[PySem.StrLaws.strSliceIndices_plain aO aK,hd,am8]
 have aQ:PySem.StrLaws.sliceText z lo av=PySem.StrLaws.sliceText z (U ((cG.dM z.length 0 lo:Nat):Int)) (U ((max (cG.dM z.length 0 lo) (cG.dM z.length z.length av):Nat):Int)):=by unfold PySem.StrLaws.sliceText;rw[e]
 rw[aQ,PySem.StrLaws.sliceText_nat z aO aK,hd];rfl
theorem adF(z:Str)(lo av:Option Int):(vM z lo av).length<=z.length:=by show(((z.cps.toList.drop (cG.dM z.length 0 lo)).take (cG.dM z.length z.length av-cG.dM z.length 0 lo)).toArray).size<=z.cps.size;rw[fO,fo,j3,rP];omega
inductive Xu(x:V)(lo:Option Int)(av:Option Int)(H:ax)(Q:c9):Prop
 |mk (z) (h0:x=.str z) (ag:z.length<=sizeLine) (ai:Q (.str (vM z lo av)) H)
theorem OX{X:bN}:Jh X Xu:=by
 intro pins s σ H x v rL rM lo av hP Q ab bq aP pl dk h;obtain⟨z,rfl,a9,q⟩:=h;obtain⟨t,rfl⟩:=bq;obtain⟨os,ahf,agk,agr⟩:=aP;obtain⟨l,rfl,rfl⟩:=IsPart.raw pl;obtain⟨u,rfl,rfl⟩:=IsPart.raw dk;refine⟨"str",_,F.slot_str_getitem.lookup,xD _ _ _,?_⟩;refine wpAny_getItem_str_slice (l:=l) (u:=u) (st:=af) ⟨os,ahf,agk,agr⟩ I ?_;have au:(PySem.StrLaws.sliceText z (l.map (·.1)) (u.map (·.1))).length<=sizeLine:=by rw[Yb];exact b3 (adF z _ _) a9
 rw[<-Yb]at q;unfold PySem.StrLaws.sliceText at q au;show Made.post (if((1:Int)==1&&(rX (l.map (·.1)) (u.map (·.1)) 1 z.length).length==z.length)=ah then Made.val (.str z t)else Made.str ⟨((rX (l.map (·.1)) (u.map (·.1)) 1 z.length).filterMap (z.cps[·]?)).toArray⟩) (hD X pins σ Q) s;by_cases c:((1:Int)==1&&(rX (l.map (·.1)) (u.map (·.1)) 1 z.length).length==z.length)=ah
 ·rw[art c]at q⊢;exact⟨.str z,H,ab,⟨t,I⟩,q⟩
 ·rw[ars c]at q au⊢;exact⟨au,.str _,H,ab.tok _,⟨_,I⟩,q⟩
end bL
namespace aca
open PySem PySem.W PySem.Calls PyProof.Rows
section
variable{prog:b6}{w:bX}{A:dQ}{E:ar->aT->Prop}{s:aT}{K:Frag}
end
end aca
namespace bL
open PySem PySem.Spec PyProof.Rows
def inClass(s:Stmt)(j:Nat):Stmt:=match s with
 | .ClassDef _ _ _ body _ _ _ _ _ _ _=>body.getD j (.Pass ⟨0,0,0,0⟩)
 |_=>.Pass ⟨0,0,0,0⟩
def mn(s:Stmt):Arguments:=match s with
 | .FunctionDef _ a _ _ _ _ _ _ _ _=>a
 |_=>{posonlyargs:=[],args:=[],vararg:=af,kwonlyargs:=[],kw_defaults:=[],kwarg:=af,defaults:=[]}
def lP(s:Stmt):List Stmt:=match s with
 | .FunctionDef _ _ b _ _ _ _ _ _ _=>b
 |_=>[]
def ct(s:Stmt):Scope:=match s with
 | .FunctionDef _ _ _ _ _ _ sc _ _ _=>sc
 |_=>{kind:=.function,names:=[],isGenerator:=false,isCoroutine:=false}
abbrev a8:mg:=λ_ _ _ _ _ _=>False
abbrev AS:lM:=λ_ _ _=>False
theorem bG{X:bN}:se a8 X AS:=λ_ _ _ _ _ _ _ h=>h.elim
structure r9(K:PySem.W.Frag)(x qual:Str)(st:Stmt)(f:Addr)(fd:jd):Prop where
 ex:∃(l9:ar)(cO:Option Addr)(cc doc pm:ar)(an:Option Addr)(b9 dC:ar)(tz:Array (Option ar)),fd=PySem.W.fnOf x qual (mn st) (lP st) (ct st) .none cc doc pm an b9 dC/\K.lookup f=U ⟨l9,cO,.func fd,tz⟩/\PySem.W.codeIn K b9 qual=ah
 bJ:PySem.W.keepIn K (.ref f)=ah
section
variable{P:b6}{w:bX}{K:PySem.W.Frag}{ap:Str->Option ar}{base:Heap}
theorem r9.ok{x qual:Str}{st:Stmt}{f:Addr}{fd:jd}{N ps:List Str}{k:Nat}{sp:cx}(F:r9 K x qual st f fd)(S:cR N ps (ct st))(len:∀vs H Q E,sp vs H Q E->vs.length=ps.length)(KV:∀(b9:ar)(A:dQ)(outer:List Env)(s:aT)(H:ax)(vs:List V)(Q:c9)(E:lM),de k (A.deeper (qK qual (ct st) s.heap.objs.size f b9))->sp vs H Q E->∃t,m3 (x9 a8 P w K ap base N qual (ct st) f b9 A outer s H E).ts (lP st) t/\t {cN:=λ_ ae=>Q .bZ ae,zU:=Q} (start N vs) H):a0 P w K ap base a8 (k+1) f fd ps sp:=by obtain⟨l9,cO,cc,doc,pm,an,b9,dC,tz,rfl,lk,p7⟩:=F.ex;refine aeG lk p7 S len λA outer s H vs Q E aL mB=>?_;obtain⟨t,h,q⟩:=KV b9 A outer s H vs Q E aL mB;exact⟨t,h.ts,q⟩
theorem r9.binds{x qual:Str}{st:Stmt}{f:Addr}{fd:jd}{ps:List Str}(F:r9 K x qual st f fd)(h:∀(cc doc pm:ar)(an:Option Addr)(b9 dC:ar)(us:List ar),us.length=ps.length->ue (PySem.W.fnOf x qual (mn st) (lP st) (ct st) .none cc doc pm an b9 dC) ⟨us,[]⟩=pure (ps.zip us)):Binds K fd ps []:=by obtain⟨l9,cO,cc,doc,pm,an,b9,dC,tz,rfl,lk,p7⟩:=F.ex;exact .all (h cc doc pm an b9 dC)
theorem T3{x qual:Str}{st:Stmt}{f:Addr}{l9:ar}{cO an:Option Addr}{tz:Array (Option ar)}{cc doc pm b9 dC:ar}(l:K.lookup f=U ⟨l9,cO,.func (PySem.W.fnOf x qual (mn st) (lP st) (ct st) .none cc doc pm an b9 dC),tz⟩)(c:PySem.W.codeIn K b9 qual=ah)(k:PySem.W.keepIn K (.ref f)=ah):r9 K x qual st f (PySem.W.fnOf x qual (mn st) (lP st) (ct st) .none cc doc pm an b9 dC):=⟨⟨l9,cO,cc,doc,pm,an,b9,dC,tz,I,l,c⟩,k⟩
end
theorem n9{A:dQ}{k:Nat}(aL:de k A):A.units+1<cLine:=k7 (Nat.add_le_add_left (by decide:1<=64) _) aL.units
theorem jw{n:Nat}(h:n<=1000):n<sizeLine:=k7 h a5
section
variable{X:bN}
theorem aj(i:Nat){x:Str}{pos:Pos}(gh:X.N[i]? =U x:=by rfl)(bU:xZ X.env.scope x:=by first|exact bA I|exact qH (bA I)|exact qH (qH I))(hd:(x==("__debug__":Str))=aE:=by decide)(p7:(x==("__classdict__":Str))=aE:=by decide):bC X (.Name x pos) (pk i):=alE gh bU hd p7
theorem JI:iE X (.builtin "len") (λxs H Q=>∃a kvs,xs=[V.ref a]/\H a=U (.cC kvs)/\Q (.int kvs.length) H):=by intro pins s σ H xs us Q ab r h;obtain⟨a,kvs,rfl,ay,q⟩:=h;obtain⟨u,rfl,gz⟩:=vals1 r;cases gz;exact adO ab (.inl ay) λt s' hU=>⟨.int kvs.length,H,hU,⟨t,I⟩,q⟩
end
theorem eD{A B:Prop}(h:B):if aE=ah then A else B:=by rw[ars eM];exact h
theorem d6{A B:Prop}(h:A):if ah=ah then A else B:=by rw[art I];exact h
theorem d5{c A B:Prop}[Decidable c](ag:c->A)(ai:¬c->B):if c then A else B:=by
 by_cases h:c
 ·rw[art h];exact ag h
 ·rw[ars h];exact ai h
theorem wy{c A B:Prop}[Decidable c](aF:c)(h:B):if(!decide c)=ah then A else B:=by rw[arq aF];exact eD h
def aw(H ae:ax):Prop:=∀b o,H b=U o->ae b=U o
theorem aw.refl(H:ax):aw H H:=λ_ _ h=>h
theorem aw.trans{H H1 az:ax}(a:aw H H1)(b:aw H1 az):aw H az:=λc o h=>b c o (a c o h)
theorem aw.free{H ae:ax}(e:aw H ae){l:Addr}(h:ae l=af):H l=af:=by
 cases q:H l with
 |none=>rfl
 |some o=>rw[e l o q]at h;cases h
theorem aw.seq{K:PySem.W.Frag}{H ae:ax}{a:Addr}{xs:List V}(e:aw H ae)(h:aI K H a xs):aI K ae a xs:=by
 rcases h with(h|⟨o,h⟩)|h
 ·exact .inl (.inl (e _ _ h))
 ·exact .inl (.inr ⟨o,e _ _ h⟩)
 ·exact .inr h
section
variable{dy:Type}[DecidableEq dy]
end
theorem aw.made{H H1:ax}{x aq C:Addr}(cN:H x=af)(ba:H aq=af)(k:∀b o,(upd (upd H aq (.own x)) x (.ins C aq [])) b=U o->b≠x->H1 b=U o):aw H H1:=λb o e=>k b o (by rw[aY (bj e cN),aY (bj e ba)];exact e) (bj e cN)
theorem aw.put{H ae:ax}{p:Addr}{o:dE}(s:aw H ae)(h:H p=af):aw H (upd ae p o):=λb u e=>by rw[aY (bj e h)];exact s b u e
theorem aw.new{H:ax}{p:Addr}{o:dE}(h:H p=af):aw H (upd H p o):=(aw.refl H).put h
theorem xl{σ:St}{j:Nat}{x:V}:wipe ((wipe σ [j]).set j (U x)) [j]=wipe σ [j]:=by show((σ.set j af).set j (U x)).set j af=σ.set j af;rw[xu,xu]
theorem C6{σ:St}{j:Nat}{x:V}:(wipe σ [j]).set j (U x)=σ.set j (U x):=by show(σ.set j af).set j (U x)=_;rw[xu]
theorem xf{α β:Type}{f:α->β}{xs:List α}{i:Nat}{x:α}(h:xs[i]? =U x):(xs.take (i+1)).map f=(xs.take i).map f++[f x]:=by obtain⟨av,e⟩:=ej.mp h;rw[HA av,e,eU];rfl
theorem take_succ_filter{α:Type}{p:α->Bool}{xs:List α}{i:Nat}{x:α}(h:xs[i]? =U x):(xs.take (i+1)).filter p=(xs.take i).filter p++(if p x=ah then[x]else[]):=by obtain⟨av,e⟩:=ej.mp h;rw[HA av,e,Dd];rw[nL];rfl
def xV(J:It)(g:h_)(tt:TT)(te:TE)(vs:List Nat)(σ:St)(H1:ax)(D:Addr)(iG:ax->Prop):Prop:=∃W:Nat->Nat->ax->Prop,(∃m,W 0 m (bL.upd H1 D (.lst [])))/\∀i m H,W i m H->(J.stop i H/\iG H)\/(J.go i H/\∃mY:ax->Prop,(∀ae,mY ae->∃m',m'<m/\W (i+1) m' ae)/\∀x ae,J.qz i H x ae->g x (wipe σ vs) ae λe6 az=>wipe e6 vs=wipe σ vs/\tt e6 az λb aZ=>if b=ah then te e6 aZ λy bz=>∃acc,bz D=U (.lst acc)/\acc.length<sizeLine/\mY (bL.upd bz D (.lst (acc++[y])))else mY aZ)
theorem zx{K:PySem.W.Frag}{a:Addr}{xs:List V}{te:TE}{j:Nat}{σ:St}{H1:ax}{D:Addr}{iG:ax->Prop}(f:V->V)(au:aI K H1 a xs)(cg:H1 D=af)(a9:xs.length<=sizeLine)(ak:∀x∈xs,∀H,aw H1 H->∀Q:c9,(∀ae,aw H ae->Q (f x) ae)->te (σ.set j (U x)) H Q)(hd:∀H,aw H1 H->H D=U (.lst (xs.map f))->iG H):xV (mX K a) (mu j) pn te [j] σ H1 D iG:=by
 refine FA (K:=K) (a:=a) (xs:=xs) (λi H=>aw H1 H/\H D=U (.lst ((xs.take i).map f))) ⟨aw.new cg,aW⟩ (λi H _ h=>h.1.seq au) ?_ (λH h=>hd H h.1 (by rw[h.2,hA]));intro i x H av h;refine⟨xl,?_⟩;unfold pn;dsimp only;rw[art I,C6];refine ak x (eN av) H h.1 _ λae s=>⟨_,s _ _ h.2,?_,?_,?_⟩
 ·rw[aU,fo];exact h5 (k7 (PY _ _) (ej.mp av).1) a9
 ·exact(h.1.trans s).put cg
 ·rw[aW,xf av]
theorem VE{K:PySem.W.Frag}{a:Addr}{xs:List V}{tt:TT}{te:TE}{j:Nat}{σ:St}{H1:ax}{D:Addr}{iG:ax->Prop}(p:V->Bool)(au:aI K H1 a xs)(cg:H1 D=af)(a9:xs.length<=sizeLine)(bV:∀x∈xs,∀H,aw H1 H->∀Q:Bool->ax->Prop,(∀ae,aw H ae->Q (p x) ae)->tt (σ.set j (U x)) H Q)(ak:∀x∈xs,∀H,aw H1 H->∀Q:c9,(∀ae,aw H ae->Q x ae)->te (σ.set j (U x)) H Q)(hd:∀H,aw H1 H->H D=U (.lst (xs.filter p))->iG H):xV (mX K a) (mu j) tt te [j] σ H1 D iG:=by
 refine FA (K:=K) (a:=a) (xs:=xs) (λi H=>aw H1 H/\H D=U (.lst ((xs.take i).filter p))) ⟨aw.new cg,aW⟩ (λi H _ h=>h.1.seq au) ?_ (λH h=>hd H h.1 (by rw[h.2,hA]));intro i x H av h;refine⟨xl,?_⟩;rw[C6];refine bV x (eN av) H h.1 _ λae s=>?_;have h':aw H1 ae:=h.1.trans s;have e':=s _ _ h.2;by_cases aO:p x=ah
 ·rw[art aO];refine ak x (eN av) ae h' _ λaz s2=>⟨_,s2 _ _ e',?_,?_,?_⟩
  ·have:=tZ p (xs.take i);rw[fo]at this;exact h5 (k7 (b3 this (PY _ _)) (ej.mp av).1) a9
  ·exact(h'.trans s2).put cg
  ·rw[aW,take_succ_filter av,art aO]
 ·rw[ars aO];exact⟨h',by rw[e',take_succ_filter av,ars aO,iP]⟩
theorem VG{z:Str}{te:TE}{j:Nat}{σ:St}{H1:ax}{D:Addr}{iG:ax->Prop}(f:Nat->V)(cg:H1 D=af)(a9:z.length<=sizeLine)(ak:∀c∈bf.a6 z,∀H,aw H1 H->∀Q:c9,(∀ae,aw H ae->Q (f c) ae)->te (σ.set j (U (.str ⟨#[c]⟩))) H Q)(hd:∀H,aw H1 H->H D=U (.lst ((bf.a6 z).map f))->iG H):xV (xU z) (mu j) pn te [j] σ H1 D iG:=by
 have aC:z.cps.size=(bf.a6 z).length:=bl;refine⟨λi m H=>m=z.cps.size-i/\i<=z.cps.size/\aw H1 H/\H D=U (.lst (((bf.a6 z).take i).map f)),⟨z.cps.size,bl,ec _,aw.new cg,aW⟩,?_⟩;rintro i m H ⟨rfl,av,s,e⟩;by_cases dD:i<z.cps.size
 ·refine .inr ⟨dD,λae=>aw H1 ae/\ae D=U (.lst (((bf.a6 z).take (i+1)).map f)),λae p=>⟨z.cps.size-(i+1),aG,I,dD,p.1,p.2⟩,?_⟩;rintro x ae ⟨rfl,c,aF,rfl⟩;have sS:(bf.a6 z)[i]? =U c:=by simpa using aF
  refine⟨xl,?_⟩;unfold pn;dsimp only;rw[art I,C6];refine ak c (eN sS) ae s _ λaz s2=>⟨_,s2 _ _ e,?_,(s.trans s2).put cg,?_⟩
  ·rw[aU,fo];have:z.length=(bf.a6 z).length:=bf.mG z;exact h5 (k7 (PY _ _) aG) a9
  ·rw[aW,xf sS]
 ·have aQ:i=z.cps.size:=by omega
  subst aQ;refine .inl ⟨bR _,hd H s ?_⟩;rw[e,aC,hA]
theorem aeM{z:Str}{g:h_}{cT:fS}{D:Ends}{σ:St}{H:ax}(Pv:Nat->St->ax->Prop)(h0:Pv 0 σ H)(aP:∀i c σ H,(bf.a6 z)[i]? =U c->Pv i σ H->g (.str ⟨#[c]⟩) σ H λe6 az=>cT {D with cN:=Pv (i+1),dC:=Pv (i+1),iH:=D.cN} e6 az)(hd:∀σ H,Pv (bf.a6 z).length σ H->D.cN σ H):∃W:Nat->Nat->St->ax->Prop,(∃m,W 0 m σ H)/\∀i m σ H,W i m σ H->((xU z).stop i H/\D.cN σ H)\/((xU z).go i H/\∃N:St->ax->Prop,(∀cj ae,N cj ae->∃m',m'<m/\W (i+1) m' cj ae)/\∀x ae,(xU z).qz i H x ae->g x σ ae λe6 az=>cT {D with cN:=N,dC:=N,iH:=D.cN} e6 az):=by
 have aC:z.cps.size=(bf.a6 z).length:=bl;refine⟨λi m σ H=>m=z.cps.size-i/\i<=z.cps.size/\Pv i σ H,⟨z.cps.size,bl,ec _,h0⟩,?_⟩;rintro i m σ H ⟨rfl,av,p⟩;by_cases dD:i<z.cps.size
 ·refine .inr ⟨dD,Pv (i+1),λcj ae p'=>⟨z.cps.size-(i+1),aG,I,dD,p'⟩,?_⟩;rintro x ae ⟨rfl,c,aF,rfl⟩;exact aP i c σ ae (by simpa using aF) p
 ·have aQ:i=z.cps.size:=by omega
  subst aQ;exact .inl ⟨bR _,hd σ H (by rw[<-aC];exact p)⟩
theorem vJ:jD "all"=U (.builtin "all"):=aD
theorem Rq:jD "any"=U (.builtin "any"):=aD
theorem Rt:jD "ord"=U (.builtin "ord"):=aD
theorem Ru:jD "set"=U (.type "set"):=aD
theorem m5:jD "list"=U (.type "list"):=aD
abbrev bW(l:List Nat):Str:=⟨l.toArray⟩
abbrev aV(l:List Nat):V:=.str (bW l)
theorem Cm{a b:List Nat}(h:bW a=bW b):a=b:=by have:bf.a6 (bW a)=bf.a6 (bW b):=congrArg _ h;simpa using this
theorem xc{a b:List Nat}(h:aV a=aV b):a=b:=Cm (V.str.inj h)
theorem rI{x:Str}{l:List Nat}(h:bf.a6 x=l):x=bW l:=by rw[<-h]
section
variable{X:bN}
def Cf:V->V->Bool
 | .int _,.int _=>ah
 | .str _,.str _=>ah
 |_,_=>aE
def y4:ar->ar->Bool
 | .int a _,.int b _=>a==b
 | .str x _,.str y _=>x.cps.toList==y.cps.toList
 |_,_=>aE
theorem aen{z y:V}{u v:ar}(l:Cf z y=ah)(w8:RelV z u)(bP:RelV y v):PySem.MeetsSeq.EqGives u v (y4 u v):=by
 cases z<;>cases y<;>first
  |(exact aro l eM)
  |(obtain⟨t,rfl⟩:=w8;obtain⟨t',rfl⟩:=bP;first|exact PySem.MeetsSeq.EqGives.int _ _ _ _|exact PySem.SeqRoads2.EqGives.str _ _ _ _)
theorem Sg{z y:V}{u v:ar}(l:Cf z y=ah)(w8:RelV z u)(bP:RelV y v):y4 u v=decide (z=y):=by
 cases z<;>cases y<;>first
  |(exact aro l eM)
  |(obtain⟨t,rfl⟩:=w8;obtain⟨t',rfl⟩:=bP;rename_i a b;by_cases h:a=b;(subst h;simp[y4]);rw[arp (λz=>h (by injection z))];first|exact beq_eq_false_iff_ne.mpr h|exact beq_eq_false_iff_ne.mpr λz=>h (bf.Bk z))
inductive amc(x:V)(vs:List V)(H:ax)(Q:c9):Prop
 |mk (l:Addr) (xs:List V) (y:V) (j:Nat) (h0:x=.ref l) (ag:vs=[y]) (ai:H l=U (.lst xs)) (aN:(∀z∈xs,Cf z y=ah)) (bD:xs[j]? =U y) (cw:(∀m,m<j->xs[m]? ≠U y)) (e_:Q .bZ (upd H l (.lst (xs.eraseIdx j))))
theorem Mq:DU X "list.remove" amc:=by
 intro pins s σ H x vs v us Q ab bq di h;obtain⟨l,xs,y,j,rfl,rfl,hZ,Le,a_,qc,q⟩:=h;cases bq;obtain⟨u,rfl,gz⟩:=di.one;obtain⟨z,its,n,r,au,e⟩:=ab.lm hZ;have rel:∀i fc,its[i]? =U fc->∃mR,xs[i]? =U mR/\RelV mR fc:=λi fc hw=>by obtain⟨av,_⟩:=ej.mp hw;obtain⟨iB,ag,ai⟩:=r.get (i:=i) (x:=xs[i]'(aG)) (by simp[show i<xs.length by omega]);rw[hw]at ag;cases ag;exact⟨_,gB (show i<xs.length by omega),ai⟩
 obtain⟨aow,wk,agM⟩:=r.get a_;obtain⟨rk,agO⟩:=ej.mp wk;refine uh PySem.F.slot_list_remove ⟨_,e,I⟩ PySem.F.entry_list_remove (PySem.F.args_list_remove_2 _ _) (MeetsSeq.list_remove l its.toArray n u (λfc=>y4 fc u) (λfc hw=>?_) j (by simpa using rk) ?_ (λm hm ag2=>?_) (by rw[fO];omega)) ⟨e,?_⟩
 ·have hw:fc∈its:=by simpa using hw
  obtain⟨i,av⟩:=Dg.mp hw;obtain⟨mR,ag,ai⟩:=rel i fc av;exact aen (Le mR (eN ag)) ai gz
 ·have aS:its.toArray[j]'(by simpa using rk)=aow:=by simpa using agO
  show y4 (its.toArray[j]'(by simpa using rk)) u=ah;rw[aS,Sg (Le y (eN a_)) agM gz];simp
 ·have ag3:m<its.length:=by simpa using hm
  obtain⟨mR,ag,ai⟩:=rel m its[m] (by simp[ag3]);have aS:its.toArray[m]=its[m]:=bl;show y4 its.toArray[m] u=aE;rw[aS,Sg (Le mR (eN ag)) ai gz];exact arp λz=>qc m ag2 (by rw[ag,z])
 ·refine⟨.bZ,_,ab.wF (its':=its.eraseIdx j) hZ e ?_ ?_ ?_,I,q⟩
  ·show its.toArray.eraseIdxIfInBounds j=(its.eraseIdx j).toArray;rw[aaf]
  ·have:∀{xs:List V}{us:List ar}(i:Nat),bT xs us->bT (xs.eraseIdx i) (us.eraseIdx i):=by
    intro xs us i h;induction h generalizing i with
    |nil=>exact .nil
    |cons r t ih=>cases i with
     |zero=>exact t
     |succ i=>exact .cons r (ih i)
   exact this j r
  ·have:=List.length_eraseIdx_le xs j;omega
theorem Ee:iE X (.type "range") (λxs H Q=>∃j:Int,xs=[.int j]/\∀p,H p=af->Q (.ref p) (upd H p (.i8 0 j))):=by intro pins s σ H xs us Q ab r h;obtain⟨j,rfl,q⟩:=h;obtain⟨u,rfl,t,rfl⟩:=vals1 r;refine call_range_1 ⟨.ref s.heap.objs.size,_,ab.laid (o:=.i8 0 j) (λb o e=>fG _ e) (bR _) ⟨_,_,_,fX _ I⟩,I,q _ (ab.bo.fresh (bR _))⟩
theorem adl:iE X (.type "range") (λxs H Q=>∃i j:Int,xs=[.int i,.int j]/\∀p,H p=af->Q (.ref p) (upd H p (.i8 i j))):=by intro pins s σ H xs us Q ab r h;obtain⟨i,j,rfl,q⟩:=h;obtain⟨u,v,rfl,⟨t,rfl⟩,t',rfl⟩:=r.two;refine call_range_2 ⟨.ref s.heap.objs.size,_,ab.laid (o:=.i8 i j) (λb o e=>fG _ e) (bR _) ⟨_,_,_,fX _ I⟩,I,q _ (ab.bo.fresh (bR _))⟩
theorem Ha{P:Nat->ar->Prop}{acc:Array ar}{n:Nat}{ys:List V}(h:ItemsOf P acc n)(au:ys.length=n)(aO:∀(i:Nat)(v:ar)(y:V),ys[i]? =U y->P i v->RelV y v):bT ys acc.toList:=by
 have key:∀(ys:List V)(us:List ar),ys.length=us.length->(∀(i:Nat)(y:V)(u:ar),ys[i]? =U y->us[i]? =U u->RelV y u)->bT ys us:=by
  intro ys;induction ys with
  |nil=>
   intro us au _;cases us with
   |nil=>exact .nil
   |cons _ _=>cases au
  |cons y ys ih=>
   intro us au aL;cases us with
   |nil=>cases au
   |cons u us=>exact .cons (aL 0 y u I I) (ih us (by simpa using au) λi aoX hR ag ai=>aL (i+1) aoX hR (by simpa using ag) (by simpa using ai))
 refine key ys acc.toList (by rw[au,<-h.1];simp) λi y u ag ai=>aO i u y ag (h.2 i u (by simpa using ai))
def k3(lo:Int)(n:Nat):List V:=(cf n).map λi=>V.int (lo+(i:Nat))
theorem A9(aF:X.calm=ah):iE X (.type "list") (λxs H Q=>∃(p:Addr)(lo av:Int),xs=[.ref p]/\H p=U (.i8 lo av)/\-(2^62)<=lo/\lo<2^62/\-(2^62)<=av/\av<2^62/\(av-lo).toNat<=1000/\∀l,H l=af->Q (.ref l) (upd H l (.lst (k3 lo (av-lo).toNat)))):=by
 intro pins s σ H xs us Q ab r h;obtain⟨p,lo,av,rfl,aO,ag,ai,aN,bD,aC,q⟩:=h;obtain⟨u,rfl,bq⟩:=vals1 r;cases bq;obtain⟨t,u,v,e⟩:=ab.bo p _ aO;have d4:X.A.handled=af:=ab.ok.hd aF;have cP:aaS lo av 1=((av-lo).toNat:Nat):=by rw[rangeSize_one];split<;>omega
 refine call_list_range d4 e (small_one ag ai aN bD) cP aG λh' tk fA cp aH d1 iZ=>?_;have bU:bT (k3 lo (av-lo).toNat) fA.toList:=by
  refine Ha iZ (by simp[k3]) λi v y a_ bU=>?_;obtain⟨t,rfl⟩:=bU;unfold k3 at a_;rw[dI]at a_;cases q:(cf (av-lo).toNat)[i]? with
  |none=>rw[q]at a_;cases a_
  |some k=>
   rw[q]at a_;have aH:k=i:=by obtain⟨a,b⟩:=ej.mp q;simpa using b.symm
   subst aH;have a_:V.int (lo+(k:Nat))=y:=bS a_;subst a_;exact⟨t,by rw[Int.mul_one]⟩
 refine⟨.ref s.heap.objs.size,_,ab.laid (o:=.lst (k3 lo (av-lo).toNat)) aH (bR _) ⟨?_,fA.toList,cp,bU,?_⟩,I,q _ (ab.bo.fresh (bR _))⟩
 ·rw[show(k3 lo (av-lo).toNat).length=(av-lo).toNat by simp[k3]];exact b3 aC a5
 ·rw[Hf];exact d1
theorem fh.Kx{dy:Type}:∀{kvs:List (dy×V)}{vs:List (dy×ar)}{i:Nat}{kv:dy×V},fh kvs vs->kvs[i]? =U kv->∃u,vs[i]? =U (kv.1,u)/\RelV kv.2 u
 |_,_,_,_,.nil,h=>by simp at h
 |_,_,0,_,.cons (b:=b) r _,h=>by simp at h;subst h;exact⟨b.2,by simp[r.1],r.2⟩
 |_,_,i+1,kv,.cons _ t,h=>by obtain⟨u,ag,ai⟩:=fh.Kx (i:=i) (kv:=kv) t (by simpa using h);exact⟨u,by simpa using ag,ai⟩
theorem adi(aF:X.calm=ah):iE X (.type "list") (λxs H Q=>∃(d:Addr)(kvs:List (Key×V)),xs=[.ref d]/\H d=U (.cC kvs)/\∀l,H l=af->Q (.ref l) (upd H l (.lst (kvs.map λkv=>cc kv.1)))):=by
 intro pins s σ H xs us Q ab r h;obtain⟨d,kvs,rfl,hd,q⟩:=h;obtain⟨u,rfl,bq⟩:=vals1 r;cases bq;obtain⟨a9,lo,vs,g_,cg⟩:=Ej ab.bo hd;obtain⟨ep,KS⟩:=cg.dictAt;have au:=g_.length;refine PySem.W.kdl_call (PySem.W.kdl_dict (knd:=eF X.prog X.w) (kvs:=vs) (ep:=ep) lo) (ab.ok.hd aF) KS aG λh' tk fA cp aH d1 iZ=>?_;have bU:bT (kvs.map λkv=>cc kv.1) fA.toList:=by
  refine Ha iZ (by simp[au]) λi v y a_ bU=>?_;obtain⟨k,x,ag,ai⟩:=bU;rw[dI]at a_;cases q:kvs[i]? with
  |none=>rw[q]at a_;cases a_
  |some kv=>
   rw[q]at a_;have a_:cc kv.1=y:=bS a_;subst a_;obtain⟨u,aN,_⟩:=g_.Kx q;rw[ag]at aN;have aH:=(qI (bS aN)).1;subst aH;rcases n' ai with⟨j,t,aS,rfl⟩|⟨z,t,aS,rfl⟩
   ·rw[aS];exact⟨t,I⟩
   ·rw[aS];exact⟨t,I⟩
 refine⟨.ref s.heap.objs.size,_,ab.laid (o:=.lst (kvs.map λkv=>cc kv.1)) aH (bR _) ⟨?_,fA.toList,cp,bU,?_⟩,I,q _ (ab.bo.fresh (bR _))⟩
 ·rw[aU];exact a9
 ·rw[Hf];exact d1
def oN(p d:Addr):dE:=.ext λh=>h.IsValuesView p d
theorem Mr:sb X "dict.values" (λx vs H Q=>∃(d:Addr)(kvs:List (Key×V)),x=.ref d/\vs=[]/\H d=U (.cC kvs)/\∀p,H p=af->Q (.ref p) (upd H p (oN p d))):=by intro pins s σ H x xs v us Q ab bq amx h;obtain⟨d,kvs,rfl,rfl,hd,q⟩:=h;cases bq;obtain rfl:=amx.zero;obtain⟨a9,lo,vs,g_,cg⟩:=Ej ab.bo hd;refine Dx PySem.F.slot_dict_values cg.typeIs PySem.F.entry_dict_values (PySem.F.args_dict_values_1 _) (meets_dict_values (eF X.prog X.w) d lo) ⟨⟨vs,cg⟩,?_⟩;refine⟨.ref s.heap.objs.size,_,ab.laid (t':=s.toks) (o:=oN s.heap.objs.size d) (λb o e=>fG _ e) (bR _) ⟨⟨_,fX _ I,I,I⟩,⟨_,fX _ I⟩,?_⟩,I,q _ (ab.bo.fresh (bR _))⟩;rintro ag ai ⟨o,aA,x⟩ aH;exact⟨o,aH o aA,x⟩
theorem JK(aF:X.calm=ah):iE X (.type "list") (λxs H Q=>∃(p d:Addr)(kvs:List (Key×V)),xs=[.ref p]/\H p=U (oN p d)/\H d=U (.cC kvs)/\∀l,H l=af->Q (.ref l) (upd H l (.lst (kvs.map (·.2))))):=by
 intro pins s σ H xs us Q ab r h;obtain⟨p,d,kvs,rfl,aO,hd,q⟩:=h;obtain⟨u,rfl,bq⟩:=vals1 r;cases bq;obtain⟨a9,lo,vs,g_,cg⟩:=Ej ab.bo hd;obtain⟨o8,_,_⟩:=ab.bo p _ aO;obtain⟨ep,KS⟩:=cg.dictAt;have au:=g_.length;refine PySem.W.kdl_call (PySem.W.kdl_values (r:=p) (knd:=eF X.prog X.w) (kvs:=vs) (ep:=ep)) (ab.ok.hd aF) ⟨o8,KS⟩ aG λh' tk fA cp aH d1 iZ=>?_;have bU:bT (kvs.map (·.2)) fA.toList:=by
  refine Ha iZ (by simp[au]) λi v y a_ bU=>?_;obtain⟨k,ag⟩:=bU;rw[dI]at a_;cases q:kvs[i]? with
  |none=>rw[q]at a_;cases a_
  |some kv=>rw[q]at a_;have a_:kv.2=y:=bS a_;subst a_;obtain⟨u,aN,bD⟩:=g_.Kx q;rw[ag]at aN;have aH:=(qI (bS aN)).2;subst aH;exact bD
 refine⟨.ref s.heap.objs.size,_,ab.laid (o:=.lst (kvs.map (·.2))) aH (bR _) ⟨?_,fA.toList,cp,bU,?_⟩,I,q _ (ab.bo.fresh (bR _))⟩
 ·rw[aU];exact a9
 ·rw[Hf];exact d1
end
def lj(k:Key)(l:List Key):Bool:=l.any λj=>decide (j=k)
theorem Fk{k:Key}{l:List Key}:lj k l=ah↔k∈l:=by unfold lj;rw[Hn];exact⟨λ⟨j,h,e⟩=>(aru e)▸h,λh=>⟨k,h,arq I⟩⟩
def gj(l:List Key):List Key:=l.foldl (λacc k=>if lj k acc=ah then acc else acc++[k]) []
theorem Ww(l:List Key)(k:Key):gj (l++[k])=if lj k (gj l)=ah then gj l else gj l++[k]:=by unfold gj;rw[qB];rfl
theorem ake(l:List Key):(gj l).length<=l.length:=by
 have key:∀(l acc:List Key),(l.foldl (λacc k=>if lj k acc=ah then acc else acc++[k]) acc).length<=acc.length+l.length:=by
  intro l;induction l with
  |nil=>intro acc;exact bR _
  |cons k r ih=>
   intro acc;have:=ih (if lj k acc=ah then acc else acc++[k]);rw[rS,cW];refine b3 this ?_;split
   ·omega
   ·rw[cA,j5];omega
 have:=key l [];rw[j4,Am]at this;exact this
theorem am1{k:Key}{v:ar}(h:kq k v=ah):v.scannable=ah:=by rcases n' h with⟨i,t,rfl,rfl⟩|⟨x,t,rfl,rfl⟩<;>rfl
section
variable{prog:b6}{w:bX}{A:dQ}{R:xy->aT->Prop}{ab:Addr}{fp wr:List Addr}{G:Array HK->Array HK->Prop}{ks:List Key}{P:Nat->ar->Prop}{St:Nat->aT->Prop}
theorem SetOf.stays{h h':Heap}{S:Key->Bool}{n:Nat}{a:Addr}(x:h.SetOf (eF prog w) a S n)(k:∀o,h.get? a=U o->h'.get? a=U o):h'.SetOf (eF prog w) a S n:=by obtain⟨o,es,ep,t,aA,rest⟩:=x;exact⟨o,es,ep,t,k o aA,rest⟩
theorem am4(W:WalksS prog w A.in1 ab fp wr G ks.length P St)(S:Addr)(EN:S∉fp)(B3:∀i v,P i v->∃k,ks[i]? =U k/\kq k v=ah)(ak:ks.length+1<scanBound)(m:Nat):∀(i:Nat)(s:aT),ks.length-i=m->i<=ks.length->St i s->s.heap.SetOf (eF prog w) S (λk=>lj k (gj (ks.take i))) (gj (ks.take i)).length->(∀s',Moved (S::wr) G s s'->s'.heap.SetOf (eF prog w) S (λk=>lj k (gj ks)) (gj ks).length->R (.ok (.ret .none)) s')->oD (bO prog w) A (.builtin "set.update.loop" ⟨[.ref S,.ref ab],[]⟩) R s:=by
 have Us:S∉wr:=λh=>EN (W.sub _ h);have Lq:∀b∈wr,b∈S::wr:=λb ak=>j7 _ ak;induction m with
 |zero=>intro i s hm av lZ d1 dN;obtain rfl:i=ks.length:=aG;refine codeAny_builtin aaI ?_;rw[qL P0 _];refine bg (m:=j9 (.ref ab)) (W.done s _ _ lZ λs' qi=>?_);rw[hA]at d1;exact cD (dN s' (qi.mono Lq) (SetOf.stays d1 λo aA=>qi.heap S o Us aA))
 |succ m ih=>
  intro i s hm av lZ d1 dN;refine codeAny_builtin aaI ?_;rw[qL P0 _];refine bg (m:=j9 (.ref ab)) (W.item i s _ _ aG lZ λv s' cX BY qi=>?_);obtain⟨k,aH,g_⟩:=B3 i v cX;have afW:=SetOf.stays d1 λo aA=>qi.heap S o Us aA;refine bg (m:=oE [v] (setAdd S v)) (lE ?_);unfold setAdd;refine lE (bg ((eF prog w).pyHash (k:=k) g_ ?_));have oS:ks.take (i+1)=ks.take i++[k]:=by obtain⟨ag,ai⟩:=ej.mp aH;rw[HA ag,ai]
  have ahC:(gj (ks.take i)).length+1<scanBound:=by have:=ake (ks.take i);rw[fo]at this;omega
  refine wpAny_setAddHashed_of (knd:=eF prog w) (s:={s' with toks:=s'.toks+1}) g_ (am1 g_) afW ahC λh' fF Bz=>?_;have EL:h'.SetOf (eF prog w) S (λk=>lj k (gj (ks.take (i+1)))) (gj (ks.take (i+1))).length:=by
   obtain⟨o,es,ep,t,aA,ag,ai,aN,bD,cw,e_,iW⟩:=Bz;refine⟨o,es,ep,t,aA,ag,ai,aN,λhk=>?_,cw,e_,?_⟩
   ·rw[<-bD hk,oS,Ww];by_cases q:lj k (gj (ks.take i))=ah
    ·rw[art q,pz,decide_eq_true_eq];exact⟨.inl,λz=>z.elim id λz=>z▸q⟩
    ·rw[ars q,pz,decide_eq_true_eq,Fk,Fk,gn,gp]
   ·rw[iW,oS,Ww];by_cases q:lj k (gj (ks.take i))=ah
    ·rw[art q,art q]
    ·rw[ars q,ars q,cA];rfl
  refine cD ⟨pG P0 _,ih (i+1) _ aG aG (W.frame _ s' _ _ BY (Di _) λb ak o e=>?_) EL λs2 ajx EM=>?_⟩
  ·rw[fF.2 b (λh=>EN (h▸ak))];exact e
  ·refine dN s2 (Moved.trans W.gtrans ((qi.mono Lq).then_heap (Di _) λb o ak e=>?_) ajx) EM;rw[fF.2 b (λh=>ak (h▸mT))];exact e
end
section
variable{prog:b6}{w:bX}{A:dQ}{E:ar->aT->Prop}{s:aT}
abbrev pj(led:Bool):Obj:={cls:=.type "set",dict:=af,data:=.set #[] 0 (.fresh 0 0 led)}
inductive AY(prog:b6)(w:bX)(ks:List Key)(s:aT)(s2:aT):Prop
 |mk (h' tk) (h0:s2={s with heap:=h',toks:=tk}) (ag:h'.SetOf (eF prog w) s.heap.objs.size (λk=>lj k (gj ks)) (gj ks).length) (ai:∀b o,b<s.heap.objs.size->s.heap.get? b=U o->h'.get? b=U o)
theorem am3{l:Addr}{items:Array ar}{ks:List Key}(d4:A.handled=af)(au:s.heap.IsList l items)(aC:items.size=ks.length)(av:∀(i:Nat)(v:ar),items[i]? =U v->∃k,ks[i]? =U k/\kq k v=ah)(ak:ks.length+1<scanBound)(led:Bool):bp (bO prog w) A.in1.in1 (oB.«set.__init__» ⟨[.ref s.heap.objs.size,.ref l],[]⟩) (λfin s'=>match fin with| .done f=>DA (λr s2=>r=.none/\AY prog w ks s s2) E (.ok f) s'| .again cp=>cp.quiet=ah/\oD (bO prog w) A.in1 cp (DA (λr s2=>r=.none/\AY prog w ks s s2) E) s') (λe s'=>DA (λr s2=>r=.none/\AY prog w ks s s2) E (.error e) s') {s with heap:=s.heap.push (pj led)}:=by
 have d1:(s.heap.push (pj led)).get? s.heap.objs.size=U (pj led):=fX _ I;have ft:(s.heap.push (pj led)).IsList l items:=au.push _;obtain⟨alf,U1,lW,nl,ES⟩:=au;have UQ:l<s.heap.objs.size:=ef U1;obtain⟨aq9,akk,ara,alm⟩:=alf;simp only at lW ES;subst lW;subst ES;have aqN:(s.heap.push (pj led)).get? l=U {cls:=.type "list",dict:=akk,data:=.seq items nl,slots:=alm}:=fG _ U1;have co:=F.sub_list_set;have fD:=F.sub_list_frozenset;have f7:(r1 "list"==r1 "dict")=aE:=a5;unfold oB.«set.__init__» noKeywords apC;generalize afT:AA=nW;wp_walk;subst afT;refine H4 ft (bg (wpAny_runValue ?_));have fu:l≠(s.heap.push (pj led)).objs.size:=by rw[k8];exact hS (Ak UQ)
 have EN:s.heap.objs.size∉[(s.heap.push (pj led)).objs.size,l]:=by rw[k8];simp only[ek,Hw,or_false,not_or];exact⟨hS (t9 _),oz UQ⟩
 have W:=(Av (prog:=prog) (w:=w) (A:=A.in1.in1.in1) (by simpa using d4) (s.heap.push (pj led)).objs.size l fu items).toS;rw[aC]at W;refine am4 W s.heap.objs.size EN av ak ks.length 0 _ aG (ec _) ⟨⟨_,fX _ I,I,I⟩,ft.push _⟩ ?_ λs' qi afV=>?_
 ·exact⟨pj led,#[],0,_,fG _ d1,⟨I,I,I⟩,I,λe he=>by simp at he,λk=>by simp[gj,lj],(by unfold scanBound;decide),I,I⟩
 ·obtain⟨h',g',d',pq,MS⟩:=s';have Bh:g'=s.gens:=qi.gens;have aeh:d'=s.drawn:=qi.drawn;have v7:MS=s.os:=qi.os;subst Bh;subst aeh;subst v7;refine cD (cD ⟨I,h',pq,I,afV,λb o ak e=>?_⟩);refine qi.heap b o ?_ (fG _ (fG _ e));rw[k8];simp only[ek,Hw,or_false,not_or];exact⟨hS ak,hS (Ak ak)⟩
theorem adn{l:Addr}{items:Array ar}{ks:List Key}{Q:ar->aT->Prop}(d4:A.handled=af)(au:s.heap.IsList l items)(aC:items.size=ks.length)(av:∀(i:Nat)(v:ar),items[i]? =U v->∃k,ks[i]? =U k/\kq k v=ah)(ak:ks.length+1<scanBound)(h:∀s2,AY prog w ks s s2->Q (.ref s.heap.objs.size) s2):bp (bO prog w) A (call (.type "set") [.ref l]) Q E s:=by
 obtain⟨c,a6,aqM⟩:=ua.mro;have aqK:=ua.made;have Lq:=ua.sub;refine DB (codeAny_of_tree ?_);refine cD ⟨Code.quiet_builtin _ aD,codeAny_builtin F.entry_type_call ?_⟩;rw[Around.under_plain (weight_type_call_type "set" [.ref l] []) I];have ag:=ua.notType;have ai:=ua.canCreate;have aqA:=F.typeCall_set_1 (.ref l);repeat(any_goals(first|assumption|wp_step))
 refine xA (code_set_new_1 (.ref l) (E:=E) (Q₁:=λobj d7=>∃led:Bool,obj=.ref s.heap.objs.size/\d7={s with heap:=s.heap.push (pj led)}) λled=>⟨led,I,I⟩) λr d7 aL=>?_;cases r with
 |error e=>exact aL
 |ok lS=>
  cases lS with
  |ret obj=>
   obtain⟨led,rfl,rfl⟩:=aL;have ey:Shared.TypeIs {s with heap:=s.heap.push (pj led)} (.ref s.heap.objs.size) "set":=⟨_,fX _ I,I⟩;have aqI:=ua.init.lookup;have aqx:=ua.init.bind (.ref s.heap.objs.size);repeat(any_goals(first|assumption|wp_step))
   refine xA (codeAny_call_builtin (R:=DA (λr s2=>r=.none/\AY prog w ks s s2) E) ua.init.plain F.entry_set_init (check_set_init_1 ey (am3 d4 au aC av ak led))) λcS s2 gK=>?_;cases cS with
   |error e=>exact gK
   |ok f2=>
    cases f2 with
    |ret v=>
     obtain⟨rfl,hm⟩:=gK;repeat(any_goals(first|assumption|wp_step))
     exact h _ hm
    |_=>exact gK.elim
  |_=>exact aL.elim
end
section
variable{X:bN}
def uM(p:Addr)(n:Nat):dE:=.ext λh=>∃(P:b6)(w:bX)(S:Key->Bool),h.SetOf (eF P w) p S n
theorem RA(aF:X.calm=ah):iE X (.type "set") (λxs H Q=>∃(a:Addr)(ks:List Key),xs=[.ref a]/\aI X.K H a (ks.map cc)/\ks.length+1<4096/\∀p,H p=af->Q (.ref p) (upd H p (uM p (gj ks).length))):=by
 intro pins s σ H xs us Q ab r h;obtain⟨a,ks,rfl,ay,ak,q⟩:=h;obtain⟨u,rfl,bq⟩:=vals1 r;cases bq;obtain⟨its,di,pl,a9⟩:=ab.list ay;have hlen:=di.length;refine adn (ks:=ks) (ab.ok.hd aF) pl.isList (by rw[fO,<-hlen,aU]) (λi v bU=>?_) ak λs2⟨h',tk,e,d1,aH⟩=>?_
 ·have bU:its[i]? =U v:=by simpa using bU
  obtain⟨av,_⟩:=ej.mp bU;rw[aU]at hlen;have aH:ks[i]? =U (ks[i]'(aG)):=gB aG;obtain⟨iB,ag,ai⟩:=di.get (i:=i) (x:=cc (ks[i]'(aG))) (by rw[dI,aH];rfl);rw[bU]at ag;cases ag;exact⟨_,aH,rr (P:=X.prog) (w:=X.w) ai⟩
 ·subst e;have wm:∀b o,s.heap.get? b=U o->h'.get? b=U o:=λb o e=>aH b o (ef e) e;obtain⟨o,es,ep,t,aA,rest⟩:=id d1;refine⟨.ref s.heap.objs.size,_,ab.laid (o:=uM s.heap.objs.size (gj ks).length) wm (bR _) ⟨⟨_,_,_,d1⟩,⟨o,aA⟩,?_⟩,I,q _ (ab.bo.fresh (bR _))⟩;rintro ag ai ⟨P,w,S,x⟩ k;exact⟨P,w,S,SetOf.stays x k⟩
theorem Ry:iE X (.builtin "len") (λxs H Q=>∃(p:Addr)(n:Nat),xs=[.ref p]/\H p=U (uM p n)/\Q (.int (n:Nat)) H):=by intro pins s σ H xs us Q ab r h;obtain⟨p,n,rfl,aO,q⟩:=h;obtain⟨u,rfl,bq⟩:=vals1 r;cases bq;obtain⟨⟨P,w,S,o,es,ep,t,aA,hex,hd,_,_,ak,hf,aC⟩,_,_⟩:=ab.bo p _ aO;subst aC;refine call_len_set aA hex hd hf ?_ ⟨.int (es.size:Nat),H,ab.tok _,⟨_,I⟩,q⟩;unfold scanBound at ak;omega
end
section
variable{X:bN}{a b:Expr}{bt cT:TE}{c:Str}{k:Nat}{dK dc lu pos:Pos}
def jr(n:Nat):Str:=toString ((n:Nat):Int)
inductive asc(c:Str)(cT:TE)(σ:St)(Q:c9)(x:V)(H1:ax):Prop
 |mk (i:Nat) (h0:x=.int (i:Nat)) (ag:i<1000) (ai:cT σ H1 λy az=>∃j:Nat,y=.int (j:Nat)/\j<1000/\Q (.str (jr i++c++jr j)) az)
def anW(c:Str)(bt cT:TE):TE:=λσ H Q=>bt σ H λx H1=>asc c cT σ Q x H1
theorem FT{n:Nat}(h:n<1000):(jr n).length<=3:=by have key:(cf 1000).all (λn=>decide ((jr n).length<=3))=ah:=aD;exact aru (jA.mp key n (gC.mpr h))
theorem alw(aF:c.length<=1000)(ay:bC X a bt)(ak:bC X b cT):bC X (.JoinedStr [.FormattedValue a (-1) af dK,.Constant (.str c) k dc,.FormattedValue b (-1) af lu] pos) (anW c bt cT):=by
 intro pins s σ H Q ab h;have small:∀{n:Nat},n<1000->((n:Nat):Int).natAbs.log2<1920:=λ{n}aC=>by show n.log2<1920;have:n.log2<=n:=Nat.log2_le_self n;omega
 have D':100000<=sizeLine:=a5;refine JoinedStr_many (P2 (aaJ (b2 (ay pins s σ H _ ab h) λv s1⟨x,H1,a',bK,i,e,av,a7⟩=>?_)));subst e;obtain⟨t,rfl⟩:=bK;have b':=FT av;refine aaK (small av) ⟨?_,P2 ?_⟩
 ·rw[nQ];show 0+(jr i).length<=_;omega
 refine aaU ⟨?_,P2 (aaJ (b2 (ak pins _ σ H1 _ (a'.tok _) a7) λv s2⟨y,az,b7,cS,j,e,bw,bc⟩=>?_))⟩
 ·rw[nQ,nQ];show 0+(jr i).length+_<=_;omega
 subst e;obtain⟨k4,rfl⟩:=cS;have cB:=FT bw;have cZ:(Qh++jr i++c++jr j)=jr i++c++jr j:=bf.Bk (by simp[bf.ou];rfl);refine aaK (small bw) ⟨?_,joinParts_nil ⟨.str (jr i++c++jr j),az,b7.tok _,⟨_,by rw[<-cZ];rfl⟩,bc⟩ ?_⟩
 ·rw[nQ,nQ,nQ];show 0+(jr i).length+_+(jr j).length<=_;omega
 ·rw[nQ,nQ,nQ];show 0+(jr i).length+_+(jr j).length<=_;omega
end
end bL
namespace cG
open PySem PyProof.Rows
section
open PySem.SeqAt
open PySem.AutoSeq1 (wpAny_loadPart')
open PySem.MeetsSeq PySem.MeetsSeq2 PySem.MeetsSeq3
theorem LD{vs:List ar}{ns:List Int}(h:oA vs ns){i:Nat}(av:i<ns.length):∃t,vs[i]? =U (.int ns[i] t):=by have au:=h.length;have bU:vs[i]? =U (vs[i]'(aG)):=gB aG;obtain⟨t,e⟩:=IntsAre.int_at h i _ bU;refine⟨t,?_⟩;rw[bU,e];simp[av]
theorem ai1(l b:Addr)(its gw:Array ar)(n cB:Nat)(ns ea:List Int)(av:oA its.toList ns)(bw:oA gw.toList ea)(k:Nat):∀i:Nat,i<=ns.length->i<=ea.length->ns.length-i=k->HL (oB.«list.__eq__.loop» ⟨[.ref l,.ref b,oF i,oF 0],[]⟩) (λ_ R s=>s.heap.get? l=U {cls:=.type "list",data:=.seq its n}/\s.heap.get? b=U {cls:=.type "list",data:=.seq gw cB}/\R (.ok (.ret (.bool (lexLt (ns.drop i) (ea.drop i))))) s):=by
 have Hd:its.size=ns.length:=by rw[<-av.length];simp
 have kJ:gw.size=ea.length:=by rw[<-bw.length];simp
 have stop:∀i:Nat,(ns.length<=i\/ea.length<=i)->lexLt (ns.drop i) (ea.drop i)=decide (its.size<gw.size)\/(i<ns.length/\i<ea.length)\/ns.length<i\/ea.length<i:=λi aP=>by
  by_cases ag:ns.length<i\/ea.length<i
  ·exact .inr (.inr ag)
  ·refine .inl ?_;rw[Hd,kJ];by_cases ai:ns.length=i
   ·rw[Dc (by omega:ns.length<=i)];by_cases aN:ea.length=i
    ·rw[Dc (by omega:ea.length<=i),arp aG];rfl
    ·rw[kK (show i<ea.length by omega),arq aG];rfl
   ·have aN:ea.length=i:=by omega
    rw[Dc (by omega:ea.length<=i),kK (show i<ns.length by omega),arp aG];rfl
 have out:∀i:Nat,i<=ns.length->i<=ea.length->(ns.length<=i\/ea.length<=i)->HL (oB.«list.__eq__.loop» ⟨[.ref l,.ref b,oF i,oF 0],[]⟩) (λ_ R s=>s.heap.get? l=U {cls:=.type "list",data:=.seq its n}/\s.heap.get? b=U {cls:=.type "list",data:=.seq gw cB}/\R (.ok (.ret (.bool (lexLt (ns.drop i) (ea.drop i))))) s):=by
  intro i ag ai aP prog w A R s h;obtain⟨aO,g,d,tk,os⟩:=s;obtain⟨au,ak,h⟩:=h;have e:lexLt (ns.drop i) (ea.drop i)=decide (its.size<gw.size):=by
   rcases stop i aP with e|e|e|e
   ·exact e
   ·omega
   ·omega
   ·omega
  rw[e]at h;wp_walk using oG au,oG ak;by_cases q:ns.length<=i
  ·have zm:its[((i:Nat):Int).toNat]? =af:=by simp;omega
   rw[zm];wp_walk using oG au,oG ak;exact h
  ·have EY:gw[((i:Nat):Int).toNat]? =af:=by simp;omega
   rw[EY];obtain⟨t,J8⟩:=LD av (show i<ns.length by omega);have zm:its[((i:Nat):Int).toNat]? =U (.int ns[i] t):=by simpa using J8
   rw[zm];wp_walk using oG au,oG ak;exact h
 induction k with
 |zero=>exactλi ag ai aN=>out i ag ai (.inl aG)
 |succ k ih=>
  intro i ag ai aN;by_cases aP:ea.length<=i
  ·exact out i ag ai (.inr aP)
  intro prog w A R s h;obtain⟨aO,g,d,tk,os⟩:=s;obtain⟨au,ak,h⟩:=h;have eK:i<ns.length:=aG;have fi:i<ea.length:=aG;obtain⟨t,J8⟩:=LD av eK;obtain⟨u,v3⟩:=LD bw fi;have zm:its[((i:Nat):Int).toNat]? =U (.int ns[i] t):=by simpa using J8
  have EY:gw[((i:Nat):Int).toNat]? =U (.int ea[i] u):=by simpa using v3
  have aF:((i:Int)+1)=((i+1:Nat):Int):=by push_cast;rfl
  rw[kK eK,kK fi,VO]at h;wp_walk using oG au,oG ak;rw[zm,EY];obtain⟨e,he,UE⟩:=aep A.in1 ⟨aO,g,d,tk,os⟩ ns[i] t ea[i] u;refine bg (he prog w _ _ ?_);cases e with
  |true=>rw[art (UE.mp I)]at h;wp_walk;rw[aF];exact⟨pG plain_eq_loop _,codeAny_builtin entry_eq_loop (by rw[qL plain_eq_loop _];exact ih (i+1) aG aG aG prog w A R _ ⟨au,ak,h⟩)⟩
  |false=>rw[ars (λq=>aro (UE.mpr q) eM)]at h;have ahz:=amg A.in1 ⟨aO,g,d,tk,os⟩ ns[i] t ea[i] u prog w;wp_walk using oG au,oG ak;rw[zm,EY];wp_walk using ahz;exact h
theorem aiW(l b:Addr)(its gw:Array ar)(n cB:Nat)(ns ea:List Int)(av:oA its.toList ns)(bw:oA gw.toList ea):HL (oB.«list.__lt__» ⟨[.ref l,.ref b],[]⟩) (λ_ R s=>s.heap.get? l=U {cls:=.type "list",data:=.seq its n}/\s.heap.get? b=U {cls:=.type "list",data:=.seq gw cB}/\R (.ok (.ret (.bool (lexLt ns ea)))) s):=by intro prog w A R s h;obtain⟨aO,g,d,tk,os⟩:=s;obtain⟨au,ak,h⟩:=h;have ew:=AutoSeq1.sub_list_list;wp_walk using oG au,oG ak;exact⟨pG plain_eq_loop _,codeAny_builtin entry_eq_loop (by rw[qL plain_eq_loop _];exact ai1 l b its gw n cB ns ea av bw _ 0 (ec _) (ec _) I prog w A R _ ⟨au,ak,h⟩)⟩
end
theorem amh{prog:b6}{w:bX}{A:dQ}{E:ar->aT->Prop}{s:aT}{l b:Addr}{its gw:Array ar}{n cB:Nat}{ns ea:List Int}{Q:ar->aT->Prop}(au:s.heap.get? l=U {cls:=.type "list",data:=.seq its n})(ak:s.heap.get? b=U {cls:=.type "list",data:=.seq gw cB})(av:oA its.toList ns)(bw:oA gw.toList ea)(a4:A.units<cLine)(h:Q (.bool (lexLt ns ea)) s):bp (bO prog w) A (Qu .Lt (.ref l) (.ref b)) Q E s:=richCompare_meets_room (op:=.Lt) ⟨_,au,I⟩ ⟨_,ak,I⟩ PySem.F.slot_list_lt PySem.F.entry_list_lt (PySem.F.args_list_lt_2 _ _) (aiW l b its gw n cB ns ea av bw) ⟨au,ak,show nO (lexLt ns ea)≠Value.notImplemented/\Q (.bool (lexLt ns ea)) s from⟨(λx=>nomatch x),h⟩⟩ a4
end cG
namespace bL
open PySem PySem.Spec PyProof.Rows
structure ux(K:PySem.W.Frag)(f:Addr):Prop where
 gt:PySem.W.specialIn K (.ref f) "__get__"=U (U (.builtin "function.__get__"))
 tk:PySem.W.takesIn K (.ref f)=U aE
inductive ar4(C:Addr)(g:Addr)(m:Str)(Q:c9)(x:V)(H1:ax):Prop
 |mk (a aq bk) (h0:x=.ref a) (ag:H1 a=U (.ins C aq bk)) (ai:bk.lookup m=af) (aN:∀p,H1 p=af->Q (.ref p) (upd H1 p (.met g a)))
def Zk(K:PySem.W.Frag)(C g:Addr)(m:Str)(te:TE):TE:=λσ H Q=>te σ H λx H1=>ar4 C g m Q x H1
theorem alq{X:bN}{e:Expr}{m:Str}{pos:Pos}{te:TE}{C g:Addr}(he:bC X e te)(c:j_ X.K C)(k:hF X.K C m g)(b:ux X.K g)(aF:PySem.W.copiedNames.contains m=aE)(ak:oC e m X.env (c' e X.env)=c' e X.env):bC X (.Attribute e m pos) (Zk X.K C g m te):=by intro pins s σ H Q ab h;refine Rc ak (b2 (he pins s σ H _ ab h) λu s1⟨x,H1,a',bq,a,aq,bk,ex,kg,l,q⟩=>?_);subst ex;obtain rfl:u=eZ a:=bq;obtain⟨e5,O,r,_,_,_⟩:=Fl a'.bo kg;have aC:e5 m=af:=jO.none_of (by rw[<-l];exact r m);obtain⟨cO,J,au⟩:=O.look;refine PySem.W.get_bind a'.jW J (PySem.W.plainGet_of (c.get m)).1 (PySem.W.findObj_fn c.hd k.at_ b.gt b.tk aF (by rw[au,aC])) (PySem.W.plainGet_of (c.get m)).2 ?_;refine DB (PySem.W.fn_get (s:={s1 with toks:=s1.toks+1}) a'.jW (beq_iff_eq.mp k.fn) (PySem.W.handed_on I ?_));exact⟨.ref s1.heap.objs.size,_,a'.laid (o:=.met g a) (λb o e=>fG _ e) (bR _) (show _=_ from fX _ I),I,q _ (a'.bo.fresh (bR _))⟩
def pickK(c0:V->List Int):V->List V->V
 |b,[]=>b
 |b,x::r=>if cG.lexLt (c0 x) (c0 b)=ah then pickK c0 x r else pickK c0 b r
section
variable{X:bN}{k:Nat}{f:Addr}{fd:jd}{ps:List Str}{sp:cx}{pins:List (Addr×Obj)}{σ:St}{H:ax}{s:aT}{a q l It S:Addr}{E:ar->aT->Prop}
theorem aiC{Q:c9}{us:List ar}{vs:List V}(F:a0 X.prog X.w X.K X.ap X.base a8 k f fd ps sp)(aL:de (k+1) X.A)(ak:Binds X.K fd ps [])(ab:Inv X pins σ H s)(aK:H q=U (.met f a))(r:bT vs us)(h:sp (.ref a::vs) H Q AS):bp (bO X.prog X.w) X.A.in1 (call (.ref q) us) (hD X pins σ Q) E s:=by
 have aA:s.heap.get? q=U (PySem.W.methodObj (.ref f) (.ref a)):=ab.bo q _ aK;have cS:bT (V.ref a::vs) (eZ a::us):=.cons I r;have au:(eZ a::us).length=ps.length:=by rw[<-cS.length];exact F.len _ _ _ _ h
 have BD:=ak s (eZ a::us) ab.jW (by rw[iP];exact au);rw[iP]at BD;refine DB (PySem.W.method_call aA (xA (F.run X.A.in1 X.stack s H ⟨eZ a::us,[]⟩ (eZ a::us) (V.ref a::vs) Q AS aL.in1 ab.J'.in1 BD cS h) λr s' aK=>?_));cases r with
 |error e=>exact iD aK
 |ok lS=>
  cases lS with
  |ret u=>exact ab.after aK
  |next=>exact iD aK
  |brk=>exact iD aK
  |cont=>exact iD aK
theorem iS.re{b:Addr}{ae:ax}(h:iS X pins H b)(aC:ae b=af):iS X pins ae b:=⟨aC,h.2⟩
def DT(sp:cx)(a:Addr)(c0:V->List Int)(c8:ax)(xs:List V):Prop:=∀x∈xs,∀H,aw c8 H->sp [.ref a,x] H (λy az=>aw H az/\∃p,y=.ref p/\H p=af/\az p=U (.lst ((c0 x).map V.int))) AS
theorem Vl{ns:List Int}{us:List ar}(r:bT (ns.map V.int) us):oA us ns:=intsAre_of r
theorem Vz{x:V}{u:ar}{c0:V->List Int}{c8:ax}{xs:List V}{j:Nat}{Q:ar->aT->Prop}(F:a0 X.prog X.w X.K X.ap X.base a8 k f fd ps sp)(aL:de (k+1) X.A)(ak:Binds X.K fd ps [])(aH:DT sp a c0 c8 xs)(ab:Inv X pins σ H s)(aP:aw c8 H)(aK:H q=U (.met f a))(m8:iS X pins H It)(hit:s.heap.IsListIter It l j)(ao:x∈xs)(bq:RelV x u)(h:∀p az s2,Inv X pins σ az s2->aw H az->H p=af->az p=U (.lst ((c0 x).map V.int))->iS X pins az It->s2.heap.IsListIter It l j->Q (.ref p) s2):bp (bO X.prog X.w) X.A.in1 (call (.ref q) [u]) Q E s:=by obtain⟨wU,zp,aF,hd⟩:=id hit;have hU:=ab.pinned (fp:=[It]) (λb ak=>by rw[gp.mp ak];exact m8) (λb ak=>by rw[gp.mp ak];exact⟨wU,zp,λv z=>by rw[hd]at z;cases z⟩);refine lF (aiC (us:=[u]) (vs:=[x]) F aL ak hU aK (.cons bq .nil) (aH x ao H aP)) (λv s2 bU=>?_) λ_ _ z=>z;obtain⟨y,az,b7,bP,eh,p,rfl,aC,aO⟩:=bU;cases bP;have pin:=b7.pin (It,wU) (pB _ (pB _ (FF bl zp)));exact h p az s2 b7.C2 eh aC aO (m8.re pin.2.1) ⟨wU,pin.1,aF,hd⟩
theorem ajg{c0:V->List Int}{c8:ax}{xs:List V}{R:xy->aT->Prop}{res:V}(F:a0 X.prog X.w X.K X.ap X.base a8 k f fd ps sp)(aL:de (k+1) X.A)(ak:Binds X.K fd ps [])(aF:X.calm=ah)(aH:DT sp a c0 c8 xs)(gv:c8 l=U (.lst xs))(iL:c8 q=U (.met f a))(Ur:c8 S=af)(sN:S≠It)(dN:∀v ae s',Inv X pins σ ae s'->RelV res v->aw c8 ae->R (.ok (.ret v)) s')(m:Nat):∀(j:Nat)(b:V)(p:Addr)(H:ax)(s:aT),xs.length-j=m->j<=xs.length->Inv X pins σ H s->aw c8 H->iS X pins H It->s.heap.IsListIter It l j->H S=U (.lst [b,.ref p])->H p=U (.lst ((c0 b).map V.int))->pickK c0 b (xs.drop j)=res->oD (bO X.prog X.w) X.A (.builtin "min.loop" ⟨[.ref It,.ref q,.ref S],[]⟩) R s:=by
 have zo:(toString "min"++toString ".loop":String)="min.loop":=a5;induction m with
 |zero=>
  intro j b p H s hm bw ab aP m8 hit d1 aO mA;obtain rfl:j=xs.length:=aG;rw[xq]at mA;have mA:b=res:=mA;subst mA;obtain⟨Z2,its,n,lA,wD,kh⟩:=ab.lm (aP _ _ gv);obtain⟨ao5,aio,jq,M',aiL,y1⟩:=ab.lm d1;obtain⟨iA,iB,rfl,Gl,zV⟩:=M'.two;have BM:l≠It:=bj (aP _ _ gv) m8.1;have W:=Av (prog:=X.prog) (w:=X.w) (A:=X.A.in1) (by simpa using ab.ok.hd aF) It l BM its.toArray;refine codeAny_builtin PySem.F.entry_min_loop ?_;rw[qL PySem.F.plain_min_loop _];refine bg (m:=Qv (.ref S)) (AF y1 I ?_);show bp _ X.A.in1 (tryCatch (j9 (.ref It)) _>>=_) _ _ _;refine bg (xH (W.done _ _ _ ⟨by rw[fO,<-wD];exact hit,PySem.IsL.isList kh⟩ λh' pq p_=>?_));have a':Inv X pins σ H {s with heap:=h',toks:=pq}:=ab.G6 (ch:=[It]) p_ λb ak=>by rw[gp.mp ak];exact m8
  have Sa:=p_ S _ (by simpa using sN) y1;show bp _ X.A.in1 (updateSeq S (λ_=>#[])>>=_) _ _ _;refine bg ?_;refine QF Sa I (bg (DE (cD ?_)));exact dN iA _ _ (a'.wF (t':=pq) (its':=[]) d1 Sa I .nil (ec _)) Gl (aP.put Ur)
 |succ m ih=>
  intro j b p H s hm bw ab aP m8 hit d1 aO mA;obtain⟨Z2,its,n,lA,wD,kh⟩:=ab.lm (aP _ _ gv);obtain⟨ao5,aio,jq,M',aiL,y1⟩:=ab.lm d1;obtain⟨iA,iB,rfl,Gl,zV⟩:=M'.two;obtain rfl:iB=.ref p:=zV;have BM:l≠It:=bj (aP _ _ gv) m8.1;have W:=Av (prog:=X.prog) (w:=X.w) (A:=X.A.in1) (by simpa using ab.ok.hd aF) It l BM its.toArray;refine codeAny_builtin PySem.F.entry_min_loop ?_;rw[qL PySem.F.plain_min_loop _];refine bg (m:=Qv (.ref S)) (AF y1 I ?_);show bp _ X.A.in1 (tryCatch (j9 (.ref It)) _>>=_) _ _ _;refine bg (xH (W.item j _ _ _ (by rw[fO];omega) ⟨hit,PySem.IsL.isList kh⟩ λv h' pq cX BY p_=>?_));have UI:xs[j]? =U (xs[j]'(aG)):=gB aG;obtain⟨v2,B2,bq⟩:=lA.get UI;have bU:its[j]? =U v:=by simpa using cX
  rw[bU]at B2;cases B2;rw[kK (show j<xs.length by omega)]at mA;generalize xs[j]'(aG)=x at*;have a':Inv X pins σ H {s with heap:=h',toks:=pq}:=ab.G6 (ch:=[It]) p_ λb ak=>by rw[gp.mp ak];exact m8
  show bp _ X.A.in1 (tryCatch (oE [v] (call (.ref q) [v])) _>>=_) _ _ _;refine bg (xH (lE (Vz F aL ak aH a' aP (aP _ _ iL) m8 BY.1 (eN UI) bq λdc az s2 b7 eh s6 fb y7 UG=>?_)));obtain⟨Hd,ci,b',bK,eK,aS⟩:=b7.lm fb;obtain⟨arl,aqT,en,hv,Me,b0⟩:=b7.lm (eh _ _ aO);have Bz:=eh _ _ d1;obtain⟨ao2,ah3,wJ,w3,Fw,eW⟩:=b7.lm Bz;show bp _ X.A.in1 (tryCatch (oE [v,.ref dc] (Qu .Lt (.ref dc) (.ref p)>>=_)) _>>=_) _ _ _;refine bg (xH (lE (bg (cG.amh aS b0 (Vl (by simpa using bK)) (Vl (by simpa using hv)) aL.in1.aoy ?_))));refine bg (lE (oH ?_));refine bg (DE (cD ?_));have mA:(if cG.lexLt (c0 x) (c0 b)=ah then pickK c0 x (xs.drop (j+1))else pickK c0 b (xs.drop (j+1)))=res:=mA;cases sR:cG.lexLt (c0 x) (c0 b)with
  |true=>
   rw[sR,art I]at mA;simp only[if_true];refine bg ?_;refine QF eW I (bg (DE ?_));rw[zo];have Ll:dc≠S:=bQ (bj d1 s6);refine cD ⟨pG PySem.F.plain_min_loop _,ih (j+1) x dc _ _ aG aG (b7.wF (t':=s2.toks) (its':=[v,.ref dc]) Bz eW I (.cons bq (.cons (show RelV (.ref dc) _ from I) .nil)) iC) ((aP.trans eh).put Ur) (y7.re ?_) ?_ aW ?_ mA⟩
   ·rw[aY (bQ sN)];exact y7.1
   ·obtain⟨wU,zp,ao⟩:=UG;exact⟨wU,(Qa _ _ sN).trans zp,ao⟩
   ·rw[aY Ll];exact fb
  |false=>rw[sR,ars eM]at mA;simp only[xp,if_false];refine bg (DE ?_);rw[zo];exact cD ⟨pG PySem.F.plain_min_loop _,ih (j+1) b p _ _ aG aG b7 (aP.trans eh) y7 UG Bz (eh _ _ aO) mA⟩
theorem adk{c0:V->List Int}{x0:V}{rest:List V}{Q:ar->aT->Prop}(F:a0 X.prog X.w X.K X.ap X.base a8 k f fd ps sp)(aL:de (k+1) X.A)(ak:Binds X.K fd ps [])(aF:X.calm=ah)(ab:Inv X pins σ H s)(au:H l=U (.lst (x0::rest)))(aK:H q=U (.met f a))(aH:DT sp a c0 H (x0::rest))(h:∀v ae s',Inv X pins σ ae s'->RelV (pickK c0 x0 rest) v->aw H ae->Q v s'):bp (bO X.prog X.w) X.A (call (.builtin "min") [.ref l] [(dY "key",.ref q)]) Q E s:=by
 have zo:(toString "min"++toString ".loop":String)="min.loop":=a5;obtain⟨Z2,its,n,lA,wD,kh⟩:=ab.lm au;have d4:X.A.in1.handled=af:=by simpa using ab.ok.hd aF
 refine kmk_tree PySem.F.kind_min PySem.F.plain_min PySem.F.entry_min (kmk_min_key _ _) ?_;refine bg (m:=apy "min" ["key","default"] 0 ⟨[],[(dY "key",.ref q)]⟩) (wpAny_of_eq (show _=pure [U (.ref q),af]from I) ?_);refine bg (cD (bg (H4 (PySem.IsL.isList kh) (bg (wpAny_newList ?_ (ec _))))));rw[zo];have R':(s.heap.push ({cls:=.type "list_iterator",data:=.fields #[.ref l,.int 0 0]}:Obj)).get? s.heap.objs.size=U ({cls:=.type "list_iterator",data:=.fields #[.ref l,.int 0 0]}:Obj):=fX _ I;generalize agJ:({cls:=.type "list_iterator",data:=.fields #[.ref l,.int 0 0]}:Obj)=og at R'⊢;have a':Inv X pins σ H {s with heap:=s.heap.push og}:=ab.kept (t':=s.toks) λb o e=>fG _ e;have m8:iS X pins H s.heap.objs.size:=ab.v9 (bR _) (ab.bo.fresh (bR _));generalize afP:s.heap.objs.size=It at*;have jq:H (s.heap.push og).objs.size=af:=a'.bo.fresh (bR _);have sN:(s.heap.push og).objs.size≠It:=by rw[k8,afP];omega
 have b7:Inv X pins σ (upd H (s.heap.push og).objs.size (.lst [])) {s with heap:=(s.heap.push og).push {cls:=.type "list",data:=.seq #[]}}:=a'.VT (t':=s.toks) (its:=[]) .nil (ec _);have aed:((s.heap.push og).push {cls:=.type "list",data:=.seq #[]}).get? It=U og:=fG _ R';have y1:((s.heap.push og).push {cls:=.type "list",data:=.seq #[]}).get? (s.heap.push og).objs.size=U {cls:=.type "list",data:=.seq #[]}:=fX _ I;have aem:((s.heap.push og).push {cls:=.type "list",data:=.seq #[]}).get? l=U {cls:=.type "list",data:=.seq its.toArray n}:=fG _ (fG _ kh);generalize(s.heap.push og).objs.size=S at*;generalize(s.heap.push og).push {cls:=.type "list",data:=.seq #[]}=ai at*;have aP:aw H (upd H S (.lst [])):=aw.new jq;have y7:iS X pins (upd H S (.lst [])) It:=m8.re (by rw[aY (bQ sN)];exact m8.1);have BM:l≠It:=bj au m8.1;have W:=Av (prog:=X.prog) (w:=X.w) (A:=X.A.in1) d4 It l BM its.toArray;refine cD ⟨pG PySem.F.plain_min_loop _,codeAny_builtin PySem.F.entry_min_loop ?_⟩;rw[qL PySem.F.plain_min_loop _];refine bg (m:=Qv (.ref S)) (AF y1 I ?_);show bp _ X.A.in1 (tryCatch (j9 (.ref It)) _>>=_) _ _ _;rw[cW]at wD;subst agJ;refine bg (xH (W.item 0 _ _ _ (by rw[fO];omega) ⟨⟨_,aed,I,I⟩,PySem.IsL.isList aem⟩ λv h' pq cX BY p_=>?_));obtain⟨v2,B2,bq⟩:=lA.get (i:=0) (x:=x0) I;have bU:its[0]? =U v:=by simpa using cX
 rw[bU]at B2;cases B2;have eP:Inv X pins σ (upd H S (.lst [])) {s with heap:=h',toks:=pq}:=Inv.G6 (s:={s with heap:=ai}) (ch:=[It]) b7 p_ λb ak=>by rw[gp.mp ak];exact y7
 show bp _ X.A.in1 (tryCatch (oE [v] (call (.ref q) [v])) _>>=_) _ _ _;refine bg (xH (lE (Vz F aL ak aH eP aP (aP _ _ aK) y7 BY.1 (eB _) bq λdc az s2 jL eh s6 fb TM agK=>?_)));have EM:=eh _ _ (aW (H:=H) (a:=S) (o:=.lst []));obtain⟨ao2,ah3,wJ,w3,Fw,eW⟩:=jL.lm EM;refine bg ?_;refine QF eW I ?_;have Ll:dc≠S:=bQ (bj (aW (H:=H) (a:=S) (o:=.lst [])) s6)
 ·refine cD ⟨pG PySem.F.plain_min_loop _,?_⟩;rw[zo];refine ajg (res:=pickK c0 x0 rest) F aL ak aF aH au aK jq sN ?_ rest.length 1 x0 dc _ _ bl bl (jL.wF (t':=s2.toks) (its':=[v,.ref dc]) EM eW I (.cons bq (.cons (show RelV (.ref dc) _ from I) .nil)) iC) ((aP.trans eh).put jq) (TM.re ?_) ?_ aW ?_ I
  ·exactλv ae s' i r qt=>h v ae s' i r qt
  ·rw[aY (bQ sN)];exact TM.1
  ·obtain⟨wU,zp,ao⟩:=agK;exact⟨wU,(Qa _ _ sN).trans zp,ao⟩
  ·rw[aY Ll];exact fb
inductive asj(g:Addr)(sp:cx)(Q:c9)(vs:List V)(z:V)(aZ:ax):Prop
 |mk (l q a:Addr) (x0:V) (rest:List V) (c0:V->List Int) (h0:vs=[.ref l]) (ag:z=.ref q) (ai:aZ l=U (.lst (x0::rest))) (aN:aZ q=U (.met g a)) (bD:DT sp a c0 aZ (x0::rest)) (cw:∀bz,aw aZ bz->Q (pickK c0 x0 rest) bz)
def an4(g:Addr)(sp:cx)(bt:hp)(cT:TE):TE:=λσ H Q=>bt σ H λvs H1=>cT σ H1 λz aZ=>asj g sp Q vs z aZ
theorem alA{e o:Expr}{m:Str}{p pos apos VC:Pos}{bt:hp}{to:TE}{C g:Addr}(ay:lc X [e] bt)(aA:bC X o to)(G:a0 X.prog X.w X.K X.ap X.base a8 k g fd ps sp)(aL:de (k+1) X.A)(ak:Binds X.K fd ps [])(aF:X.calm=ah)(c:j_ X.K C)(hm:hF X.K C m g)(b:ux X.K g)(o3:PySem.W.copiedNames.contains m=aE)(af6:oC o m X.env (c' o X.env)=c' o X.env)(bM:lI X "min")(BN:X.ap "min"=af)(bU:jD "min"=U (.builtin "min"))(aP:eO [e] X.env=[(aE,c' e X.env)]:=by rfl):bC X (.Call (.Name "min" p) [e] [⟨U "key",.Attribute o m apos,VC⟩] pos) (an4 g sp bt (Zk X.K C g m to)):=by
 intro pins s σ H Q ab h;refine wpAny_Call_Name_kw (ti ab bM BN bU ?_);have cZ:jC pos (eO [e] X.env)=(aE,c' e X.env)::jC pos (eO [] X.env):=by rw[aP];rfl
 refine callWith_kw ?_ cZ (by rw[cZ];rfl) I I;refine b2 (ay pos pins s σ H _ ab h) λus s1⟨vs,H1,a',bK,a7⟩=>?_;refine kws_cons (b2 ((alq aA c hm b o3 af6:bC X (.Attribute o m apos) _) pins s1 σ H1 _ a' a7) λkv s2⟨z,aZ,eP,w8,l,q,a,x0,rest,c0,ex,Sn,au,aK,aH,hI⟩=>kws_nil ?_);subst Sn;subst ex;obtain⟨u,rfl,gz⟩:=vals1 bK;cases w8;cases gz;exact adk G aL ak aF eP au aK aH λv ae s' i r qt=>⟨_,ae,i,r,hI ae qt⟩
end
abbrev x3(h:Heap)(z T:Addr)(b:Bool)(TI fR:Addr):Prop:=h.get? z=U {cls:=.type "zip",dict:=af,data:=.fields #[oF T,.bool b,.bool aE,.ref TI,.ref fR],slots:=#[]}
section
variable{prog:b6}{w:bX}{A:dQ}{E:ar->aT->Prop}{s:aT}{z T TI fR ci cU eK fi:Addr}{b:Bool}{co fD:Nat}{xs ys:Array ar}
theorem Z1{qo:Obj}{Q:Bool->aT->Prop}(a9:x3 s.heap z T b TI fR)(ey:s.heap.get? T=U qo)(h:∀h',x3 h' z T ah TI fR->xw z s.heap h'->Q aE {s with heap:=h'}):bp (bO prog w) A (HG (.ref z)) Q E s:=by
 unfold HG;refine bg (AE a9 I (x:=oF T) I ?_);show bp _ _ (loadIfAlive ((T:Int).toNat)>>=_) _ _ _;rw[Hk];refine bg (PySem.W.kdx_alive ey ?_);simp only[Option.isNone_some,xp,if_false];refine bg (AE a9 I (x:=.bool b) I ?_);cases b with
 |true=>rw[ars (show¬((nO ah !=nO ah)=ah)from eM)];exact cD (h _ a9 (apJ _ _))
 |false=>rw[art (show(nO aE !=nO ah)=ah from I)];exact bg (wpAny_setField_rec a9 bl λaN agt E_=>cD (h aN agt E_))
theorem ao9{qo:Obj}{x y:ar}{Q:Option ar->aT->Prop}(a9:x3 s.heap z T b TI fR)(ey:s.heap.get? T=U qo)(gJ:nN s.heap TI (.ref ci) (.ref cU))(b':TI≠z)(cB:ci≠z)(en:cU≠z)(wJ:ci≠cU)(l5:eK≠z)(nz:fi≠z)(lp:fi≠ci)(zD:TI≠ci)(tn:TI≠cU)(ag:s.heap.IsListIter ci eK co)(ai:s.heap.IsListIter cU fi fD)(ft:s.heap.IsList eK xs)(i0:s.heap.IsList fi ys)(ao:xs[co]? =U x)(a_:ys[fD]? =U y)(hI:∀h',x3 h' z T ah TI fR->h'.IsListIter ci eK (co+1)->h'.IsListIter cU fi (fD+1)->nN h' s.heap.objs.size x y->h'.objs.size=s.heap.objs.size+1->(∀c o,c≠z->c≠ci->c≠cU->s.heap.get? c=U o->h'.get? c=U o)->Q (U (.ref s.heap.objs.size)) {s with heap:=h'}):bp (bO prog w) A (j9 (.ref z)) Q E s:=by
 have rf:s.TypeIs (.ref z) "zip":=⟨_,a9,I⟩;unfold j9;refine bg (HZ (DC (name:=dY "__next__") rf PySem.F.slot_zip_next (xF PySem.F.slot_zip_next rf PySem.F.entry_zip_next ?_ (PySem.F.args_zip_next_1 _))));refine bg (m:=HQ (.ref z) 2) (AE a9 I (x:=.bool aE) I ?_);refine bg (m:=HQ (.ref z) 3) (AE a9 I (x:=.ref TI) I ?_);refine bg (AF gJ I ?_);refine bg (m:=HG (.ref z)) (Z1 a9 ey λaN zr s3=>?_);simp only[xp,if_false];rw[<-Z4];simp only[Hp,De];refine bg (bg (bg (lE ?_)));show bp _ _ (P7 (.ref ci)>>=_) _ _ _;refine bg (abP (ag.extBut s3.extBut cB) (ft.extBut s3.extBut l5) ao λbD afF s4=>cD (cD ?_));refine bg (bg (lE ?_));show bp _ _ (P7 (.ref cU)>>=_) _ _ _;refine bg (abP ((ai.extBut s3.extBut en).extBut s4.extBut (bQ wJ)) ((i0.extBut s3.extBut nz).extBut s4.extBut lp) a_ λcw afG s5=>cD (cD (cD ?_)));refine bg (wpAny_newTuple (cD ⟨_,I,cD ?_⟩) (show 2<=sizeLine by decide));have hsz:cw.objs.size=s.heap.objs.size:=by rw[s5.1,s4.1,s3.1]
 show Q (U (.ref cw.objs.size)) _;rw[hsz];have up:∀c o,cw.get? c=U o->(cw.push {cls:=.type "tuple",data:=.seq #[x,y]}).get? c=U o:=λc o e=>fG _ e;refine hI _ (up _ _ (s5.extBut _ _ (bQ en) (s4.extBut _ _ (bQ cB) zr))) ((afF.extBut s5.extBut wJ).at λo e=>up _ o e) (afG.at λo e=>up _ o e) ?_ ?_ λc o cq cF eV e=>up _ _ (s5.extBut _ _ eV (s4.extBut _ _ cF (s3.extBut _ _ cq e)))
 ·rw[<-hsz];exact fX _ I
 ·show(cw.push {cls:=.type "tuple",data:=.seq #[x,y]}).objs.size=_;rw[k8,hsz]
theorem ao6{qo:Obj}{Q:Option ar->aT->Prop}(d4:A.handled=af)(a9:x3 s.heap z T b TI fR)(ey:s.heap.get? T=U qo)(gJ:nN s.heap TI (.ref ci) (.ref cU))(cB:ci≠z)(l5:eK≠z)(ag:s.heap.IsListIter ci eK co)(ft:s.heap.IsList eK xs)(ao:xs[co]? =af)(hI:∀h',(∀c o,c≠z->c≠ci->s.heap.get? c=U o->h'.get? c=U o)->Q af {s with heap:=h'}):bp (bO prog w) A (j9 (.ref z)) Q E s:=by have rf:s.TypeIs (.ref z) "zip":=⟨_,a9,I⟩;unfold j9;refine bg (HZ (DC (name:=dY "__next__") rf PySem.F.slot_zip_next (xF PySem.F.slot_zip_next rf PySem.F.entry_zip_next ?_ (PySem.F.args_zip_next_1 _))));refine bg (m:=HQ (.ref z) 2) (AE a9 I (x:=.bool aE) I ?_);refine bg (m:=HQ (.ref z) 3) (AE a9 I (x:=.ref TI) I ?_);refine bg (AF gJ I ?_);refine bg (m:=HG (.ref z)) (Z1 a9 ey λaN zr s3=>?_);simp only[xp,if_false];rw[<-Z4];simp only[Hp,De];refine bg (bg (bg (lE ?_)));show bp _ _ (P7 (.ref ci)>>=_) _ _ _;refine bg (wpAny_nextOf_list_end (by simpa using d4) (ag.extBut s3.extBut cB) (ft.extBut s3.extBut l5) ao λbD e s4⟨akl,ahd,KZ⟩=>?_);refine bg (abK (T:="StopIteration") (b:=true) ⟨akl,ahd,KZ⟩ abz ?_);exact cD (hI _ λc o cq cF e=>s4 _ _ cF (s3.extBut _ _ cq e))
theorem apa:HY (.type "zip") "keys"=pure af:=abo (by first|decide+kernel|rfl)
theorem ao7:HY (.type "zip") "__getattr__"=pure af:=abo (by first|decide+kernel|rfl)
theorem ao8:entryFor table "zip.__getattribute__"=U oB.«object.__getattribute__»:=entryFor_alias (id':="object.__getattribute__") (by kernel_rfl) aD aD (by kernel_rfl)
theorem ajd(a:Addr)(vs:Array ar)(u:Tok):HL (oB.«object.__getattribute__» ⟨[.ref a,.str "keys" u],[]⟩) (λA R s=>s.heap.get? a=U {cls:=.type "zip",dict:=af,data:=.fields vs,slots:=#[]}/\raisesAttr (.ref a) "keys" A R s):=Meets.of_wp λprog w A R s aP=>by
 obtain⟨aO,g,d,tk,os⟩:=s;obtain⟨ao,aP⟩:=aP;have rf:(⟨aO,g,d,tk,os⟩:aT).TypeIs (.ref a) "zip":=⟨_,ao,I⟩;have aqL:=apa;have zo:(["__module__","__name__","__qualname__","__doc__","__annotations__"]:List Str).contains "keys"=aE:=aD;unfold oB.«object.__getattribute__»;repeat(any_goals(first|assumption|wp_step))
 trace_state;exact wpAny_raiseAttrError aP.1 aP.2 (attrMsg_fits aD (by first|size_fits|decide+kernel))
theorem aji{a:Addr}{vs:Array ar}{Q:Option ar->aT->Prop}(ao:s.heap.get? a=U {cls:=.type "zip",dict:=af,data:=.fields vs,slots:=#[]})(iK:A.handled=af)(h:∀h' tk,(∀b ob,s.heap.get? b=U ob->h'.get? b=U ob)->Q af {s with heap:=h',toks:=tk}):bp (bO prog w) A (getAttr? (.ref a) "keys") Q E s:=by
 obtain⟨aO,g,d,tk,os⟩:=s;have rf:∀pq,(⟨aO,g,d,pq,os⟩:aT).TypeIs (.ref a) "zip":=λ_=>⟨_,ao,I⟩;have f1:=sub_AttributeError;have ew:=PySem.F.slot_zip_getattribute.lookup;have f4:=PySem.F.slot_zip_getattribute.bind (.ref a);have gu:=ao7;unfold getAttr? getAttrBy? getAttrBy;repeat(any_goals(first|assumption|exact rf _|((with_reducible show bp _ _ (call (Value.builtin "zip.__getattribute__") _ _) _ _ _);refine uh PySem.F.slot_zip_getattribute (rf _) ao8 (PySem.F.args_zip_getattribute_2 _ _) (ajd a vs _) ⟨ao,iK,λh' pq e Lw=>?_⟩)|wp_step))
 obtain⟨t',hR,he⟩:=Lw.there;show bp _ _ (abw _ _ _ _ _ _ _) _ _ _;unfold abw;repeat(any_goals(first|assumption|wp_step))
 all_goals first|exact h _ _ Lw.keeps|(dsimp only;repeat(any_goals(first|assumption|exact h _ _ Lw.keeps|wp_step)))
end
structure I_(S z TI ci cU eK fi:Addr):Prop where
 b':TI≠z
 cB:ci≠z
 en:cU≠z
 wJ:ci≠cU
 l5:eK≠z
 nz:fi≠z
 lp:fi≠ci
 zD:TI≠ci
 tn:TI≠cU
 gx:eK≠ci
 ku:eK≠cU
 mH:fi≠cU
 ma:S≠z
 s1:S≠ci
 s2:S≠cU
 X0:S≠TI
 X':S≠eK
 Ya:S≠fi
section
variable{prog:b6}{w:bX}{A:dQ}{E:ar->aT->Prop}{S z TI fR ci cU eK fi:Addr}{xs ys:Array ar}{res:ar}{R:xy->aT->Prop}
theorem R4{Q:Unit->aT->Prop}{s:aT}{P:Addr}{u v:ar}{k:Key}{acc:List (Key×ar)}{A:dQ}{E:ar->aT->Prop}{ix:Int}(cX:nN s.heap P u v)(aH:kq k u=ah)(hm:s.heap.DictOf (eF prog w) S acc)(a9:acc.length+1<=sizeLine)(h:∀ai,ai.DictOf (eF prog w) S (AC acc k v)->xw S s.heap ai->Q () {s with heap:=ai,toks:=s.toks+1}):bp (bO prog w) A (do
 let pair<-(aaO (.ref P)).tryCatch λe=>do
  if !(<-isInstance e (.type "TypeError"))then throw e
  rule "dict.update.element-no-sequence"
  raiseError "TypeError" s!"cannot convert dictionary update sequence element #{ix} to a sequence"
 match pair with
 |[k,v]=>oE [k,v] (dictSet S k v)
 |l=>
  rule "dict.update.element-length"
  raiseError "ValueError" s!"dictionary update sequence element #{ix} has length {l.length}; 2 is required") Q E s:=by
 refine bg (xH ?_)
 unfold aaO
 refine bg (wpAny_typeOf (T:="tuple") ⟨_,cX,I⟩ ?_)
 rw[art (by first|decide|rfl|simp)]
 refine bg (AF cX I (cD ?_))
 show bp _ _ (oE [u,v] (dictSet S u v)) _ _ _
 exact lE (wpAny_dictSet_pairs (knd:=eF prog w) (k:=k) aH hm (λai Lg o7=>h ai Lg o7) aG)
theorem R3(D:I_ S z TI ci cU eK fi)(d4:A.handled=af){T:Addr}(Zq:T≠S)(ZI:T≠z)(t1:T≠ci)(k4:T≠cU):∀(rest:List (Key×ar))(i:Nat)(acc:List (Key×ar))(ix:Int)(t:Tok)(b:Bool)(s:aT),xs.size=i+rest.length->acc.length+rest.length<=sizeLine->(∀(j:Nat)(q:Key×ar),rest[j]? =U q->∃u,xs[i+j]? =U u/\ys[i+j]? =U q.2/\kq q.1 u=ah)->x3 s.heap z T b TI fR->(∃qo,s.heap.get? T=U qo)->nN s.heap TI (.ref ci) (.ref cU)->s.heap.IsListIter ci eK i->s.heap.IsListIter cU fi i->s.heap.IsList eK xs->s.heap.IsList fi ys->s.heap.DictOf (eF prog w) S acc->(∀h' tk,h'.DictOf (eF prog w) S (Dz acc rest)->(∀c o,c≠S->c≠z->c≠ci->c≠cU->s.heap.get? c=U o->h'.get? c=U o)->R (.ok (.ret res)) {s with heap:=h',toks:=tk})->oD (bO prog w) A (.builtin "dict.update.loop" ⟨[.ref S,.ref z,.int ix t,res],[]⟩) R s
 |[],i,acc,ix,t,b,s,hsz,sY,aK,a9,⟨qo,ey⟩,gJ,ag,ai,ft,i0,hm,dN=>by refine codeAny_builtin Px ?_;rw[qL xg _];show bp _ A.in1 (j9 (.ref z)>>=_) _ _ s;refine bg (ao6 (by simpa using d4) a9 ey gJ D.cB D.l5 ag ft (by simp at hsz;simp;omega) λh' k=>?_);show bp _ A.in1 (aaN S []>>=_) _ _ _;refine bg (cD (cD ?_));exact dN h' s.toks (hm.at λo e=>k S o D.ma D.s1 e) λc o dz cq cF eV e=>k c o cq cF e
 |q::rest,i,acc,ix,t,b,s,hsz,sY,aK,a9,⟨qo,ey⟩,gJ,ag,ai,ft,i0,hm,dN=>by
  obtain⟨u,a4,bU,aH⟩:=aK 0 q I;rw[cW]at hsz sY;refine codeAny_builtin Px ?_;rw[qL xg _];show bp _ A.in1 (j9 (.ref z)>>=_) _ _ s;refine bg (ao9 a9 ey gJ D.b' D.cB D.en D.wJ D.l5 D.nz D.lp D.zD D.tn ag ai ft i0 (by simpa using a4) (by simpa using bU) λaN zr KE KG cX ahJ k=>?_);show bp _ A.in1 (oE [eZ s.heap.objs.size] _>>=_) _ _ _;have Lh:aN.DictOf (eF prog w) S acc:=hm.at λo e=>k S o D.ma D.s1 D.s2 e;have La:aN.IsList eK xs:=ft.at λo e=>k eK o D.l5 D.gx D.ku e;have Lb:aN.IsList fi ys:=i0.at λo e=>k fi o D.nz D.lp D.mH e;have KJ:nN aN TI (.ref ci) (.ref cU):=k TI _ D.b' D.zD D.tn gJ;refine bg (lE (R4 (s:={s with heap:=aN}) cX aH Lh aG λbD Li s4=>?_));refine cD ⟨pG xg _,R3 D d4 Zq ZI t1 k4 rest (i+1) (AC acc q.1 q.2) (ix+1) 0 ah _ aG ?_ (λj gM e=>?_) (s4.extBut _ _ (bQ D.ma) zr) ⟨qo,s4.extBut _ _ Zq (k T _ ZI t1 k4 ey)⟩ (s4.extBut _ _ (bQ D.X0) KJ) (KE.at λo e=>s4.extBut _ o (bQ D.s1) e) (KG.at λo e=>s4.extBut _ o (bQ D.s2) e) (La.at λo e=>s4.extBut _ o (bQ D.X') e) (Lb.at λo e=>s4.extBut _ o (bQ D.Ya) e) Li λh' tk kW hk=>?_⟩
  ·have:=abG acc q.1 q.2;omega
  ·obtain⟨hR,aS,aQ,b0⟩:=aK (j+1) gM (by simpa using e);exact⟨hR,by rw[show i+1+j=i+(j+1)by omega];exact aS,by rw[show i+1+j=i+(j+1)by omega];exact aQ,b0⟩
  ·exact dN h' tk kW λc o dz cq cF eV e=>hk c o dz cq cF eV (s4.extBut _ _ dz (k c o cq cF eV e))
theorem ad2(D:I_ S z TI ci cU eK fi)(Z:Qk z TI fR ci cU eK fi)(XZ:S≠fR)(d4:A.handled=af){a b:ar}{s:aT}{prs:List (Key×ar)}(hsz:xs.size=prs.length)(sY:prs.length<=sizeLine)(aK:∀(j:Nat)(q:Key×ar),prs[j]? =U q->∃u,xs[j]? =U u/\ys[j]? =U q.2/\kq q.1 u=ah)(a9:IsZip s.heap z TI fR .none)(gJ:nN s.heap TI (.ref ci) (.ref cU))(jU:nN s.heap fR a b)(ag:s.heap.IsListIter ci eK 0)(ai:s.heap.IsListIter cU fi 0)(ft:s.heap.IsList eK xs)(i0:s.heap.IsList fi ys)(hm:s.heap.DictOf (eF prog w) S [])(dN:∀h' tk,h'.DictOf (eF prog w) S (Dz [] prs)->(∀c o,c≠S->c≠z->c≠fR->c≠ci->c≠cU->s.heap.get? c=U o->h'.get? c=U o)->R (.ok (.ret res)) {s with heap:=h',toks:=tk})(ix:Int)(t:Tok):oD (bO prog w) A (.builtin "dict.update.loop" ⟨[.ref S,.ref z,.int ix t,res],[]⟩) R s:=by
 refine codeAny_builtin Px ?_;rw[qL xg _];show bp _ A.in1 (j9 (.ref z)>>=_) _ _ s;cases prs with
 |nil=>refine bg (abW (by simpa using d4) Z a9 gJ jU ag ai ft i0 (.inl (by simp at hsz;simp[hsz])) λh' k=>?_);show bp _ A.in1 (aaN S []>>=_) _ _ _;refine bg (cD (cD ?_));exact dN h' s.toks (hm.at λo e=>k S o D.ma XZ D.s1 D.s2 e) λc o dz cq cF eV iI e=>k c o cq cF eV iI e
 |cons q rest=>
  obtain⟨u,a4,bU,aH⟩:=aK 0 q I;rw[cW]at hsz sY;refine bg (abX Z a9 gJ jU ag ai ft i0 a4 bU λaN zr aqu KE KG cX ahJ k=>?_);show bp _ A.in1 (oE [eZ s.heap.objs.size] _>>=_) _ _ _;have VV:S<s.heap.objs.size:=by obtain⟨o,_,_,e,_⟩:=hm;exact ef e
  have ai2:z<s.heap.objs.size:=ef a9;have aiZ:ci<s.heap.objs.size:=by obtain⟨_,e,_⟩:=ag;exact ef e
  have ai0:cU<s.heap.objs.size:=by obtain⟨_,e,_⟩:=ai;exact ef e
  have Lh:aN.DictOf (eF prog w) S []:=hm.at λo e=>k S o D.ma XZ D.s1 D.s2 e;have La:aN.IsList eK xs:=ft.at λo e=>k eK o D.l5 Z.l1TO D.gx D.ku e;have Lb:aN.IsList fi ys:=i0.at λo e=>k fi o D.nz Z.l2TO D.lp D.mH e;have KJ:nN aN TI (.ref ci) (.ref cU):=k TI _ D.b' Z.TITO D.zD D.tn gJ;refine bg (lE (R4 (s:={s with heap:=aN}) cX aH Lh (by rw[j4];omega) λbD Li s4=>?_));refine cD ⟨pG xg _,R3 D d4 (T:=s.heap.objs.size) (oz VV) (oz ai2) (oz aiZ) (oz ai0) rest 1 (AC [] q.1 q.2) (ix+1) 0 aE _ aG ?_ (λj gM e=>?_) (s4.extBut _ _ (bQ D.ma) zr) ⟨_,s4.extBut _ _ (oz VV) cX⟩ (s4.extBut _ _ (bQ D.X0) KJ) (KE.at λo e=>s4.extBut _ o (bQ D.s1) e) (KG.at λo e=>s4.extBut _ o (bQ D.s2) e) (La.at λo e=>s4.extBut _ o (bQ D.X') e) (Lb.at λo e=>s4.extBut _ o (bQ D.Ya) e) Li λh' tk kW hk=>?_⟩
  ·have:=abG ([]:List (Key×ar)) q.1 q.2;rw[j4]at this;omega
  ·obtain⟨hR,aS,aQ,b0⟩:=aK (j+1) gM (by simpa using e);exact⟨hR,by rw[show 1+j=j+1 by omega];exact aS,by rw[show 1+j=j+1 by omega];exact aQ,b0⟩
  ·exact dN h' tk kW λc o dz cq cF eV iI e=>hk c o dz cq eV iI (s4.extBut _ _ dz (k c o cq cF eV iI e))
theorem adg{s:aT}{prs:List (Key×ar)}{Q:ar->aT->Prop}(Z:Qk z TI fR ci cU eK fi)(d4:A.handled=af)(hsz:xs.size=prs.length)(sY:prs.length<=sizeLine)(aK:∀(j:Nat)(q:Key×ar),prs[j]? =U q->∃u,xs[j]? =U u/\ys[j]? =U q.2/\kq q.1 u=ah)(a9:IsZip s.heap z TI fR .none)(gJ:nN s.heap TI (.ref ci) (.ref cU))(jU:nN s.heap fR .none .none)(ag:s.heap.IsListIter ci eK 0)(ai:s.heap.IsListIter cU fi 0)(ft:s.heap.IsList eK xs)(i0:s.heap.IsList fi ys)(h:∀h' tk,h'.DictOf (eF prog w) s.heap.objs.size (Dz [] prs)->(∀c o,c≠z->c≠fR->c≠ci->c≠cU->s.heap.get? c=U o->h'.get? c=U o)->Q (.ref s.heap.objs.size) {s with heap:=h',toks:=tk}):bp (bO prog w) A (call (.type "dict") [.ref z]) Q E s:=by
 refine callType_codes (Q₁:=λobj d7=>obj=.ref s.heap.objs.size/\d7={s with heap:=s.heap.push {cls:=.type "dict",data:=.dict #[]}}) PySem.F.kt_called_dict (PySem.F.kt_typeCall_dict_1 _) PySem.F.entry_dict_init (kt_code_dict_new _ ⟨I,I⟩) ?_;rintro obj d7 ⟨rfl,rfl⟩;have n6:(s.heap.push {cls:=.type "dict",data:=.dict #[]}).DictOf (eF prog w) s.heap.objs.size []:=aa6 s.heap;have dS:∀b o,s.heap.get? b=U o->(s.heap.push {cls:=.type "dict",data:=.dict #[]}).get? b=U o:=λb o e=>fG _ e;refine⟨n6.typeIs,PySem.F.args_dict_init_2 _ _,?_⟩;unfold oB.«dict.__init__»;refine bg ?_;unfold apB;refine bg (abQ n6.typeIs ?_);show bp _ _ (pure (s.heap.objs.size,[eZ z])) _ _ _;refine cD ?_;show bp _ _ (aaQ "dict.__init__" s.heap.objs.size (.ref z) [] .none) _ _ _;unfold aaQ;refine bg (wpAny_typeOf (T:="zip") ⟨_,dS _ _ a9,I⟩ ?_);rw[art (by first|decide|rfl|simp)];refine bg (aji (dS _ _ a9) d4 λaN aog wl=>?_);rw[art (show(af:Option ar).isNone=ah from I)];refine bg (wpAny_rule ?_);have co:∀b o,s.heap.get? b=U o->aN.get? b=U o:=λb o e=>wl b o (dS b o e);refine bg (QD (co _ _ a9) ?_);have lt:∀{c:Addr}{o:Obj},s.heap.get? c=U o->s.heap.objs.size≠c:=λe=>oz (ef e);obtain⟨l8,g1,_⟩:=id ag;obtain⟨hM,g2,_⟩:=id ai;obtain⟨ME,g3,_⟩:=id ft;obtain⟨qm,y9,_⟩:=id i0;have D:I_ s.heap.objs.size z TI ci cU eK fi:=⟨Z.TIz,Z.i1z,Z.i2z,Z.i12,Z.l1z,Z.l2z,Z.l2i1,Z.TIi1,Z.TIi2,Z.l1i1,Z.l1i2,Z.l2i2,lt a9,lt g1,lt g2,lt gJ,lt g3,lt y9⟩;have key:=ad2 (prog:=prog) (w:=w) (A:=A.in1) (R:=DA (λr h4=>r=.none/\Q (.ref s.heap.objs.size) h4) E) (res:=r0) (s:={s with heap:=aN,toks:=aog}) D Z (lt jU) d4 hsz sY aK (co _ _ a9) (co _ _ gJ) (co _ _ jU) (ag.at λo e=>co _ o e) (ai.at λo e=>co _ o e) (ft.at λo e=>co _ o e) (i0.at λo e=>co _ o e) (n6.at λo e=>wl _ o e) (λh' tk kW k=>⟨I,h h' tk kW λc o cq cF eV iI e=>k c o (bQ (lt e)) cq cF eV iI (co _ _ e)⟩) 0 0;first
  |exact cD ⟨pG xg _,key⟩
  |exact bg (cD (cD ⟨pG xg _,key⟩))
end
inductive asb(K:PySem.W.Frag)(Q:c9)(vs:List V)(H1:ax):Prop
 |mk (a b:Addr) (ks:List Key) (ys:List V) (h0:vs=[.ref a,.ref b]) (ag:aI K H1 a (ks.map cc)) (ai:aI K H1 b ys) (aN:ks.length=ys.length) (bD:∀p,H1 p=af->Q (.ref p) (upd H1 p (.cC (ny [] (ks.zip ys)))))
def anT(K:PySem.W.Frag)(bt:hp):TE:=λσ H Q=>bt σ H λvs H1=>asb K Q vs H1
theorem ac5:jD "dict"=U (.type "dict"):=aD
theorem alu{X:bN}{e aQ:Expr}{bt:hp}{p dc pos Ga:Pos}(aF:X.calm=ah)(lX:lI X "dict")(ag1:X.ap "dict"=af)(bM:lI X "zip")(hm:X.ap "zip"=af)(ay:lc X [e,aQ] bt)(aP:eO [e,aQ] X.env=(aE,c' e X.env)::eO [aQ] X.env:=by rfl)(f5:(jC Ga (eO [aQ] X.env)).any (·.1)=aE:=by rfl):bC X (.Call (.Name "dict" p) [.Call (.Name "zip" dc) [e,aQ] [] Ga] [] pos) (anT X.K bt):=by
 intro pins s σ H Q ab h;refine wpAny_Call_Name_kw (ti ab lX ag1 ac5 (An ?_ I I));show bp _ _ (Qw [(aE,c' (.Call (.Name "zip" dc) [e,aQ] [] Ga) X.env)]) _ _ s;refine Ap (Call_ (ti ab bM hm Rw (An (b2 (ay Ga pins s σ H _ ab h) λus s1⟨vs,H1,a',bK,a7⟩=>?_) aP f5)));obtain⟨a,b,ks,ys,rfl,rn,ro,hlen,q⟩:=a7;obtain⟨iA,iB,rfl,Gl,zV⟩:=bK.two;cases Gl;cases zV;obtain⟨its,di,F9,wx⟩:=a'.list rn;obtain⟨gw,w7,F_,Fh⟩:=a'.list ro;have Fx:a<s1.heap.objs.size:=F9.lt;have Fy:b<s1.heap.objs.size:=F_.lt;have b':=di.length;have cB:=w7.length;rw[aU]at b' wx;refine call_zip_2 F9.isList F_.isList λh' a9 gJ jU ag ai hsz aH=>Dp ?_;have b7:Inv X pins σ H1 {s1 with heap:=h'}:=a'.kept (t':=s1.toks) aH;obtain⟨prs,rel,f5,lY⟩:∃prs:List (Key×ar),fh (ks.zip ys) prs/\prs.length=ks.length/\∀(j:Nat)(q:Key×ar),prs[j]? =U q->∃u,its.toArray[j]? =U u/\gw.toArray[j]? =U q.2/\kq q.1 u=ah:=by
  clear rn ro a9 gJ jU ag ai hsz aH b7 q F9 F_ wx Fh a' Fx Fy;induction ks generalizing ys its gw with
  |nil=>exact⟨[],by rw[List.zip_nil_left];exact .nil,I,λj q e=>by simp at e⟩
  |cons k ks ih=>
   cases ys with
   |nil=>cases hlen
   |cons y ys=>
    rw[dO]at di;cases di with
    |cons r t=>
     cases w7 with
     |cons cS k4=>
      rename_i aoB aoz ZP aoA;obtain⟨prs,dK,dc,lu⟩:=ih ys (by simpa using hlen) aoz t aoA k4 (by simpa using b') (by simpa using cB);refine⟨(k,ZP)::prs,.cons ⟨I,cS⟩ dK,by simp[dc],λj q e=>?_⟩;cases j with
      |zero=>have e:(k,ZP)=q:=bS e;subst e;exact⟨aoB,bl,bl,rr (P:=X.prog) (w:=X.w) r⟩
      |succ j=>obtain⟨u,aS,aQ,b0⟩:=lu j q (by simpa using e);exact⟨u,by simpa using aS,by simpa using aQ,b0⟩
 refine adg (prs:=prs) (PySem.W.ktu_apart s1.heap.objs.size a b Fx Fy) (a'.ok.hd aF) (by rw[fO,<-b',f5]) aG lY a9 gJ jU ag ai (F9.isList.at λo e=>aH _ o e) (F_.isList.at λo e=>aH _ o e) λnf tk kW k=>?_;have hle:s1.heap.objs.size<=h'.objs.size:=aG;have ag4:(h'.objs.size==kO)=aE:=beq_eq_false_iff_ne.mpr (oz (h5 a'.D' hle));have sY:(ny [] (ks.zip ys)).length<=sizeLine:=by refine b3 (VN _ []) ?_;rw[j4,Am,rel.length,f5];exact wx
 have fp:∀c∈[s1.heap.objs.size+4,s1.heap.objs.size+3,s1.heap.objs.size,s1.heap.objs.size+1],iS X pins H1 c:=λc km=>by
  have hle:s1.heap.objs.size<=c:=by simp only[ek,Hw,or_false]at km;omega
  exact a'.v9 hle (a'.bo.fresh hle)
 refine⟨.ref h'.objs.size,_,Inv.G7 (s:={s1 with heap:=h'}) (ob:=.cC (ny [] (ks.zip ys))) b7 (ch:=[s1.heap.objs.size+4,s1.heap.objs.size+3,s1.heap.objs.size,s1.heap.objs.size+1]) (λc o km e=>?_) fp (bR _) ⟨sY,ag4,Dz [] prs,fh.merge rel .nil,kW⟩,I,q _ (a'.bo.fresh hle)⟩;simp only[ek,Hw,or_false,not_or]at km;exact k c o km.1 km.2.1 km.2.2.1 km.2.2.2 e
section
variable{X:bN}
def anU(tk mQ:TE):TE:=λσ H Q=>∀p,H p=af->tk σ (upd H p (.e3 [])) λx H1=>mQ σ H1 λy az=>az p=U (.e3 [])/\∃(b:Addr)(ks:List Key),x=.ref b/\az b=U (.tup (ks.map cc))/\Q (.ref p) (upd az p (.e3 [(ks,y)]))
theorem alv{k v:Expr}{pos:Pos}{tk mQ:TE}(a4:X.A.units+1<cLine)(aH:bC X k tk)(bU:bC X v mQ):bC X (.Dict [U k] [v] pos) (anU tk mQ):=by
 intro pins s σ H Q ab q;have aC:=ab.bo.fresh (bR s.heap.objs.size);have a':=ab.laid (a:=s.heap.objs.size) (o:=.e3 []) (h':=s.heap.push {cls:=.type "dict",data:=.dict #[]}) (t':=s.toks) (λ_ _ q=>fG _ q) (bR _) (adX s.heap ab.D');rw[arm_eval_Dict,zip_pairTrees [U k] [v] X.env pos I I,dictDisplay_pairs _ (by simp[Qt]) (by simp[Qt])];refine bg (QE (bg ?_));unfold subDict;refine bg (wpAny_alloc ?_);refine bg (lE ?_);rw[art (by simp[Qt])];refine bg (pairTrees_cons_walk (b2 (aH pins _ σ _ _ a' (q _ aC)) λu s1⟨x,H1,a',bq,a7⟩=>b2 (bU pins s1 σ H1 _ a' a7) λdv s2⟨y,az,b7,bP,e,b,ks,ex,e9,bc⟩=>pairTrees_nil_walk ?_));subst ex;obtain rfl:u=.ref b:=bq;refine lE ?_;simp only[Hp,De];obtain⟨z,hd,xs,rel,dZ⟩:=El b7.bo e;have ao:xs=[]:=by cases rel;rfl
 subst ao;refine bg (bg (bg (wpAny_dictSet_heap (knd:=uj (eF X.prog X.w)) (k:=ks) (hsz:=ec _) (show X.A.units<cLine by omega) (th b7.bo e9) dZ λh' yZ aP=>cD (cD (cD (cD (cD ?_)))))));obtain⟨Xq,es,ep,aK,ai,aN,bD,_,cw⟩:=yZ;refine⟨.ref s.heap.objs.size,_,JX b7 (ob:=.e3 [(ks,y)]) (by rw[e];exact xI) aP ⟨Xq,aK⟩ ⟨eH,hd,[(ks,b,dv)],.cons ⟨I,?_,bP⟩ .nil,Xq,es,ep,aK,ai,aN,bD,cw⟩,I,bc⟩;rw[aY (cH e9 e (λz=>nomatch z))];exact e9
end
theorem aiy{prog:b6}{w:bX}{d:Addr}{es:Array mV}{ep:Nat}(lo:(d==kO)=aE):PySem.W.KdlSrc prog w "dict" d d es.size (λi v=>∃cP,es[i]? =U cP/\v=cP.key) (λh=>∃o,h.get? d=U o/\o.ExactDict/\o.data=.dict es ep)where
 type:=λ_⟨o,aA,hex,_⟩=>⟨o,aA,hex.1⟩
 there:=λ_⟨o,aA,_⟩=>⟨ef aA,ef aA⟩
 keep:=λ_ _⟨o,aA,x⟩aH=>⟨o,aH d (.inl I) o aA,x⟩
 notList:=a5
 notTuple:=a5
 hint:=λ_ _ _ _⟨o,aA,hex,_⟩aK=>PySem.W.kdl_hint_dict ⟨o,aA,hex.1⟩ aK
 iter:=λA s d4⟨o,aA,hex,o4⟩=>⟨_,λi h=>h.IsKeyIter s.heap.objs.size d i es.size ep/\∃o,h.get? d=U o/\o.ExactDict/\o.data=.dict es ep,(λ_ _ aK=>LF lo aA hex o4 aK),{sub:=λb ak=>(by simp at ak;simp[ak]),frame:=λ_ _ _⟨⟨l8,g1,x1⟩,hM,g2,x2⟩aH=>⟨⟨l8,aH _ bl l8 g1,x1⟩,hM,aH _ bl hM g2,x2⟩,item:=λi s2 Q E av⟨st,hM,g2,x2,pv⟩hI=>Wh st g2 pv I (PG av) λh' eG U_=>hI _ h' s2.toks ⟨_,PG av,I⟩ ⟨eG,hM,U_.extBut _ _ (hS (ef aA)) g2,x2,pv⟩ λb o ak e=>U_.extBut b o (λh=>ak (by simp[h])) e,done:=λs2 Q E⟨st,hM,g2,x2,pv⟩hI=>My d4 st g2 pv I (bR _) λh' wi=>hI h' s2.toks λb o ak e=>wi b o (λh=>ak (by simp[h])) e,self:=λ_ _ _ _⟨st,_⟩hI=>abT st hI},⟨⟨_,fX _ I,I,I⟩,o,fG _ aA,hex,o4⟩⟩
theorem aiR{prog:b6}{w:bX}{A:dQ}{E:ar->aT->Prop}{s:aT}{d:Addr}{o:Obj}{es:Array mV}{ep:Nat}{Q:ar->aT->Prop}(hd:(d==kO)=aE)(aA:s.heap.get? d=U o)(hex:o.ExactDict)(o4:o.data=.dict es ep)(aqC:(es.size:Int)<2^63)(h:Q (.int es.size (s.toks+1)) {s with toks:=s.toks+1+1}):bp (bO prog w) A (call (.builtin "len") [.ref d]) Q E s:=by have ey:s.TypeIs (.ref d) "dict":=⟨o,aA,hex.1⟩;refine Calls.call_function_entry kind_len plain_len entry_len (args_len1 _) ?_;unfold oB.«len»;refine bg (m:=oneArg "len" _) (cD ?_);refine bg (m:=callSpecial? (.ref d) (dY "__len__")) (DC (name:=dY "__len__") ey aa5 (xF aa5 ey F.entry_dict_len ?_ (F.args_dict_len_1 _)));show bp _ _ (dictSize d>>=_) _ _ s;unfold dictSize;refine bg (bg (H0 aA o4 (cD ?_)));show bp _ _ (apA d>>=_) _ _ s;refine bg (wpAny_pendingCount_other hd ?_);refine bg (wpAny_mkInt (cD ⟨_,I,?_⟩));refine bg (lE (cD ?_));refine bg (DE ?_);show bp _ _ (if(((es.size:Nat):Int)+0)<0 then _ else _) _ _ _;rw[ars aG];show bp _ _ (if(((es.size:Nat):Int)+0)>=2^63 then _ else _) _ _ _;rw[ars aG];refine bg (wpAny_mkInt (cD ⟨_,I,?_⟩));have cZ:((es.size:Nat):Int)+((0:Nat):Int)=(es.size:Nat):=aG;rw[cZ];exact h
section
variable{X:bN}
theorem adh:iE X (.builtin "len") (λxs H Q=>∃a kvs,xs=[V.ref a]/\H a=U (.e3 kvs)/\Q (.int kvs.length) H):=by
 intro pins s σ H xs us Q ab r h;obtain⟨a,kvs,rfl,ay,q⟩:=h;obtain⟨u,rfl,gz⟩:=vals1 r;cases gz;obtain⟨z,hd,xs,rel,o,es,ep,aA,hex,o4,EV,_⟩:=El ab.bo ay;have aC:es.size=kvs.length:=by rw[Paired.length rel,<-rP,EV,aU]
 refine aiR hd aA hex o4 (by rw[AB]at z;omega) ⟨.int kvs.length,H,ab.tok _,⟨_,by rw[aC]⟩,q⟩
theorem adj(aF:X.calm=ah):iE X (.type "list") (λxs H Q=>∃(d:Addr)(kvs:List (List Key×V)),xs=[.ref d]/\H d=U (.e3 kvs)/\∀l bs,H l=af->Paired (λ(b:Addr)(kv:List Key×V)=>H b=U (.tup (kv.1.map cc))) bs kvs->Q (.ref l) (upd H l (.lst (bs.map V.ref)))):=by
 intro pins s σ H xs us Q ab r h;obtain⟨d,kvs,rfl,hd,q⟩:=h;obtain⟨u,rfl,bq⟩:=vals1 r;cases bq;obtain⟨z,lo,xs,rel,o,es,ep,aA,hex,o4,EV,_⟩:=El ab.bo hd;have au:=Paired.length rel;have aC:es.size=xs.length:=by rw[<-rP,EV,aU]
 refine PySem.W.kdl_call (aiy (es:=es) (ep:=ep) lo) (ab.ok.hd aF) ⟨o,aA,hex,o4⟩ aG λh' tk fA cp aH d1 iZ=>?_;have bU:bT ((xs.map (·.2.1)).map V.ref) fA.toList:=by
  refine Ha iZ (by simp[aC]) λi v y a_ bU=>?_;obtain⟨cP,ag,rfl⟩:=bU;have ag:es.toList[i]? =U cP:=by simpa using ag
  rw[EV,dI]at ag;rw[dn,dI]at a_;cases Xr:xs[i]? with
  |none=>rw[Xr]at a_;cases a_
  |some x=>rw[Xr]at a_ ag;cases a_;cases ag;rfl
 refine⟨.ref s.heap.objs.size,_,ab.laid (o:=.lst ((xs.map (·.2.1)).map V.ref)) aH (bR _) ⟨?_,fA.toList,cp,bU,?_⟩,I,q _ (xs.map (·.2.1)) (ab.bo.fresh (bR _)) ?_⟩
 ·rw[aU,aU,<-au];exact z
 ·rw[Hf];exact d1
 ·have key:∀{kvs:List (List Key×V)}{xs:List (List Key×Addr×ar)},KT H kvs xs->Paired (λ(b:Addr)(kv:List Key×V)=>H b=U (.tup (kv.1.map cc))) (xs.map (·.2.1)) kvs:=by
   intro kvs xs h;induction h with
   |nil=>exact .nil
   |cons r t ih=>exact .cons r.2.1 ih
  exact key rel
end
theorem Paired.wa{α β:Type}{F:α->β->Prop}:∀{xs:List α}{ys:List β}{i:Nat}{y:β},Paired F xs ys->ys[i]? =U y->∃x,xs[i]? =U x/\F x y
 |_,_,_,_,.nil,h=>by simp at h
 |_,_,0,_,.cons r _,h=>by simp at h;subst h;exact⟨_,I,r⟩
 |_,_,i+1,y,.cons _ t,h=>by obtain⟨x,ag,ai⟩:=Paired.wa (i:=i) (y:=y) t (by simpa using h);exact⟨x,by simpa using ag,ai⟩
theorem Paired.getL{α β:Type}{F:α->β->Prop}:∀{xs:List α}{ys:List β}{i:Nat}{x:α},Paired F xs ys->xs[i]? =U x->∃y,ys[i]? =U y/\F x y
 |_,_,_,_,.nil,h=>by simp at h
 |_,_,0,_,.cons r _,h=>by simp at h;subst h;exact⟨_,I,r⟩
 |_,_,i+1,x,.cons _ t,h=>by obtain⟨y,ag,ai⟩:=Paired.getL (i:=i) (x:=x) t (by simpa using h);exact⟨y,by simpa using ag,ai⟩
theorem Paired.imp{α β:Type}{F G:α->β->Prop}:∀{xs:List α}{ys:List β},Paired F xs ys->(∀a b,b∈ys->F a b->G a b)->Paired G xs ys
 |_,_,.nil,_=>.nil
 |_,_,.cons r t,f=>.cons (f _ _ (eB _) r) (Paired.imp t λa b ak=>f a b (fe _ ak))
theorem Paired.LA{α β:Type}{F G:α->β->Prop}:∀{xs:List α}{ys:List β},Paired F xs ys->(∀a b,a∈xs->F a b->G a b)->Paired G xs ys
 |_,_,.nil,_=>.nil
 |_,_,.cons r t,f=>.cons (f _ _ (eB _) r) (Paired.LA t λa b ak=>f a b (fe _ ak))
theorem Paired.app{α β:Type}{F:α->β->Prop}:∀{xs:List α}{ys:List β}{rO:List α}{Z0:List β},Paired F xs ys->Paired F rO Z0->Paired F (xs++rO) (ys++Z0)
 |_,_,_,_,.nil,h=>h
 |_,_,_,_,.cons r t,h=>.cons r (Paired.app t h)
theorem Paired.adV{α β:Type}{F:α->β->Prop}{xs:List α}{ys:List β}(h:Paired F xs ys):Paired F xs.dropLast ys.dropLast:=by
 induction h with
 |nil=>exact .nil
 |cons r t ih=>
  cases t with
  |nil=>exact .nil
  |cons r' t'=>exact .cons r ih
abbrev AU(J:It)(g:h_)(cT:fS)(D:Ends)(σ:St)(H:ax):Prop:=∃W:Nat->Nat->St->ax->Prop,(∃m,W 0 m σ H)/\∀i m σ H,W i m σ H->(J.stop i H/\D.cN σ H)\/(J.go i H/\∃N:St->ax->Prop,(∀cj ae,N cj ae->∃m',m'<m/\W (i+1) m' cj ae)/\∀x ae,J.qz i H x ae->g x σ ae λe6 az=>cT {D with cN:=N,dC:=N,iH:=D.cN} e6 az)
theorem Ew{J:It}{n:Nat}{g:h_}{cT:fS}{D:Ends}{σ:St}{H:ax}(Pv:Nat->St->ax->Prop)(h0:Pv 0 σ H)(wj:∀i σ H,i<n->Pv i σ H->J.go i H)(lZ:∀σ H,Pv n σ H->J.stop n H)(aP:∀i σ H x ae,i<n->Pv i σ H->J.qz i H x ae->g x σ ae λe6 az=>cT {D with cN:=Pv (i+1),dC:=Pv (i+1),iH:=D.cN} e6 az)(hd:∀σ H,Pv n σ H->D.cN σ H):AU J g cT D σ H:=by
 refine⟨λi m σ H=>m=n-i/\i<=n/\Pv i σ H,⟨n,bl,ec _,h0⟩,?_⟩;rintro i m σ H ⟨rfl,av,p⟩;by_cases dD:i<n
 ·exact .inr ⟨wj i σ H dD p,Pv (i+1),λcj ae p'=>⟨n-(i+1),aG,I,dD,p'⟩,λx ae y=>aP i σ H x ae dD p y⟩
 ·have e:i=n:=by omega
  subst e;exact .inl ⟨lZ σ H p,hd σ H p⟩
theorem Kk{K:PySem.W.Frag}{a:Addr}{xs:List V}{g:h_}{cT:fS}{D:Ends}{σ:St}{H:ax}(Pv:Nat->St->ax->Prop)(h0:Pv 0 σ H)(au:∀i σ H,i<=xs.length->Pv i σ H->aI K H a xs)(aP:∀i x σ H T,xs[i]? =U x->Pv i σ H->H T=af->g (.ref T) σ (upd H T (.tup [.int (i:Nat),x])) λe6 az=>cT {D with cN:=Pv (i+1),dC:=Pv (i+1),iH:=D.cN} e6 az)(hd:∀σ H,Pv xs.length σ H->D.cN σ H):AU (DQ K a) g cT D σ H:=by refine Ew (n:=xs.length) Pv h0 (λi σ H av p=>⟨xs,xs[i],au i σ H (kN av) p,by simp[av]⟩) (λσ H p=>⟨xs,au _ σ H (bR _) p,bR _⟩) (λi σ H x ae av p y=>?_) hd;obtain⟨T,z,rfl,ey,rfl,a9⟩:=y;exact aP i z σ H T (a9 xs (au i σ H (kN av) p)) p ey
theorem aeN{K:PySem.W.Frag}{a b:Addr}{xs ys:List V}{g:h_}{cT:fS}{D:Ends}{σ:St}{H:ax}(Pv:Nat->St->ax->Prop)(h0:Pv 0 σ H)(he:xs.length=ys.length)(au:∀i σ H,i<=xs.length->Pv i σ H->aI K H a xs/\aI K H b ys)(aP:∀i x y σ H T,xs[i]? =U x->ys[i]? =U y->Pv i σ H->H T=af->g (.ref T) σ (upd H T (.tup [x,y])) λe6 az=>cT {D with cN:=Pv (i+1),dC:=Pv (i+1),iH:=D.cN} e6 az)(hd:∀σ H,Pv xs.length σ H->D.cN σ H):AU (Jc K a b) g cT D σ H:=by refine Ew (n:=xs.length) Pv h0 (λi σ H av p=>⟨xs,ys,xs[i],ys[i]'(aG),(au i σ H (kN av) p).1,(au i σ H (kN av) p).2,by simp[av],bl⟩) (λσ H p=>⟨xs,ys,(au _ σ H (bR _) p).1,(au _ σ H (bR _) p).2,.inl (bR _)⟩) (λi σ H x ae av p y=>?_) hd;obtain⟨T,z,kJ,rfl,ey,rfl,a9,Fh⟩:=y;exact aP i z kJ σ H T (a9 xs (au i σ H (kN av) p).1) (Fh ys (au i σ H (kN av) p).2) p ey
theorem aeL{K:PySem.W.Frag}{a:Addr}{xs:List V}{g:h_}{cT:fS}{D:Ends}{σ:St}{H:ax}(Pv:Nat->St->ax->Prop)(h0:Pv 0 σ H)(au:∀i σ H,i<=xs.length->Pv i σ H->aI K H a xs)(aP:∀i x σ H,xs.reverse[i]? =U x->Pv i σ H->g x σ H λe6 az=>cT {D with cN:=Pv (i+1),dC:=Pv (i+1),iH:=D.cN} e6 az)(hd:∀σ H,Pv xs.length σ H->D.cN σ H):AU (Jb K a xs.length) g cT D σ H:=by refine Ew (n:=xs.length) Pv h0 (λi σ H av p=>⟨av,xs,xs[xs.length-1-i]'(aG),au i σ H (kN av) p,bl⟩) (λσ H p=>bR _) (λi σ H x ae av p y=>?_) hd;obtain⟨rfl,a9⟩:=y;refine aP i x σ _ ?_ p;have:=a9 xs (au i σ _ (kN av) p);rw[List.getElem?_reverse av];exact this
theorem aeK{d:Addr}{o:Obj}{kvs:List (Key×V)}{g:h_}{cT:fS}{D:Ends}{σ:St}{H:ax}(Pv:Nat->St->ax->Prop)(h0:Pv 0 σ H)(au:∀i σ H,i<=kvs.length->Pv i σ H->H d=U (.dV o (.cC kvs)))(aP:∀i k v σ H T,kvs[i]? =U (k,v)->Pv i σ H->H T=af->g (.ref T) σ (upd H T (.tup [cc k,v])) λe6 az=>cT {D with cN:=Pv (i+1),dC:=Pv (i+1),iH:=D.cN} e6 az)(hd:∀σ H,Pv kvs.length σ H->D.cN σ H):AU (DR d o kvs) g cT D σ H:=by refine Ew (n:=kvs.length) Pv h0 (λi σ H av p=>⟨au i σ H (kN av) p,av⟩) (λσ H p=>⟨au _ σ H (bR _) p,bR _⟩) (λi σ H x ae av p y=>?_) hd;obtain⟨T,k,v,aH,rfl,ey,rfl⟩:=y;exact aP i k v σ H T aH p ey
theorem Fz{J:It}{n:Nat}{g:h_}{tt:TT}{te:TE}{vs:List Nat}{σ:St}{H1:ax}{D:Addr}{iG:ax->Prop}(Pv:Nat->ax->Prop)(h0:Pv 0 (upd H1 D (.lst [])))(wj:∀i H,i<n->Pv i H->J.go i H)(lZ:∀H,Pv n H->J.stop n H)(aP:∀i H x ae,i<n->Pv i H->J.qz i H x ae->g x (wipe σ vs) ae λe6 az=>wipe e6 vs=wipe σ vs/\tt e6 az λb aZ=>
 if b=ah then te e6 aZ λy bz=>∃acc,bz D=U (.lst acc)/\acc.length<sizeLine/\Pv (i+1) (upd bz D (.lst (acc++[y])))else Pv (i+1) aZ) (hd:∀H,Pv n H->iG H):
 xV J g tt te vs σ H1 D iG:=by
 refine⟨λi m H=>m=n-i/\i<=n/\Pv i H,⟨n,bl,ec _,h0⟩,?_⟩
 rintro i m H ⟨rfl,av,p⟩
 by_cases dD:i<n
 ·exact .inr ⟨wj i H dD p,Pv (i+1),λae p'=>⟨n-(i+1),aG,I,dD,p'⟩,λx ae y=>aP i H x ae dD p y⟩
 ·have e:i=n:=by omega
  subst e;exact .inl ⟨lZ H p,hd H p⟩
def ff(D:Addr)(H ae:ax):Prop:=∀b o,b≠D->H b=U o->ae b=U o
theorem ff.of{D:Addr}{H ae:ax}(s:aw H ae):ff D H ae:=λb o _ h=>s b o h
theorem ff.at{D:Addr}{H:ax}{o:dE}:ff D H (upd H D o):=λb u n h=>by rw[aY n];exact h
theorem VF{K:PySem.W.Frag}{a:Addr}{xs:List V}{te:TE}{j:Nat}{σ:St}{H1:ax}{D:Addr}{iG:ax->Prop}(R:ax->V->V->Prop)(dN:∀H ae x y,ff D H ae->R H x y->R ae x y)(au:aI K H1 a xs)(cg:H1 D=af)(a9:xs.length<=sizeLine)(ak:∀x∈xs,∀H,aw H1 H->(∃acc,H D=U (.lst acc))->∀Q:c9,(∀ae y,aw H ae->R ae x y->Q y ae)->te (σ.set j (U x)) H Q)(hd:∀H ys,aw H1 H->Paired (R H) xs ys->H D=U (.lst ys)->iG H):xV (mX K a) (mu j) pn te [j] σ H1 D iG:=by
 refine Fz (J:=mX K a) (n:=xs.length) (λi H=>aw H1 H/\∃ys:List V,Paired (R H) (xs.take i) ys/\H D=U (.lst ys)) ⟨aw.new cg,[],by rw[qG];exact .nil,aW⟩ (λi H av p=>⟨xs,xs[i],p.1.seq au,by simp[av]⟩) (λH p=>⟨xs,p.1.seq au,bR _⟩) ?_ ?_
 ·rintro i H x ae av ⟨s,ys,aO,EJ⟩ ⟨rfl,ao⟩;have ao:=ao xs (s.seq au);refine⟨xl,?_⟩;unfold pn;dsimp only;rw[art I,C6];refine ak x (eN ao) _ s ⟨_,EJ⟩ _ λaz y s2 r=>⟨_,s2 _ _ EJ,?_,(s.trans s2).put cg,ys++[y],?_,?_⟩
  ·rw[<-Paired.length aO,fo];omega
  ·have e:=xf (f:=id) ao;rw[j6,j6]at e;rw[e];exact Paired.app (Paired.imp aO λa b _ h=>dN _ _ _ _ ff.at (dN _ _ _ _ (ff.of s2) h)) (.cons (dN _ _ _ _ ff.at r) .nil)
  ·rw[aW]
 ·rintro H ⟨s,ys,aO,EJ⟩;rw[hA]at aO;exact hd H ys s aO EJ
theorem ZZ{σ:St}{i j:Nat}{x y:V}(h:i≠j):wipe (((wipe σ [i,j]).set i (U x)).set j (U y)) [i,j]=wipe σ [i,j]:=by show(((((σ.set j af).set i af).set i (U x)).set j (U y)).set j af).set i af=(σ.set j af).set i af;rw[xu,xu,List.set_comm _ _ h,xu,xu]
abbrev gs:=Str×Nat×Nat
def Eh(o:Obj)(t:String):Bool:=match o.cls with
 | .type x=>x==t
 |_=>aE
theorem RH{o:Obj}{t:String}(h:Eh o t=ah):o.cls=.type t:=by
 unfold Eh at h;split at h
 ·rename_i x e;rw[e,eq_of_beq h]
 ·cases h
def LG(x:gs):List ar->Bool
 |[.str a _,.int i _,.int j _]=>decide (a=x.1)&&(decide (i=(x.2.1:Int))&&decide (j=(x.2.2:Int)))
 |_=>aE
def CP(x:gs):List V:=[.str x.1,.int (x.2.1:Nat),.int (x.2.2:Nat)]
theorem aip{x:gs}{l:List ar}(h:LG x l=ah):bT (CP x) l:=by
 unfold LG at h;split at h
 ·simp only[e7,decide_eq_true_eq]at h;obtain⟨rfl,rfl,rfl⟩:=h;exact .cons ⟨_,I⟩ (.cons ⟨_,I⟩ (.cons ⟨_,I⟩ .nil))
 ·cases h
def C1(K:PySem.W.Frag)(v:ar)(x:gs):Bool:=match v with
 | .ref p=>match K.lookup p with
  |some o=>Eh o "tuple"&&match o.data with
   | .seq its _=>LG x its.toList
   |_=>aE
  |none=>aE
 |_=>aE
def y3(K:PySem.W.Frag):Nat->List mV->List gs->Bool
 |_,[],[]=>ah
 |n,e::es,x::xs=>(decide (e.hash=HT (n:Int))&&ub (n:Int) e.key)&&(C1 K e.val x&&y3 K (n+1) es xs)
 |_,_,_=>aE
def A_(K:PySem.W.Frag)(d:Addr)(gO:List gs):Bool:=match K.lookup d with
 |some o=>(Eh o "dict"&&(o.dict.isNone&&o.slots.isEmpty))&&match o.data with
  | .dict es _=>y3 K 0 es.toList gO
  |_=>aE
 |none=>aE
theorem aol{K:PySem.W.Frag}{v:ar}{x:gs}(h:C1 K v x=ah):∃p,v=.ref p/\∀H,eQ K H p (CP x):=by
 unfold C1 at h;split at h
 ·rename_i p;refine⟨p,I,λH=>.inr ?_⟩;split at h
  ·rename_i o aA;rw[e7]at h;obtain⟨ag,ai⟩:=h;split at ai
   ·rename_i its n e;have bU:=aip ai;refine⟨o,its,n,aA,RH ag,e,?_,bU⟩;have:=bU.length;have b0:(CP x).length=3:=rfl;rw[b0,rP]at this;rw[<-this];decide
   ·cases ai
  ·cases h
 ·cases h
theorem Sf{K:PySem.W.Frag}:∀{es:List mV}{gO:List gs}{n:Nat},y3 K n es gO=ah->(∀e∈es,∃k:Int,ub k e.key=ah/\e.hash=HT k)/\∀j x,gO[j]? =U x->∃v,(es.find? λe=>ub ((n+j:Nat):Int) e.key).map (·.val)=U v/\C1 K v x=ah
 |[],[],n,_=>⟨(λe h=>nomatch h),(λj x h=>nomatch h)⟩
 |[],_::_,_,h=>by simp[y3]at h
 |_::_,[],_,h=>by simp[y3]at h
 |e::es,y::gO,n,h=>by
  have h:((decide (e.hash=HT (n:Int))&&ub (n:Int) e.key)&&(C1 K e.val y&&y3 K (n+1) es gO))=ah:=h;simp only[e7,decide_eq_true_eq]at h;obtain⟨⟨ag,ai⟩,aN,bD⟩:=h;obtain⟨ci,cU⟩:=Sf bD;refine⟨λe' he=>?_,λj x ao=>?_⟩
  ·rcases ek.mp he with rfl|he
   ·exact⟨(n:Int),ai,ag⟩
   ·exact ci e' he
  ·cases j with
   |zero=>
    have cZ:y=x:=by simpa using ao
    subst cZ;refine⟨e.val,?_,aN⟩;rw[nM,HB,ai];rfl
   |succ j=>
    obtain⟨v,aS,aQ⟩:=cU j x (by simpa using ao);refine⟨v,?_,aQ⟩;have aC:ub ((n+(j+1):Nat):Int) e.key=aE:=by
     cases q:ub ((n+(j+1):Nat):Int) e.key with
     |false=>rfl
     |true=>have:=Value.isInt_inj _ _ _ q ai;omega
    rw[nM,aC];rw[show n+(j+1)=n+1+j by omega];exact aS
section
variable{X:bN}{o i:Expr}{pos:Pos}
def an0(K:PySem.W.Frag)(gO:List gs)(ty:TE):TE:=λσ H Q=>ty σ H λy az=>∃(n:Nat)(x:gs),y=.int (n:Nat)/\gO[n]? =U x/\∀p,(∀H,eQ K H p (CP x))->Q (.ref p) az
theorem aly{d:Addr}{gO:List gs}{ty:TE}(aA:bC X o (xd (.ref d)))(av:bC X i ty)(aP:Jd i)(aH:A_ X.K d gO=ah):bC X (.Subscript o i pos) (an0 X.K gO ty):=by
 intro pins s σ H Q ab h;refine Zc PySem.F.slot_dict_getitem.lookup aP (b2 (aA pins s σ H (λx H1=>x=.ref d/\ty σ H1 λy az=>∃(n:Nat)(x:gs),y=.int (n:Nat)/\gO[n]? =U x/\∀p,(∀H,eQ X.K H p (CP x))->Q (.ref p) az) ab ⟨I,h⟩) λu s1⟨x,H1,a',bq,ex,a7⟩=>b2 (av pins s1 σ H1 _ a' a7) λqg s2⟨y,az,b7,bP,n,z,eu,a9,bc⟩=>?_);subst ex;subst eu;obtain rfl:u=eZ d:=bq;obtain⟨t,rfl⟩:=bP;unfold A_ at aH;split at aH
 ·rename_i ob ahb;simp only[e7]at aH;obtain⟨⟨co,fD,f7⟩,o_⟩:=aH;split at o_
  ·rename_i es ep hd;have UD:s2.heap.get? d=U ob:=b7.jW d ob ahb;obtain⟨f1,f2⟩:=Sf o_;obtain⟨v,aS,aQ⟩:=f2 n z a9;rw[Am]at aS;obtain⟨p,rfl,aO⟩:=aol aQ;have hex:ob.ExactDict:=⟨RH co,by simpa using fD,by simpa using f7⟩;have hm:s2.heap.MapOf (PySem.intKind X.prog X.w) d (Qp (PySem.intKind X.prog X.w).is es):=by refine⟨ob,es,ep,UD,hex,hd,λe he=>?_,λk=>I⟩;obtain⟨k,a1,a2⟩:=f1 e (by simpa using he);exact⟨k,a1,a2⟩
   refine⟨⟨ob,UD,hex.1⟩,abJ (knd:=PySem.intKind X.prog X.w) (k:=(n:Int)) (v:=.ref p) (PySem.intKind_is _ _ _ _) hm ?_ ⟨.ref p,az,b7.tok _,I,bc p aO⟩⟩;unfold Qp;rw[<-aS];obtain⟨l⟩:=es;rw[List.find?_toArray];rfl
  ·cases o_
 ·cases aH
end
end bL
section
namespace bL
open PySem PySem.Spec PyProof.Rows
open PySem.W (WData Codec OpenSpec Well WellAll ReadsW ReadsAllW)
mutual
inductive iR(K:PySem.W.Frag)(H:ax):V->hT->Prop
 |bZ:iR K H .bZ .none
 |bB (b:Bool):iR K H (.bB b) (.bool b)
 |int (i:Int):iR K H (.int i) (.int i)
 |str (x:Str):iR K H (.str x) (.str x)
 |kc (b:Array UInt8):iR K H (.kc b) (.bytes b.toList)
 |lst {a:Addr} {xs:List V} {ds:List hT}:aI K H a xs->nV K H xs ds->iR K H (.ref a) (.list ds)
 |tup {a:Addr} {xs:List V} {ds:List hT}:eQ K H a xs->nV K H xs ds->iR K H (.ref a) (.tuple ds)
inductive nV(K:PySem.W.Frag)(H:ax):List V->List hT->Prop
 |nil:nV K H [] []
 |cons {v:V} {vs:List V} {d:hT} {ds:List hT}:iR K H v d->nV K H vs ds->nV K H (v::vs) (d::ds)
end
theorem R0{K:PySem.W.Frag}{H:ax}:∀ns:List Int,nV K H (ns.map V.int) (ns.map abn)
 |[]=>.nil
 |n::r=>.cons (.int n) (R0 r)
theorem Vk{K:PySem.W.Frag}{H:ax}:∀(ns:List Int)(xs:List V),nV K H xs (ns.map abn)->xs=ns.map V.int
 |[],xs,h=>by cases h;rfl
 |n::r,xs,h=>by
  cases h with
  |cons ag ai=>cases ag;rw[Vk r _ ai]<;>rfl
section
variable{P:b6}{w:bX}{K:PySem.W.Frag}{H:ax}{h:Heap}{R:PySem.W.WRecords}{cl:Str->Option Addr}
theorem anr{a:Addr}{xs:List V}(bo:fI P w H h)(fJ:K.In h)(q:aI K H a xs):∃(its:List ar)(o:Obj)(n:Nat),bT xs its/\h.get? a=U o/\o.cls=.type "list"/\o.data=.seq its.toArray n:=by
 rcases q with q|⟨o,its,n,e,aF,_,hd,_,bU⟩
 ·obtain⟨_,its,n,bU,e⟩:=(show gF P w H h a (.lst xs)from q.ok bo);exact⟨its,_,n,bU,e,I,I⟩
 ·exact⟨its.toList,o,n,bU,fJ _ _ e,aF,by simp[hd]⟩
theorem ans{a:Addr}{xs:List V}(bo:fI P w H h)(fJ:K.In h)(q:eQ K H a xs):∃(its:List ar)(o:Obj)(n:Nat),bT xs its/\h.get? a=U o/\o.cls=.type "tuple"/\o.data=.seq its.toArray n:=by
 rcases q with q|⟨o,its,n,e,aF,hd,_,bU⟩
 ·obtain⟨_,its,bU,o,e,aF,n,hd⟩:=(show gF P w H h a (.tup xs)from q.ok bo);exact⟨its,o,n,bU,e,aF,hd⟩
 ·exact⟨its.toList,o,n,bU,fJ _ _ e,aF,by simp[hd]⟩
mutual
theorem iR.reads(bo:fI P w H h)(fJ:K.In h):∀(d:hT)(v:V)(u:ar),iR K H v d->RelV v u->∃as,ReadsW R cl h u d as
 | .none,_,_,x,r=>by cases x;cases r;exact⟨_,ReadsW.none⟩
 | .bool b,_,_,x,r=>by cases x;cases r;exact⟨_,ReadsW.bool b⟩
 | .int i,_,_,x,r=>by cases x;obtain⟨t,rfl⟩:=r;exact⟨_,ReadsW.int i t⟩
 | .str s,_,_,x,r=>by cases x;obtain⟨t,rfl⟩:=r;exact⟨_,ReadsW.str s t⟩
 | .bytes b,_,_,x,r=>by cases x;obtain⟨t,rfl⟩:=r;exact⟨_,ReadsW.bytes _ t⟩
 | .list ds,_,_,x,r=>by
  cases x with
  |lst aP ay=>cases r;obtain⟨its,o,n,di,aA,aF,hd⟩:=anr bo fJ aP;obtain⟨as,aL⟩:=iR.readsAll bo fJ ds _ its ay di;exact⟨_,ReadsW.list aA aF hd aL⟩
 | .tuple ds,_,_,x,r=>by
  cases x with
  |tup aP ay=>cases r;obtain⟨its,o,n,di,aA,aF,hd⟩:=ans bo fJ aP;obtain⟨as,aL⟩:=iR.readsAll bo fJ ds _ its ay di;exact⟨_,ReadsW.tuple aA aF hd aL⟩
 | .float _,_,_,x,_=>by cases x
 | .dict _,_,_,x,_=>by cases x
 | .bytearray _,_,_,x,_=>by cases x
 | .set _,_,_,x,_=>by cases x
 | .frozenset _,_,_,x,_=>by cases x
 | .obj _ _,_,_,x,_=>by cases x
theorem iR.readsAll(bo:fI P w H h)(fJ:K.In h):∀(ds:List hT)(vs:List V)(us:List ar),nV K H vs ds->bT vs us->∃as,ReadsAllW R cl h us ds as
 |[],_,_,x,r=>by cases x;cases r;exact⟨_,ap5⟩
 |d::ds,_,_,x,r=>by
  cases x with
  |cons ag ai=>
   cases r with
   |cons bK cS=>obtain⟨as,a7⟩:=iR.reads bo fJ d _ _ ag bK;obtain⟨bs,bc⟩:=iR.readsAll bo fJ ds _ _ ai cS;exact⟨_,ap4 a7 bc⟩
end
end
mutual
def mL:hT->Bool
 | .none=>ah
 | .bool _=>ah
 | .int _=>ah
 | .str _=>ah
 | .bytes _=>ah
 | .list xs=>oi xs
 | .tuple xs=>oi xs
 |_=>aE
def oi:List hT->Bool
 |[]=>ah
 |x::r=>mL x&&oi r
end
theorem W8{α:Type}{f:α->hT}(h:∀a,mL (f a)=ah):∀l:List α,oi (l.map f)=ah
 |[]=>rfl
 |x::r=>by show(mL (f x)&&oi (r.map f))=ah;rw[h x,W8 h r]<;>rfl
theorem tD:∀(c:Codec)(a:c.denote),mL (c.enc a)=ah
 | .unit,_=>rfl
 | .bool,_=>rfl
 | .int _ _,_=>rfl
 | .nat _ _,_=>rfl
 | .u8,_=>rfl
 | .bytes _ _,_=>rfl
 | .text _ _ _ _,_=>rfl
 | .list _ _ c,a=>W8 (λx=>tD c x) a
 | .pair c d,a=>by show(mL (c.enc a.1)&&(mL (d.enc a.2)&&ah))=ah;rw[tD c a.1,tD d a.2]<;>rfl
 | .triple c d e,a=>by show(mL (c.enc a.1)&&(mL (d.enc a.2.1)&&(mL (e.enc a.2.2)&&ah)))=ah;rw[tD c a.1,tD d a.2.1,tD e a.2.2]<;>rfl
 | .option c,af=>rfl
 | .option c,U x=>tD c x
theorem W9:∀(cs:List Codec)(a:HO cs),oi (Au cs a)=ah
 |[],_=>rfl
 |c::cs,a=>by show(mL (c.enc a.1)&&oi (Au cs a.2))=ah;rw[tD c a.1,W9 cs a.2]<;>rfl
theorem PA:∀{xs:List hT}{d:hT},d∈xs->d.weight<=HP xs
 |[],d,h=>aro h bl
 |x::r,d,h=>by
  show d.weight<=x.weight+1+HP r;rcases ek.mp h with e|m
  ·rw[e];omega
  ·have z:=PA m;omega
def toV:ar->V
 | .none=>.bZ
 | .bool b=>.bB b
 | .int i _=>.int i
 | .str x _=>.str x
 | .bytes b _=>.kc b
 | .ref a=>.ref a
 |_=>.bZ
def mZ(A:List Addr):ar->Prop
 | .none=>True
 | .bool _=>True
 | .int _ _=>True
 | .str _ _=>True
 | .bytes _ _=>True
 | .ref a=>a∈A
 |_=>False
theorem mZ.mono{A B:List Addr}(h:∀a∈A,a∈B):∀{u:ar},mZ A u->mZ B u:=λ{u}x=>by
 cases u with
 |ref a=>exact h a x
 |none=>trivial
 |bool b=>trivial
 |int i t=>trivial
 |str s t=>trivial
 |bytes b t=>trivial
 |_=>exact iD x
theorem amo{A:List Addr}{u:ar}(x:mZ A u):RelV (toV u) u:=by
 cases u with
 |ref a=>rfl
 |none=>rfl
 |bool b=>rfl
 |int i t=>exact⟨t,I⟩
 |str s t=>exact⟨t,I⟩
 |bytes b t=>exact⟨t,I⟩
 |_=>exact iD x
theorem z_{A:List Addr}:∀{vs:List ar},(∀u∈vs,mZ A u)->bT (vs.map toV) vs
 |[],_=>.nil
 |u::r,h=>.cons (amo (h u (mT ..))) (z_ λx ao=>h x (j7 _ ao))
def nU(h:Heap)(A:List Addr)(a:Addr):Prop:=∃vs:List ar,vs.length<=sizeLine/\(∀u∈vs,mZ A u)/\(h.get? a=U {cls:=.type "list",data:=.seq vs.toArray}\/h.get? a=U {cls:=.type "tuple",data:=.seq vs.toArray})
theorem nU.mono{h:Heap}{A B:List Addr}{a:Addr}(k:∀a∈A,a∈B)(x:nU h A a):nU h B a:=by obtain⟨vs,ag,ai,aN⟩:=x;exact⟨vs,ag,λu a4=>(ai u a4).mono k,aN⟩
theorem Hb{P:rZ}{h:Heap}:∀{vs:List ar}{ds:List hT},uc P h vs ds->vs.length=ds.length
 |_,_,.nil=>rfl
 |_,_,.cons _ b=>by show _+1=_+1;rw[Hb b]
theorem ZX{P:rZ}{h:Heap}{v:ar}{ds:List hT}(x:Ds P h v (.list ds)):∃(a:Addr)(vs:List ar),v=.ref a/\h.get? a=U {cls:=.type "list",data:=.seq vs.toArray}/\uc P h vs ds:=by
 cases x with
 |list aA jV=>exact⟨_,_,I,aA,jV⟩
theorem ZY{P:rZ}{h:Heap}{v:ar}{ds:List hT}(x:Ds P h v (.tuple ds)):∃(a:Addr)(vs:List ar),v=.ref a/\h.get? a=U {cls:=.type "tuple",data:=.seq vs.toArray}/\uc P h vs ds:=by
 cases x with
 |tuple aA jV=>exact⟨_,_,I,aA,jV⟩
theorem ZW{P:rZ}{h:Heap}{us:List ar}{d:hT}{ds:List hT}(x:uc P h us (d::ds)):∃(v:ar)(vs:List ar),us=v::vs/\Ds P h v d/\uc P h vs ds:=by
 cases x with
 |cons a b=>exact⟨_,_,I,a,b⟩
theorem VQ{n:Nat}(h:n<=1048576):n<=sizeLine:=b3 h a5
section
variable{P:rZ}{h:Heap}
mutual
theorem acR:∀(d:hT)(v:ar),Ds P h v d->mL d=ah->d.weight<=1048576->∃A:List Addr,mZ A v/\∀a∈A,nU h A a
 | .none,_,x,_,_=>by cases x;exact⟨[],trivial,λa m=>aro m bl⟩
 | .bool b,_,x,_,_=>by cases x;exact⟨[],trivial,λa m=>aro m bl⟩
 | .int i,_,x,_,_=>by cases x;exact⟨[],trivial,λa m=>aro m bl⟩
 | .str s,_,x,_,_=>by cases x;exact⟨[],trivial,λa m=>aro m bl⟩
 | .bytes b,_,x,_,_=>by cases x;exact⟨[],trivial,λa m=>aro m bl⟩
 | .list ds,_,x,p,z=>by
  obtain⟨a,vs,rfl,aA,jV⟩:=ZX x;have kJ:HP ds<=1048576:=z;obtain⟨A,ag,ai⟩:=D2 ds _ jV p λd hd=>b3 (PA hd) kJ;have k:∀b∈A,b∈a::A:=λb ak=>j7 _ ak;refine⟨a::A,mT ..,λb ak=>?_⟩;rcases ek.mp ak with e|m
  ·rw[e];exact⟨vs,VQ (by rw[Hb jV];exact b3 (PySem.W.length_le_weightAllW ds) kJ),λu a4=>(ag u a4).mono k,.inl aA⟩
  ·exact(ai b m).mono k
 | .tuple ds,_,x,p,z=>by
  obtain⟨a,vs,rfl,aA,jV⟩:=ZY x;have kJ:HP ds<=1048576:=z;obtain⟨A,ag,ai⟩:=D2 ds _ jV p λd hd=>b3 (PA hd) kJ;have k:∀b∈A,b∈a::A:=λb ak=>j7 _ ak;refine⟨a::A,mT ..,λb ak=>?_⟩;rcases ek.mp ak with e|m
  ·rw[e];exact⟨vs,VQ (by rw[Hb jV];exact b3 (PySem.W.length_le_weightAllW ds) kJ),λu a4=>(ag u a4).mono k,.inr aA⟩
  ·exact(ai b m).mono k
 | .float _,_,_,p,_=>nJ (show aE=ah from p)
 | .dict _,_,_,p,_=>nJ (show aE=ah from p)
 | .bytearray _,_,_,p,_=>nJ (show aE=ah from p)
 | .set _,_,_,p,_=>nJ (show aE=ah from p)
 | .frozenset _,_,_,p,_=>nJ (show aE=ah from p)
 | .obj _ _,_,_,p,_=>nJ (show aE=ah from p)
theorem D2:∀(ds:List hT)(vs:List ar),uc P h vs ds->oi ds=ah->(∀d∈ds,d.weight<=1048576)->∃A:List Addr,(∀u∈vs,mZ A u)/\∀a∈A,nU h A a
 |[],_,x,_,_=>by cases x;exact⟨[],λu m=>aro m bl,λa m=>aro m bl⟩
 |d::ds,_,x,p,z=>by
  obtain⟨v,vs,rfl,x1,x2⟩:=ZW x;have q:mL d=ah/\oi ds=ah:=Z8.mp p;obtain⟨A,a1,a2⟩:=acR d v x1 q.1 (z d (mT ..));obtain⟨B,kb,sy⟩:=D2 ds vs x2 q.2 λe he=>z e (j7 _ he);have Vx:∀b∈A,b∈A++B:=λb ak=>gn.mpr (.inl ak);have Vy:∀b∈B,b∈A++B:=λb ak=>gn.mpr (.inr ak);refine⟨A++B,λu a4=>?_,λb ak=>?_⟩
  ·rcases ek.mp a4 with e|m
   ·rw[e];exact a1.mono Vx
   ·exact(kb u m).mono Vy
  ·rcases gn.mp ak with m|m
   ·exact(a2 b m).mono Vx
   ·exact(sy b m).mono Vy
end
end
def E3(o:Obj):Option dE:=match o.data with
 | .seq vs _=>if(o.cls==r1 "list")=ah then U (.dV o (.lst (vs.toList.map toV)))else U (.dV o (.tup (vs.toList.map toV)))
 |_=>af
def jP(K:PySem.W.Frag)(h:Heap)(A:List Addr):ax:=λb=>if b∈A then(if(K.lookup b).isNone=ah then(h.get? b).bind E3 else af)else af
def AV(H:ax):Prop:=∀b,H b=af\/∃o u,H b=U (.dV o u)
theorem UX(vs:List ar):E3 {cls:=.type "list",data:=.seq vs.toArray}=U (.dV {cls:=.type "list",data:=.seq vs.toArray} (.lst (vs.map toV))):=by show(if(r1 "list"==r1 "list")=ah then U (dE.dV {cls:=.type "list",data:=.seq vs.toArray} (.lst (vs.toArray.toList.map toV)))else U (dE.dV {cls:=.type "list",data:=.seq vs.toArray} (.tup (vs.toArray.toList.map toV))))=_;rw[art (beq_self_eq_true _)]
theorem UY(vs:List ar):E3 {cls:=.type "tuple",data:=.seq vs.toArray}=U (.dV {cls:=.type "tuple",data:=.seq vs.toArray} (.tup (vs.map toV))):=by show(if(r1 "tuple"==r1 "list")=ah then U (dE.dV {cls:=.type "tuple",data:=.seq vs.toArray} (.lst (vs.toArray.toList.map toV)))else U (dE.dV {cls:=.type "tuple",data:=.seq vs.toArray} (.tup (vs.toArray.toList.map toV))))=_;rw[ars a5]
section
variable{P:b6}{w:bX}{K:PySem.W.Frag}{h:Heap}{A:List Addr}
theorem D3{b:Addr}{o:Obj}(ak:b∈A)(aH:K.lookup b=af)(e:h.get? b=U o):jP K h A b=E3 o:=by unfold jP;rw[art ak,aH,art (show(af:Option Obj).isNone=ah from I),e]<;>rfl
theorem akm{b:Addr}{u:dE}(q:jP K h A b=U u):b∈A/\K.lookup b=af:=by
 unfold jP at q;by_cases ak:b∈A
 ·rw[art ak]at q;cases aH:K.lookup b with
  |none=>exact⟨ak,I⟩
  |some o=>rw[aH,ars bl]at q;cases q
 ·rw[ars ak]at q;cases q
theorem D4(ib:∀a∈A,nU h A a){b:Addr}{u:dE}(q:jP K h A b=U u):K.lookup b=af/\∃vs:List ar,vs.length<=sizeLine/\(∀u∈vs,mZ A u)/\((h.get? b=U {cls:=.type "list",data:=.seq vs.toArray}/\u=.dV {cls:=.type "list",data:=.seq vs.toArray} (.lst (vs.map toV)))\/(h.get? b=U {cls:=.type "tuple",data:=.seq vs.toArray}/\u=.dV {cls:=.type "tuple",data:=.seq vs.toArray} (.tup (vs.map toV)))):=by
 obtain⟨ak,aH⟩:=akm q;obtain⟨vs,ag,ai,aN⟩:=ib b ak;refine⟨aH,vs,ag,ai,?_⟩;rcases aN with e|e
 ·rw[D3 ak aH e,UX]at q;exact .inl ⟨e,(bS q).symm⟩
 ·rw[D3 ak aH e,UY]at q;exact .inr ⟨e,(bS q).symm⟩
theorem acT(ib:∀a∈A,nU h A a):AV (jP K h A):=λb=>by
 cases q:jP K h A b with
 |none=>exact .inl I
 |some u=>
  obtain⟨_,vs,_,_,⟨_,e⟩|⟨_,e⟩⟩:=D4 ib q
  ·exact .inr ⟨_,_,by rw[e]⟩
  ·exact .inr ⟨_,_,by rw[e]⟩
theorem acS(ib:∀a∈A,nU h A a):fI P w (jP K h A) h:=λb u q=>by
 obtain⟨_,vs,ag,ai,⟨e,rfl⟩|⟨e,rfl⟩⟩:=D4 ib q
 ·exact⟨e,by rw[aU];exact ag,vs,_,z_ ai,e⟩
 ·exact⟨e,by rw[aU];exact ag,vs,z_ ai,_,e,I,_,I⟩
theorem GF{c cp:ar}{vs us:List ar}(e:(U {cls:=c,data:=.seq vs.toArray}:Option Obj)=U {cls:=cp,data:=.seq us.toArray}):c=cp/\vs=us:=by have aS:=bS e;have aQ:c=cp:=congrArg Obj.cls aS;have b0:HI vs.toArray=HI us.toArray:=congrArg Obj.data aS;injection b0 with eW;refine⟨aQ,?_⟩;have gT:=congrArg Z6 eW;simpa using gT
theorem acU(fJ:K.In h)(ib:∀a∈A,nU h A a){a:Addr}{vs:List ar}(ay:a∈A)(e:h.get? a=U {cls:=.type "list",data:=.seq vs.toArray}):(∀u∈vs,mZ A u)/\aI K (jP K h A) a (vs.map toV):=by
 obtain⟨us,ag,ai,aN⟩:=ib a ay;have a4:us=vs:=by
  rcases aN with q|q
  ·rw[e]at q;exact(GF q).2.symm
  ·rw[e]at q;exact aro (abl (GF q).1) a5
 subst a4;refine⟨ai,?_⟩;cases aH:K.lookup a with
 |none=>exact .inl (.inr ⟨_,by rw[D3 ay aH e,UX]⟩)
 |some o=>have aQ:=fJ a o aH;rw[e]at aQ;obtain rfl:=bS aQ;exact .inr ⟨_,us.toArray,_,aH,I,I,I,by rw[fO];exact ag,by simpa using z_ ai⟩
theorem acV(fJ:K.In h)(ib:∀a∈A,nU h A a){a:Addr}{vs:List ar}(ay:a∈A)(e:h.get? a=U {cls:=.type "tuple",data:=.seq vs.toArray}):(∀u∈vs,mZ A u)/\eQ K (jP K h A) a (vs.map toV):=by
 obtain⟨us,ag,ai,aN⟩:=ib a ay;have a4:us=vs:=by
  rcases aN with q|q
  ·rw[e]at q;exact aro (abl (GF q).1) a5
  ·rw[e]at q;exact(GF q).2.symm
 subst a4;refine⟨ai,?_⟩;cases aH:K.lookup a with
 |none=>exact .inl (.inr ⟨_,by rw[D3 ay aH e,UY]⟩)
 |some o=>have aQ:=fJ a o aH;rw[e]at aQ;obtain rfl:=bS aQ;exact .inr ⟨_,us.toArray,_,aH,I,I,by rw[fO];exact ag,by simpa using z_ ai⟩
mutual
theorem adZ{Jg:rZ}(fJ:K.In h)(ib:∀a∈A,nU h A a):∀(d:hT)(v:ar),Ds Jg h v d->mL d=ah->mZ A v->iR K (jP K h A) (toV v) d
 | .none,_,x,_,_=>by cases x;exact .bZ
 | .bool b,_,x,_,_=>by cases x;exact .bB b
 | .int i,_,x,_,_=>by cases x;exact .int i
 | .str s,_,x,_,_=>by cases x;exact .str s
 | .bytes b,_,x,_,_=>by cases x;have z:=iR.kc (K:=K) (H:=jP K h A) b.toArray;exact z
 | .list ds,_,x,p,a4=>by obtain⟨a,vs,rfl,aA,jV⟩:=ZX x;obtain⟨ai,aP⟩:=acU fJ ib a4 aA;exact .lst aP (Em fJ ib ds _ jV p ai)
 | .tuple ds,_,x,p,a4=>by obtain⟨a,vs,rfl,aA,jV⟩:=ZY x;obtain⟨ai,aP⟩:=acV fJ ib a4 aA;exact .tup aP (Em fJ ib ds _ jV p ai)
 | .float _,_,_,p,_=>nJ (show aE=ah from p)
 | .dict _,_,_,p,_=>nJ (show aE=ah from p)
 | .bytearray _,_,_,p,_=>nJ (show aE=ah from p)
 | .set _,_,_,p,_=>nJ (show aE=ah from p)
 | .frozenset _,_,_,p,_=>nJ (show aE=ah from p)
 | .obj _ _,_,_,p,_=>nJ (show aE=ah from p)
theorem Em{Jg:rZ}(fJ:K.In h)(ib:∀a∈A,nU h A a):∀(ds:List hT)(vs:List ar),uc Jg h vs ds->oi ds=ah->(∀u∈vs,mZ A u)->nV K (jP K h A) (vs.map toV) ds
 |[],_,x,_,_=>by cases x;exact .nil
 |d::ds,_,x,p,a4=>by obtain⟨v,vs,rfl,x1,x2⟩:=ZW x;have q:mL d=ah/\oi ds=ah:=Z8.mp p;exact .cons (adZ fJ ib d v x1 q.1 (a4 _ (mT ..))) (Em fJ ib ds vs x2 q.2 λu m=>a4 u (j7 _ m))
end
end
theorem ano{P:b6}{w:bX}{K:PySem.W.Frag}{ap tm:Str->Option ar}{CX:mg}{k:Nat}{fa:Addr}{fd:jd}{ps:List Str}{sp:cx}{d7:aT}{vals:List ar}{ds:List hT}{R:PySem.W.WRecords}{cl:Str->Option Addr}{d0:hT}(fJ:K.In d7.heap)(UU:d7.heap.Ns k9 ap)(ak:d7.heap.Ns Ql tm)(agb:∀x:Str,x≠"__name__"->tm x=jD x)(agV:d7.heap.NoLimit)(bM:d7.gens=#[])(B5:uc w.params d7.heap vals ds)(f5:oi ds=ah)(ahT:∀d∈ds,d.weight<=1048576)(aL:de k Aw)(F:∀base:Heap,K.In base->base.Ns k9 ap->a0 P w K ap base CX k fa fd ps sp)(agc:∀(s:aT)(us:List ar),us.length=ps.length->Ao s fd ⟨us,[]⟩ (ps.zip us))(hlen:ds.length=ps.length)(mB:∀(H:ax)(xs:List V),AV H->nV K H xs ds->sp xs H (λv ae=>iR K ae v d0) λ_ _ _=>False)(Bu:∀H e s',CX [] H d7 (λ_ _ _=>False) e s'->False):oD (bO P w) Aw (.call (.ref fa) ⟨vals,[]⟩) (λr s'=>∃u as,r=.ok (.ret u)/\ReadsW R cl s'.heap u d0 as/\OldK d7.heap s'.heap/\s'.os=d7.os/\xv s'.gens) d7:=by
 obtain⟨A,aA,ib⟩:=D2 ds vals B5 f5 ahT;have lV:AV (jP K d7.heap A):=acT ib;have bo:fI P w (jP K d7.heap A) d7.heap:=acS ib;have d1:=Em fJ ib ds vals B5 f5 aA;have afY:=z_ aA;have fT:∀b u,jP K d7.heap A b=U u->K.lookup b=af:=λb u q=>(D4 ib q).1;have zJ:∀{b:Addr}{o:Obj}{es:Array mV}{ep:Nat},d7.heap.get? b=U o->o.data=.dict es ep->jP K d7.heap A b=af:=λ{b o es ep}e d=>by
  cases q:jP K d7.heap A b with
  |none=>rfl
  |some u=>
   obtain⟨_,vs,_,_,⟨aQ,_⟩|⟨aQ,_⟩⟩:=D4 ib q
   ·rw[aQ]at e;cases e;have d':HI vs.toArray _=aaZ es ep:=d;cases d'
   ·rw[aQ]at e;cases e;have d':HI vs.toArray _=aaZ es ep:=d;cases d'
 generalize jP K d7.heap A=H at lV bo d1 fT zJ;have Ri:∀{b:Addr}{o:Obj},d7.heap.get? b=U o->H b=af->(rj d7.heap H).get? b=U o:=λe n=>agF e n;have FR:∀{b:Addr}{m:Str->Option ar},d7.heap.Ns b m->(rj d7.heap H).Ns b m:=λ{b m}⟨o,es,ep,e,d,r⟩=>⟨o,es,ep,Ri e (zJ e d),d,r⟩;have ajz:∀b o,K.lookup b=U o->H b=af:=λb o e=>by
  cases q:H b with
  |none=>rfl
  |some u=>rw[fT b u q]at e;cases e
 have Up:K.In (rj d7.heap H):=λb o e=>Ri (fJ b o e) (ajz b o e);have afQ:Mod K ap (rj d7.heap H):=⟨Up,FR UU,⟨tm,FR ak,agb⟩,let⟨ajc,ag,ai⟩:=agV;⟨ajc,FR ag,ai⟩⟩;have cZ:pL P w K ap (rj d7.heap H) Aw [] d7 H:=⟨I,afQ,λb o e=>akn e,HC (agG _ _),trivial,λb ak=>aro (show b∈([]:List Addr)from ak) bl,bo,.of_eq bM⟩;have au:vals.length=ps.length:=by rw[Hb B5];exact hlen
 refine xA ((F _ Up (FR UU)).run Aw [] d7 H ⟨vals,[]⟩ vals (vals.map toV) _ _ aL cZ (agc d7 vals au) afY (mB H _ lV d1)) λr s' x=>?_;cases r with
 |error e=>exact(Bu H e s' x).elim
 |ok lS=>
  cases lS with
  |next=>exact iD x
  |brk=>exact iD x
  |cont=>exact iD x
  |ret u=>
   obtain⟨v,ae,os,bare,un,U0,r',q⟩:=x;have kept:∀b o,d7.heap.get? b=U o->s'.heap.get? b=U o:=λb o e=>by
    cases bc:H b with
    |none=>exact un.keep b o e bc (by intro z;exact aro (show b∈([]:List Addr)from z) bl) bl
    |some iB=>
     rcases lV b with z|⟨ob,G8,z⟩
     ·rw[bc]at z;cases z
     ·have kJ:=un.lU b ob _ z;obtain⟨aS,_⟩:=bo b _ z;obtain⟨aQ,_⟩:=U0 b _ kJ;rw[e]at aS;cases aS;exact aQ
   have acB:K.In s'.heap:=λb o e=>kept b o (fJ b o e);obtain⟨as,U5⟩:=iR.reads (R:=R) (cl:=cl) U0 acB d0 v u q r';exact⟨u,as,I,U5,OldK.of_keep kept,os,bare⟩
theorem aiN{ds:List hT}(h:WData.layableAll ds=ah):∀d∈ds,d.weight<=1048576:=λd hd=>(PySem.W.layableW_iff.mp (jA.mp h d hd)).2.2
theorem Sd:∀(cs:List Codec)(a:HO cs),(Au cs a).length=cs.length
 |[],_=>rfl
 |c::cs,a=>by show(Au cs a.2).length+1=cs.length+1;rw[Sd cs a.2]
theorem aoL{r:OpenSpec}{k:Nat}{q:b6}{loose:List Str}{Jk:(Str->Option ar)->Heap->Prop}{uO:bX->Heap->Prop}{d:DefRec}{K:rZ->PySem.W.Frag}{CX:bX->mg}{ps:List Str}{sp:bX->cx}(Lv:r.wellSaid=ah)(UB:d.params.defaults=[])(hlen:r.args.length=ps.length)(aL:de k Aw)(KQ:∀(w:bX)(h:Heap),uO w h->(K w.params).In h)(F:∀(w:bX)(ap:Str->Option ar)(fa:Addr)(h:Heap),uO w h->(K w.params).In h->h.Ns k9 ap->ap d.name=U (.ref fa)->∃fd:jd,(∀(s:aT)(us:List ar),us.length=ps.length->Ao s fd ⟨us,[]⟩ (ps.zip us))/\∀base:Heap,(K w.params).In base->base.Ns k9 ap->a0 r.prog w (K w.params) ap base (CX w) k fa fd ps (sp w))(mB:∀(w:bX)(H:ax)(xs:List V)(a:HO r.args),AV H->abm r.args a=ah->Dr r.args r.asked a=ah->nV (K w.params) H xs (Au r.args a)->sp w xs H (λv ae=>iR (K w.params) ae v (r.ret.enc (Dr r.args r.f a))) λ_ _ _=>False)(Bu:∀(w:bX)(H:ax)(s:aT)(e:ar)(s':aT),CX w [] H s (λ_ _ _=>False) e s'->False):PySem.W.WalkOS q loose Jk uO r d [] (λf vs=>PySem.call f vs):=by intro w jv d7 ap tm G Y fa o pm cd doc JW cc aA hd p7 cg BN bM args vals as ahp agR U5 B5 aqJ;obtain⟨a,aS,aQ⟩:=PySem.W.os_pre_some ahp;obtain⟨b0,Fe⟩:=Codec.encAll_of_decAll r.args args a aS;subst b0;have fJ:=KQ w _ Y;obtain⟨fd,ak,jn⟩:=F w ap fa _ Y fJ G.T.g BN;refine PySem.W.enter_call (xA (ano (R:=[]) (cl:=classAt jv.heap) (d0:=r.ret.enc (Dr r.args r.f a)) fJ G.T.g G.T.b G.T.builtins G.T.nolimit bM B5 (W9 _ _) (aiN agR) aL jn ak (by rw[Sd];exact hlen) (λH xs lV d1=>mB w H xs a lV Fe aQ d1) λH e s'=>Bu w H d7 e s') λr' s' aK=>?_);obtain⟨u,acW,rfl,ag,ai,aN,bD⟩:=aK;exact⟨.inl ⟨u,_,acW,I,λ_=>I,ag,(OpenSpec.post_iff Lv Fe _ _).mpr I,λz=>nJ (show aE=ah from z)⟩,ai,aN,bD⟩
theorem aoM{r:OpenSpec}{k:Nat}{q:b6}{loose:List Str}{Jk:(Str->Option ar)->Heap->Prop}{uO:bX->Heap->Prop}{d:DefRec}{K:rZ->PySem.W.Frag}{CX:mg}{ps:List Str}{sp:PySem.W.Frag->cx}(Lv:r.wellSaid=ah)(UB:d.params.defaults=[])(hlen:r.args.length=ps.length)(aL:de k Aw)(KQ:∀(w:bX)(h:Heap),uO w h->(K w.params).In h)(F:∀(w:bX)(ap:Str->Option ar)(fa:Addr)(h:Heap),uO w h->(K w.params).In h->h.Ns k9 ap->ap d.name=U (.ref fa)->∃fd:jd,(∀(s:aT)(us:List ar),us.length=ps.length->Ao s fd ⟨us,[]⟩ (ps.zip us))/\∀base:Heap,(K w.params).In base->base.Ns k9 ap->a0 r.prog w (K w.params) ap base CX k fa fd ps (sp (K w.params)))(mB:∀(K:PySem.W.Frag)(H:ax)(xs:List V)(a:HO r.args),AV H->abm r.args a=ah->Dr r.args r.asked a=ah->nV K H xs (Au r.args a)->sp K xs H (λv ae=>iR K ae v (r.ret.enc (Dr r.args r.f a))) λ_ _ _=>False)(Bu:∀(H:ax)(s:aT)(e:ar)(s':aT),CX [] H s (λ_ _ _=>False) e s'->False):PySem.W.WalkOS q loose Jk uO r d [] (λf vs=>PySem.call f vs):=aoL (K:=K) (CX:=λ_=>CX) (sp:=λw=>sp (K w.params)) Lv UB hlen aL KQ F (λw H xs a ag ai aN bD=>mB (K w.params) H xs a ag ai aN bD) λ_ H s e s'=>Bu H s e s'
end bL
end
namespace G
open Vaneta (Formula Text Name Token isName isWord isSmall level dual two isTwo isSign tokensFrom OPEN)
inductive cL where
 |turn|gy|bin (c:UInt8) (A:Formula)|arr (A:Formula)
def mM:List cL->Formula->List cL×Formula
 | .turn::s,A=>mM s (dg A)
 |s,A=>(s,A)
def gH:List cL->Formula->List cL×Formula
 | .bin c A::s,P=>gH s (two c A P)
 |s,P=>(s,P)
def oj:List cL->Formula->List cL×Formula
 | .arr A::s,P=>oj s (.par (dg A) P)
 |s,P=>(s,P)
abbrev Cfg:=List cL×Option Formula
def put(s:List cL)(e:cL):Option Cfg:=if s.length+1<=100 then U (e::s,af)else af
def p0(s:List cL)(A:Formula):Cfg:=((mM s A).1,U (mM s A).2)
def fZ(s:List cL)(P:Formula):List cL×Formula:=oj (gH s P).1 (gH s P).2
def oQ:List cL->UInt8->Bool
 | .bin cp _::_,c=>cp !=c
 |_,_=>aE
def h3:Cfg->g4->Option Cfg
 |(s,af),.sign c=>if c=126 then put s .turn else if c=40 then put s .gy else af
 |(s,af),.name a=>U (p0 s (.atom aE a))
 |(_,af),.arrow=>af
 |(s,U P),.sign c=>
  if c=42\/c=124 then(if oQ s c=ah then af else put s (.bin c P))else if c=41 then(match(fZ s P).1 with
   | .gy::s'=>U (p0 s' (fZ s P).2)
   |_=>af)
  else af
 |(s,U P),.arrow=>put (gH s P).1 (.arr (gH s P).2)
 |(_,U _),.name _=>af
def fin:Cfg->Option Formula
 |(_,af)=>af
 |(s,U P)=>match(fZ s P).1 with
  |[]=>U (fZ s P).2
  |_=>af
def res:Cfg->List g4->Option Formula
 |c,[]=>fin c
 |c,t::r=>(h3 c t).bind λcp=>res cp r
def oZ(c:UInt8):Prop:=c=126\/c=42\/c=124\/c=40\/c=41
def kj:g4->Prop
 | .sign c=>oZ c
 | .name a=>gb a=ah
 | .arrow=>True
def kl:List g4->Bool
 | .sign c::_=>nR c
 |_=>aE
def n4:List g4->Bool
 | .arrow::_=>ah
 |_=>aE
def nb:List cL->Prop
 | .bin _ _::_=>False
 |_=>True
def ql:List cL->Prop
 | .turn::_=>False
 |_=>True
theorem Ki{s:List cL}(h:nb s)(P:Formula):gH s P=(s,P):=by
 match s,h with
 |[],_=>rfl
 | .turn::_,_=>rfl
 | .gy::_,_=>rfl
 | .arr _::_,_=>rfl
theorem Xb{s:List cL}(h:ql s)(P:Formula):mM s P=(s,P):=by
 match s,h with
 |[],_=>rfl
 | .bin _ _::_,_=>rfl
 | .gy::_,_=>rfl
 | .arr _::_,_=>rfl
theorem Pu{c:UInt8}(h:oZ c):nR c=ah↔(c=42\/c=124):=by rcases h with rfl|rfl|rfl|rfl|rfl<;>decide
theorem aeJ{c:UInt8}{A P:Formula}{s:List cL}{r:List g4}(bM:∀t∈r,kj t)(h:kl r=aE):res (.bin c A::s,U P) r=res (s,U (two c A P)) r:=by
 match r,bM,h with
 |[],_,_=>rfl
 | .arrow::r,_,_=>rfl
 | .name a::r,_,_=>rfl
 | .sign cp::r,bM,h=>
  have g:oZ cp:=bM _ (eB _);have n:¬(cp=42\/cp=124):=λq=>by have:=(Pu g).mpr q;rw[show kl (xK cp::r)=nR cp from I]at h;rw[h]at this;cases this
  show(h3 (.bin c A::s,U P) (.sign cp)).bind _=(h3 (s,U (two c A P)) (.sign cp)).bind _;have e:h3 (.bin c A::s,U P) (.sign cp)=h3 (s,U (two c A P)) (.sign cp):=by show(if cp=42\/cp=124 then _ else _)=(if cp=42\/cp=124 then _ else _);rw[ars n,ars n];rfl
  rw[e]
theorem aeI{A P:Formula}{s:List cL}{r:List g4}(bM:∀t∈r,kj t)(h:kl r=aE)(ai:n4 r=aE)(aP:nb s):res (.arr A::s,U P) r=res (s,U (.par (dg A) P)) r:=by
 have cZ:fZ (.arr A::s) P=fZ s (.par (dg A) P):=by show oj s (.par (dg A) P)=oj (gH s (.par (dg A) P)).1 (gH s (.par (dg A) P)).2;rw[Ki aP]
 match r,bM,h,ai with
 |[],_,_,_=>show(match(fZ (.arr A::s) P).1 with|[]=>U (fZ (.arr A::s) P).2|_=>af)=_;rw[cZ];rfl
 | .arrow::r,_,_,ai=>cases ai
 | .name a::r,_,_,_=>rfl
 | .sign cp::r,bM,h,_=>
  have g:oZ cp:=bM _ (eB _);have n:¬(cp=42\/cp=124):=λq=>by have:=(Pu g).mpr q;rw[show kl (xK cp::r)=nR cp from I]at h;rw[h]at this;cases this
  show(h3 (.arr A::s,U P) (.sign cp)).bind _=(h3 (s,U (.par (dg A) P)) (.sign cp)).bind _;have e:h3 (.arr A::s,U P) (.sign cp)=h3 (s,U (.par (dg A) P)) (.sign cp):=by show(if cp=42\/cp=124 then _ else if cp=41 then(match(fZ (.arr A::s) P).1 with| .gy::s'=>U (p0 s' (fZ (.arr A::s) P).2)|_=>af)else af)=(if cp=42\/cp=124 then _ else _);rw[ars n,ars n,cZ]
  rw[e]
def out(k:Nat)(s:List cL)(o:Option (Formula×List g4)):Option Formula:=match o with
 |none=>af
 |some x=>if k=2 then res (p0 s x.1) x.2 else if kl x.2=ah\/(k=0/\n4 x.2=ah)then af else res (s,U x.1) x.2
def Top(k:Nat)(sign:UInt8)(s:List cL):Prop:=k=2\/(ql s/\(sign=0/\nb s\/(k=1/\(sign=42\/sign=124)/\∃A s',s=.bin sign A::s')))
def nX(br:List g4)(o:Option (Formula×List g4)):Prop:=∀x,o=U x->(∀t∈x.2,t∈br)/\x.2.length<br.length
theorem Gd{s:List cL}(e:cL)(h:s.length<jE):put s e=U (e::s,af):=art h
theorem Gc{s:List cL}(e:cL)(h:¬s.length<jE):put s e=af:=ars h
theorem sim(f:Nat):∀(k:Nat)(sign:UInt8)(s:List cL)(br:List g4),3*br.length+3<=f+k->k<=2->(∀t∈br,kj t)->Top k sign s->nX br (dA f k sign s.length br)/\res (s,af) br=out k s (dA f k sign s.length br):=by
 induction f with
 |zero=>intro k sign s br h aH;omega
 |succ f ih=>
  intro k sign s br hf aH bM B1;match k,aH,B1 with
  |2,_,_=>
   have e:dA (f+1) 2 sign s.length br=(match(generalizing:=false) br with
    | .name a::r=>U (.atom aE a,r)
    | .sign c::r=>
     if s.length<jE then
      (if c=126 then(dA f 2 0 (s.length+1) r).map λy=>(dg y.1,y.2)else if c=33 then(dA f 2 0 (s.length+1) r).map λy=>(.ofc y.1,y.2)else if c=63 then(dA f 2 0 (s.length+1) r).map λy=>(.whn y.1,y.2)else if c=40 then(dA f 0 0 (s.length+1) r).bind λy=>(match y.2 with
       | .sign 41::s=>U (y.1,s)
       |_=>af)else af)
     else af
    |_=>af):=rfl
   rw[e];match br,hf,bM with
   |[],_,_=>exact⟨(λx ao=>nomatch ao),I⟩
   | .arrow::r,_,_=>exact⟨(λx ao=>nomatch ao),I⟩
   | .name a::r,_,_=>refine⟨λx ao=>?_,I⟩;cases ao;exact⟨λt bV=>fe _ bV,t9 _⟩
   | .sign c::r,hf,bM=>
    have K9:∀t∈r,kj t:=λt bV=>bM t (fe _ bV);have au:(xK c::r).length=r.length+1:=rfl;have g:oZ c:=bM _ (eB _);by_cases hd:s.length<jE
    ·dsimp only;rw[art hd];rcases g with rfl|rfl|rfl|rfl|rfl
     ·obtain⟨ci,cU⟩:=ih 2 0 (.turn::s) r aG aG K9 (.inl I);rw[art I];have aQ:res (s,af) (.sign 126::r)=res (.turn::s,af) r:=by show(put s .turn).bind _=_;rw[Gd _ hd];rfl
      rw[aQ,cU];show nX _ ((dA f 2 0 (s.length+1) r).map λy=>(dg y.1,y.2))/\out 2 (.turn::s) (dA f 2 0 (s.length+1) r)=_;have n_:nX r (dA f 2 0 (s.length+1) r):=ci;revert n_;cases dA f 2 0 (s.length+1) r with
      |none=>intro _;exact⟨(λx ao=>nomatch ao),I⟩
      |some y=>intro n_;refine⟨λx ao=>?_,I⟩;cases ao;exact⟨λt bV=>fe _ ((n_ y I).1 t bV),Ak (n_ y I).2⟩
     ·exact⟨(λx ao=>nomatch ao),I⟩
     ·exact⟨(λx ao=>nomatch ao),I⟩
     ·obtain⟨ci,cU⟩:=ih 0 0 (.gy::s) r aG aG K9 (.inr ⟨trivial,.inl ⟨I,trivial⟩⟩);rw[ars a5,ars a5,ars a5,art I];have aQ:res (s,af) (.sign 40::r)=res (.gy::s,af) r:=by show(put s .gy).bind _=_;rw[Gd _ hd];rfl
      rw[aQ,cU];have n_:nX r (dA f 0 0 (s.length+1) r):=ci;show nX _ ((dA f 0 0 (s.length+1) r).bind _)/\out 0 (.gy::s) (dA f 0 0 (s.length+1) r)=out 2 s ((dA f 0 0 (s.length+1) r).bind _);revert n_;cases dA f 0 0 (s.length+1) r with
      |none=>intro _;exact⟨(λx ao=>nomatch ao),I⟩
      |some y=>
       intro n_;obtain⟨dP,eE⟩:=n_ y I;obtain⟨A,q⟩:=y;match q,dP,eE with
       |[],dP,eE=>exact⟨(λx ao=>nomatch ao),I⟩
       | .arrow::q,dP,eE=>exact⟨(λx ao=>nomatch ao),I⟩
       | .name a::q,dP,eE=>exact⟨(λx ao=>nomatch ao),I⟩
       | .sign cp::q,dP,eE=>
        have g':oZ cp:=K9 _ (dP _ (eB _));rcases g' with rfl|rfl|rfl|rfl|rfl
        ·exact⟨(λx ao=>nomatch ao),I⟩
        ·exact⟨(λx ao=>nomatch ao),I⟩
        ·exact⟨(λx ao=>nomatch ao),I⟩
        ·exact⟨(λx ao=>nomatch ao),I⟩
        ·refine⟨λx ao=>?_,I⟩;cases ao;exact⟨λt bV=>fe _ (dP t (fe _ bV)),by have:q.length+1<r.length:=eE;show q.length<r.length+1;omega⟩
     ·exact⟨(λx ao=>nomatch ao),I⟩
    ·dsimp only;rw[ars hd];refine⟨(λx ao=>nomatch ao),?_⟩;show(h3 (s,af) (.sign c)).bind _=af;have:h3 (s,af) (.sign c)=af:=by
      show(if c=126 then put s .turn else if c=40 then put s .gy else af)=af;rw[Gc _ hd,Gc _ hd];by_cases ag:c=126
      ·rw[art ag]
      ·rw[ars ag];by_cases ai:c=40
       ·rw[art ai]
       ·rw[ars ai]
     rw[this];rfl
  |1,_,B1=>
   obtain⟨BR,Va⟩:ql s/\(sign=0/\nb s\/(sign=42\/sign=124)/\∃A s',s=.bin sign A::s'):=by
    rcases B1 with h|⟨ag,ai⟩
    ·cases h
    ·exact⟨ag,ai.imp id λq=>q.2⟩
   have e:dA (f+1) 1 sign s.length br=(dA f 2 0 s.length br).bind λx=>match x.2 with
    | .sign c::r=>if nR c=ah/\(sign=0\/sign=c)then(if s.length<jE then(dA f 1 c (s.length+1) r).map λy=>(two c x.1 y.1,y.2)else af)else U x
    |_=>U x:=rfl
   rw[e];obtain⟨ci,cU⟩:=ih 2 0 s br aG aG bM (.inl I);rw[cU];revert ci;cases dA f 2 0 s.length br with
   |none=>intro _;exact⟨(λx ao=>nomatch ao),I⟩
   |some x=>
    intro ci;obtain⟨dP,eE⟩:=ci x I;obtain⟨A,q⟩:=x;have b0:out 2 s (U (A,q))=res (s,U A) q:=by show res (p0 s A) q=_;unfold p0;rw[Xb BR]
    rw[b0];dsimp only at dP eE;have rh:∀t∈q,kj t:=λt bV=>bM t (dP t bV);match q,dP,eE,rh with
    |[],dP,eE,_=>refine⟨λx ao=>?_,I⟩;cases ao;exact⟨dP,eE⟩
    | .arrow::q,dP,eE,_=>refine⟨λx ao=>?_,I⟩;cases ao;exact⟨dP,eE⟩
    | .name a::q,dP,eE,_=>refine⟨λx ao=>?_,I⟩;cases ao;exact⟨dP,eE⟩
    | .sign c::q,dP,eE,rh=>
     have g:oZ c:=rh _ (eB _);have BL:∀t∈q,kj t:=λt bV=>rh t (fe _ bV);have air:q.length+1<br.length:=eE;show nX br (if nR c=ah/\(sign=0\/sign=c)then(if s.length<jE then(dA f 1 c (s.length+1) q).map λy=>(two c A y.1,y.2)else af)else U (A,.sign c::q))/\_=out 1 s (if nR c=ah/\(sign=0\/sign=c)then(if s.length<jE then(dA f 1 c (s.length+1) q).map λy=>(two c A y.1,y.2)else af)else U (A,.sign c::q));by_cases ai:nR c=ah
     ·have aF:=(Pu g).mp ai;by_cases aP:sign=0\/sign=c
      ·rw[art ⟨ai,aP⟩];have Wb:oQ s c=aE:=by
        rcases Va with⟨_,aC⟩|⟨sS,cV,s',rfl⟩
        ·match s,aC with
         |[],_=>rfl
         | .turn::_,_=>rfl
         | .gy::_,_=>rfl
         | .arr _::_,_=>rfl
        ·show(sign !=c)=aE;rcases aP with rfl|rfl
         ·rcases sS with h|h<;>exact aro h a5
         ·simp
       by_cases hd:s.length<jE
       ·rw[art hd];have eW:res (s,U A) (.sign c::q)=res (.bin c A::s,af) q:=by show(if c=42\/c=124 then(if oQ s c=ah then af else put s (.bin c A))else _).bind _=_;rw[art aF,Wb,ars a5,Gd _ hd];rfl
        rw[eW];obtain⟨co,fD⟩:=ih 1 c (.bin c A::s) q aG aG BL (.inr ⟨trivial,.inr ⟨I,aF,A,s,I⟩⟩);rw[fD];have wz:nX q (dA f 1 c (s.length+1) q):=co;show nX br ((dA f 1 c (s.length+1) q).map _)/\out 1 (.bin c A::s) (dA f 1 c (s.length+1) q)=out 1 s ((dA f 1 c (s.length+1) q).map _);revert wz;cases dA f 1 c (s.length+1) q with
        |none=>intro _;exact⟨(λx ao=>nomatch ao),I⟩
        |some y=>
         intro wz;obtain⟨eK,fi⟩:=wz y I;constructor
         ·intro x ao;cases ao;exact⟨λt bV=>dP t (fe _ (eK t bV)),by show y.2.length<_;omega⟩
         ·show(if kl y.2=ah\/(1=0/\n4 y.2=ah)then af else res (.bin c A::s,U y.1) y.2)=(if kl y.2=ah\/(1=0/\n4 y.2=ah)then af else res (s,U (two c A y.1)) y.2);by_cases bV:kl y.2=ah
          ·rw[art (.inl bV),art (.inl bV)]
          ·have aC:¬(kl y.2=ah\/(1=0/\n4 y.2=ah)):=λq=>q.elim bV λz=>aro z.1 a5;rw[ars aC,ars aC];exact aeJ (λt bV=>BL t (eK t bV)) (by simpa using bV)
       ·rw[ars hd];refine⟨(λx ao=>nomatch ao),?_⟩;show(if c=42\/c=124 then(if oQ s c=ah then af else put s (.bin c A))else _).bind _=af;rw[art aF,Wb,ars a5,Gc _ hd];rfl
      ·rw[ars (λz=>aP z.2)];constructor
       ·intro x ao;cases ao;exact⟨dP,eE⟩
       ·have gT:out 1 s (U (A,.sign c::q))=af:=by show(if kl (.sign c::q)=ah\/_ then af else _)=af;rw[art (.inl ai)]
        rw[gT];have cl:oQ s c=ah:=by
         rcases Va with⟨h0,_⟩|⟨sS,cV,s',rfl⟩
         ·exact aro (.inl h0) aP
         ·show(sign !=c)=ah;simp;exactλz=>aP (.inr z)
        show(if c=42\/c=124 then(if oQ s c=ah then af else put s (.bin c A))else _).bind _=af;rw[art aF,art cl];rfl
     ·rw[ars (λz=>ai z.1)];constructor
      ·intro x ao;cases ao;exact⟨dP,eE⟩
      ·show _=(if kl (.sign c::q)=ah\/(1=0/\n4 (.sign c::q)=ah)then af else res (s,U A) (.sign c::q));rw[ars (λz=>z.elim ai λy=>aro y.1 a5)]
  |0,_,B1=>
   obtain⟨BR,a9,BP⟩:ql s/\sign=0/\nb s:=by
    rcases B1 with h|⟨ag,ai⟩
    ·cases h
    ·rcases ai with ai|ai
     ·exact⟨ag,ai⟩
     ·exact aro ai.1 a5
   have e:dA (f+1) 0 sign s.length br=(dA f 1 0 s.length br).bind λx=>match x.2 with
    | .arrow::r=>if s.length<jE then(dA f 0 0 (s.length+1) r).map λy=>(.par (dg x.1) y.1,y.2)else af
    |_=>U x:=rfl
   rw[e];obtain⟨ci,cU⟩:=ih 1 0 s br aG aG bM (.inr ⟨BR,.inl ⟨I,BP⟩⟩);rw[cU];revert ci;cases dA f 1 0 s.length br with
   |none=>intro _;exact⟨(λx ao=>nomatch ao),I⟩
   |some x=>
    intro ci;obtain⟨dP,eE⟩:=ci x I;obtain⟨A,q⟩:=x;dsimp only at dP eE;have rh:∀t∈q,kj t:=λt bV=>bM t (dP t bV);match q,dP,eE,rh with
    |[],dP,eE,_=>refine⟨λx ao=>?_,I⟩;cases ao;exact⟨dP,eE⟩
    | .name a::q,dP,eE,_=>refine⟨λx ao=>?_,I⟩;cases ao;exact⟨dP,eE⟩
    | .sign c::q,dP,eE,rh=>
     constructor
     ·intro x ao;cases ao;exact⟨dP,eE⟩
     ·show(if kl (.sign c::q)=ah\/(1=0/\n4 (.sign c::q)=ah)then af else res (s,U A) (.sign c::q))=(if kl (.sign c::q)=ah\/(0=0/\n4 (.sign c::q)=ah)then af else res (s,U A) (.sign c::q));by_cases bV:kl (.sign c::q)=ah
      ·rw[art (.inl bV),art (.inl bV)]
      ·rw[ars (λz=>z.elim bV λy=>aro y.1 a5),ars (λz=>z.elim bV λy=>nomatch y.2)]
    | .arrow::q,dP,eE,rh=>
     have BL:∀t∈q,kj t:=λt bV=>rh t (fe _ bV);have air:q.length+1<br.length:=eE;show nX br (if s.length<jE then(dA f 0 0 (s.length+1) q).map λy=>(.par (dg A) y.1,y.2)else af)/\res (s,U A) (.arrow::q)=out 0 s (if s.length<jE then(dA f 0 0 (s.length+1) q).map λy=>(.par (dg A) y.1,y.2)else af);have eW:res (s,U A) (.arrow::q)=(put s (.arr A)).bind λcp=>res cp q:=by show(put (gH s A).1 (.arr (gH s A).2)).bind _=_;rw[Ki BP]
     rw[eW];by_cases hd:s.length<jE
     ·rw[art hd,Gd _ hd];obtain⟨co,fD⟩:=ih 0 0 (.arr A::s) q aG aG BL (.inr ⟨trivial,.inl ⟨I,trivial⟩⟩);show _/\res (.arr A::s,af) q=_;rw[fD];have wz:nX q (dA f 0 0 (s.length+1) q):=co;show nX br ((dA f 0 0 (s.length+1) q).map _)/\out 0 (.arr A::s) (dA f 0 0 (s.length+1) q)=out 0 s ((dA f 0 0 (s.length+1) q).map _);revert wz;cases dA f 0 0 (s.length+1) q with
      |none=>intro _;exact⟨(λx ao=>nomatch ao),I⟩
      |some y=>
       intro wz;obtain⟨eK,fi⟩:=wz y I;constructor
       ·intro x ao;cases ao;exact⟨λt bV=>dP t (fe _ (eK t bV)),by show y.2.length<_;omega⟩
       ·show(if kl y.2=ah\/(0=0/\n4 y.2=ah)then af else res (.arr A::s,U y.1) y.2)=(if kl y.2=ah\/(0=0/\n4 y.2=ah)then af else res (s,U (.par (dg A) y.1)) y.2);by_cases bV:kl y.2=ah\/(0=0/\n4 y.2=ah)
        ·rw[art bV,art bV]
        ·rw[ars bV,ars bV];exact aeI (λt bV=>BL t (eK t bV)) (by
          cases d4:kl y.2 with
          |false=>rfl
          |true=>exact aro (.inl d4) bV) (by
          cases d4:n4 y.2 with
          |false=>rfl
          |true=>exact aro (.inr ⟨I,d4⟩) bV) BP
     ·rw[ars hd,Gc _ hd];exact⟨(λx ao=>nomatch ao),I⟩
theorem ams{br:List g4}(bM:∀t∈br,kj t):res ([],af) br=ul br:=by
 obtain⟨ci,cU⟩:=sim (4*(br.length+1)) 0 0 [] br aG aG bM (.inr ⟨trivial,.inl ⟨I,trivial⟩⟩);rw[cU];unfold ul;show out 0 [] (dA (4*(br.length+1)) 0 0 0 br)=_;have n_:nX br (dA (4*(br.length+1)) 0 0 0 br):=ci;revert n_;cases dA (4*(br.length+1)) 0 0 0 br with
 |none=>intro _;rfl
 |some x=>
  intro n_;obtain⟨dP,eE⟩:=n_ x I;obtain⟨A,q⟩:=x;match q,dP with
  |[],_=>rfl
  | .arrow::q,_=>rfl
  | .name a::q,_=>rfl
  | .sign c::q,dP=>have g:oZ c:=bM _ (dP _ (eB _));rcases g with rfl|rfl|rfl|rfl|rfl<;>rfl
end G
namespace G
open Vaneta (Formula Text Name Token isName isWord isSmall level dual two isTwo isSign tokensFrom OPEN)
open Vanetm (tensorNames recipeOf)
def gV:Formula->Bool
 | .atom _ _=>aE
 | .tensor A B=>gV A||gV B
 | .par A B=>gV A||gV B
 |_=>ah
def fK:g4->Bool
 | .sign c=>c==38||(c==43||(c==33||c==63))
 |_=>aE
theorem wg:∀A:Formula,gV (dg A)=gV A
 | .atom _ _=>rfl
 | .tensor A B=>by show(gV (dg A)||gV (dg B))=_;rw[wg A,wg B];rfl
 | .par A B=>by show(gV (dg A)||gV (dg B))=_;rw[wg A,wg B];rfl
 | .wth _ _=>rfl
 | .plus _ _=>rfl
 | .ofc _=>rfl
 | .whn _=>rfl
theorem G0:∀A:Formula,gV A=ah->fy A=af
 | .atom _ _,h=>by cases h
 | .tensor A B,h=>by
  have h:(gV A||gV B)=ah:=h;show(fy A).bind (λl=>(fy B).map λr=>l++r)=af;rcases C_.mp h with q|q
  ·rw[G0 A q];rfl
  ·rw[G0 B q];cases fy A<;>rfl
 | .par _ _,_=>rfl
 | .wth _ _,_=>rfl
 | .plus _ _,_=>rfl
 | .ofc _,_=>rfl
 | .whn _,_=>rfl
theorem aml:∀A:Formula,gV A=ah->recipeOf A=af
 | .atom _ _,h=>by cases h
 | .tensor A B,h=>rfl
 | .par A B,h=>by
  have h:(gV A||gV B)=ah:=h;show(fy (dg A)).bind (λl=>(fy B).map λr=>(⟨l,r⟩:jG))=af;rcases C_.mp h with q|q
  ·rw[G0 (dg A) (by rw[wg];exact q)];rfl
  ·rw[G0 B q];cases fy (dg A)<;>rfl
 | .wth _ _,_=>rfl
 | .plus _ _,_=>rfl
 | .ofc _,_=>rfl
 | .whn _,_=>rfl
theorem af9{c:UInt8}(h:nR c=ah)(A B:Formula):gV (two c A B)=(fK (.sign c)||(gV A||gV B)):=by
 have h':c=42\/c=124\/c=38\/c=43:=by unfold nR at h;simpa using h
 rcases h' with rfl|rfl|rfl|rfl<;>rfl
theorem aiT(f:Nat):∀(k:Nat)(sign:UInt8)(d:Nat)(br:List g4)(x:Formula×List g4),dA f k sign d br=U x->∃pre,br=pre++x.2/\gV x.1=pre.any fK:=by
 induction f with
 |zero=>intro k sign d br x h;cases h
 |succ f ih=>
  intro k sign d br x h;by_cases h0:k=0
  ·subst h0;have h:((dA f 1 0 d br).bind λx=>match x.2 with
    | .arrow::r=>if d<jE then(dA f 0 0 (d+1) r).map λy=>(ab3 (dg x.1) y.1,y.2)else af
    |_=>U x)=U x:=h
   cases e:dA f 1 0 d br with
   |none=>rw[e]at h;cases h
   |some y=>
    rw[e]at h;obtain⟨dK,a7,bc⟩:=ih 1 0 d br y e;obtain⟨A,r⟩:=y;match r,h,a7 with
    |[],h,a7=>cases h;exact⟨dK,a7,bc⟩
    | .name _::_,h,a7=>cases h;exact⟨dK,a7,bc⟩
    | .sign _::_,h,a7=>cases h;exact⟨dK,a7,bc⟩
    | .arrow::r,h,a7=>
     have h:(if d<jE then(dA f 0 0 (d+1) r).map λy=>(ab3 (dg A) y.1,y.2)else af)=U x:=h;by_cases hd:d<jE
     ·rw[art hd]at h;cases aQ:dA f 0 0 (d+1) r with
      |none=>rw[aQ]at h;cases h
      |some z=>
       rw[aQ]at h;cases h;obtain⟨dc,bK,cS⟩:=ih 0 0 (d+1) r z aQ;refine⟨dK++.arrow::dc,?_,?_⟩
       ·show br=(dK++.arrow::dc)++z.2;rw[a7];show dK++.arrow::r=_;rw[bK];simp
       ·show(gV (dg A)||gV z.1)=_;rw[wg,Ae,cS,show gV A=dK.any fK from bc];rfl
     ·rw[ars hd]at h;cases h
  ·by_cases ag:k=1
   ·subst ag;have h:((dA f 2 0 d br).bind λx=>match x.2 with
     | .sign c::r=>if nR c=ah/\(sign=0\/sign=c)then(if d<jE then(dA f 1 c (d+1) r).map λy=>(two c x.1 y.1,y.2)else af)else U x
     |_=>U x)=U x:=h
    cases e:dA f 2 0 d br with
    |none=>rw[e]at h;cases h
    |some y=>
     rw[e]at h;obtain⟨dK,a7,bc⟩:=ih 2 0 d br y e;obtain⟨A,r⟩:=y;match r,h,a7 with
     |[],h,a7=>cases h;exact⟨dK,a7,bc⟩
     | .name _::_,h,a7=>cases h;exact⟨dK,a7,bc⟩
     | .arrow::_,h,a7=>cases h;exact⟨dK,a7,bc⟩
     | .sign c::r,h,a7=>
      have h:(if nR c=ah/\(sign=0\/sign=c)then(if d<jE then(dA f 1 c (d+1) r).map λy=>(two c A y.1,y.2)else af)else U (A,.sign c::r))=U x:=h;by_cases aF:nR c=ah/\(sign=0\/sign=c)
      ·rw[art aF]at h;by_cases hd:d<jE
       ·rw[art hd]at h;cases aQ:dA f 1 c (d+1) r with
        |none=>rw[aQ]at h;cases h
        |some z=>
         rw[aQ]at h;cases h;obtain⟨dc,bK,cS⟩:=ih 1 c (d+1) r z aQ;refine⟨dK++.sign c::dc,?_,?_⟩
         ·show br=(dK++.sign c::dc)++z.2;rw[a7];show dK++.sign c::r=_;rw[bK];simp
         ·show gV (two c A z.1)=_;rw[af9 aF.1,Ae,cS,show gV A=dK.any fK from bc];show(fK (.sign c)||(dK.any fK||dc.any fK))=(dK.any fK||(fK (.sign c)||dc.any fK));cases fK (.sign c)<;>cases dK.any fK<;>rfl
       ·rw[ars hd]at h;cases h
      ·rw[ars aF]at h;cases h;exact⟨dK,a7,bc⟩
   ·have h:(match(generalizing:=false) br with
     | .name a::r=>U (.atom aE a,r)
     | .sign c::r=>
      if d<jE then
       (if c=126 then(dA f 2 0 (d+1) r).map λy=>(dg y.1,y.2)else if c=33 then(dA f 2 0 (d+1) r).map λy=>(.ofc y.1,y.2)else if c=63 then(dA f 2 0 (d+1) r).map λy=>(.whn y.1,y.2)else if c=40 then(dA f 0 0 (d+1) r).bind λy=>(match y.2 with
        | .sign 41::s=>U (y.1,s)
        |_=>af)else af)
      else af
     |_=>af)=U x:=by
     have:dA (f+1) k sign d br=U x:=h;unfold dA at this;rw[ars h0,ars ag]at this;exact this
    match br,h with
    |[],h=>cases h
    | .arrow::_,h=>cases h
    | .name a::r,h=>cases h;exact⟨[.name a],I,I⟩
    | .sign c::r,h=>
     dsimp only at h;by_cases hd:d<jE
     ·rw[art hd]at h;by_cases cq:c=126
      ·subst cq;rw[art I]at h;cases aQ:dA f 2 0 (d+1) r with
       |none=>rw[aQ]at h;cases h
       |some z=>rw[aQ]at h;cases h;obtain⟨dc,bK,cS⟩:=ih 2 0 (d+1) r z aQ;exact⟨.sign 126::dc,by show _=.sign 126::(dc++z.2);rw[<-bK],by show gV (dg z.1)=dc.any fK;rw[wg,cS]⟩
      ·rw[ars cq]at h;by_cases cF:c=33
       ·subst cF;rw[art I]at h;cases aQ:dA f 2 0 (d+1) r with
        |none=>rw[aQ]at h;cases h
        |some z=>rw[aQ]at h;cases h;obtain⟨dc,bK,cS⟩:=ih 2 0 (d+1) r z aQ;exact⟨.sign 33::dc,by show _=.sign 33::(dc++z.2);rw[<-bK],I⟩
       ·rw[ars cF]at h;by_cases eV:c=63
        ·subst eV;rw[art I]at h;cases aQ:dA f 2 0 (d+1) r with
         |none=>rw[aQ]at h;cases h
         |some z=>rw[aQ]at h;cases h;obtain⟨dc,bK,cS⟩:=ih 2 0 (d+1) r z aQ;exact⟨.sign 63::dc,by show _=.sign 63::(dc++z.2);rw[<-bK],I⟩
        ·rw[ars eV]at h;by_cases iI:c=40
         ·subst iI;rw[art I]at h;cases aQ:dA f 0 0 (d+1) r with
          |none=>rw[aQ]at h;cases h
          |some z=>
           rw[aQ]at h;obtain⟨dc,bK,cS⟩:=ih 0 0 (d+1) r z aQ;obtain⟨A,q⟩:=z;have h:(match(generalizing:=false) q with| .sign 41::s=>U (A,s)|_=>af)=U x:=h;split at h
           ·rename_i s _;cases h;refine⟨.sign 40::(dc++[.sign 41]),?_,?_⟩
            ·show _=.sign 40::((dc++[.sign 41])++s);rw[bK];simp
            ·show gV A=((dc++[xK 41]).any fK);rw[Ae,show gV A=_ from cS];show _=(_||aE);rw[Hi]
           ·cases h
         ·rw[ars iI]at h;cases h
     ·rw[ars hd]at h;cases h
theorem aeO{br:List g4}{A:Formula}(h:ul br=U A):gV A=br.any fK:=by
 unfold ul at h;cases e:dA (4*(br.length+1)) 0 0 0 br with
 |none=>rw[e]at h;cases h
 |some x=>
  rw[e]at h;obtain⟨p,a7,bc⟩:=aiT _ _ _ _ _ _ e;obtain⟨B,r⟩:=x;match r,h,a7 with
  |[],h,a7=>cases h;have a7:br=p++[]:=a7;rw[a7,iP];exact bc
  |_::_,h,_=>cases h
theorem Vo{c:UInt8}(h:pI c=ah):oZ c\/fK (.sign c)=ah:=by unfold pI at h;simp at h;rcases h with rfl|rfl|rfl|rfl|rfl|rfl|rfl|rfl|rfl;all_goals first|exact .inr I|(left;unfold oZ;decide)
theorem aoj(f:Nat):∀(t:dT)(br:List g4),hc f t=U br->∀k∈br,kj k\/fK k=ah:=by
 induction f with
 |zero=>intro t br h;cases h
 |succ f ih=>
  intro t br h;match t,h with
  |[],h=>cases h;intro k aH;cases aH
  |c::r,h=>
   have h:(if c=32 then hc f r else if pI c=ah then(hc f r).map λl=>xK c::l else if c=45 then(match(generalizing:=false) r with
    |111::s=>(hc f s).map λl=>QH::l
    |_=>af)else if isWord c=ah then
    (if gb (c::r.takeWhile isWord)=ah then(hc f (r.dropWhile isWord)).map λl=>QI (c::r.takeWhile isWord)::l else af)
    else af)=U br:=h
   by_cases ag:c=32
   ·rw[art ag]at h;exact ih r br h
   ·rw[ars ag]at h;by_cases ai:pI c=ah
    ·rw[art ai]at h;cases e:hc f r with
     |none=>rw[e]at h;cases h
     |some l=>
      rw[e]at h;cases h;intro k aH;rcases ek.mp aH with rfl|aH
      ·exact Vo ai
      ·exact ih r l e k aH
    ·rw[ars ai]at h;by_cases aN:c=45
     ·rw[art aN]at h;split at h
      ·rename_i s _;cases e:hc f s with
       |none=>rw[e]at h;cases h
       |some l=>
        rw[e]at h;cases h;intro k aH;rcases ek.mp aH with rfl|aH
        ·exact .inl trivial
        ·exact ih s l e k aH
      ·cases h
     ·rw[ars aN]at h;by_cases bD:isWord c=ah
      ·rw[art bD]at h;by_cases cw:gb (c::r.takeWhile isWord)=ah
       ·rw[art cw]at h;cases e:hc f (r.dropWhile isWord)with
        |none=>rw[e]at h;cases h
        |some l=>
         rw[e]at h;cases h;intro k aH;rcases ek.mp aH with rfl|aH
         ·exact .inl cw
         ·exact ih _ l e k aH
       ·rw[ars cw]at h;cases h
      ·rw[ars bD]at h;cases h
def mv(t:dT):Option (List g4):=(AG t).bind λbr=>if br.any fK=ah then af else U br
theorem KD{t:dT}{br:List g4}(h:mv t=U br):∀k∈br,kj k:=by
 unfold mv at h;cases e:AG t with
 |none=>rw[e]at h;cases h
 |some l=>
  rw[e]at h;have h:(if l.any fK=ah then af else U l)=U br:=h;by_cases ak:l.any fK=ah
  ·rw[art ak]at h;cases h
  ·rw[ars ak]at h;cases h;intro k aH;refine(aoj _ _ _ e k aH).resolve_right λz=>ak (Hn.mpr ⟨k,aH,z⟩)
theorem amm(t:dT):(QJ t).bind recipeOf=if 2000<t.length then af else(mv t).bind λbr=>(res ([],af) br).bind recipeOf:=by
 unfold QJ;show(if 2000<t.length then af else _).bind recipeOf=_;by_cases au:2000<t.length
 ·rw[art au,art au];rfl
 ·rw[ars au,ars au];cases e:mv t with
  |some br=>
   have bM:=KD e;have aQ:AG t=U br:=by
    unfold mv at e;cases q:AG t with
    |none=>rw[q]at e;cases e
    |some l=>
     rw[q]at e;have e:(if l.any fK=ah then af else U l)=U br:=e;by_cases ak:l.any fK=ah
     ·rw[art ak]at e;cases e
     ·rw[ars ak]at e;exact e
   rw[aQ];show(ul br).bind recipeOf=(res ([],af) br).bind recipeOf;rw[ams bM]
  |none=>
   show((AG t).bind ul).bind recipeOf=af;unfold mv at e;cases q:AG t with
   |none=>rfl
   |some l=>
    rw[q]at e;have e:(if l.any fK=ah then af else U l)=af:=e;show(ul l).bind recipeOf=af;by_cases ak:l.any fK=ah
    ·cases z:ul l with
     |none=>rfl
     |some A=>exact aml A (by rw[aeO z];exact ak)
    ·rw[ars ak]at e;cases e
def jX(c:Nat):Bool:=decide (97<=c)&&decide (c<=122)
def fm(c:Nat):Bool:=jX c||(decide (48<=c)&&decide (c<=57))
def nName(l:List Nat):Bool:=(l.head?).any jX&&(decide (l.length<=12)&&l.all fm)
def known(c:Nat):Bool:=fm c||[32,126,42,124,40,41,45].contains c
def cm(b:UInt8):Nat:=if known b.toNat=ah then b.toNat else 63
def codes(a:dT):List Nat:=a.map (·.toNat)
def js(l:List Nat):Option (List Nat):=match l with
 |[]=>af
 |c::_=>if[32,126,42,124,40,41].contains c=ah then U [c]else if l.take 2=[45,111]then U [45,111]else if nName (l.takeWhile fm)=ah then U (l.takeWhile fm)else af
def hu:Nat->List Nat->Option (List (List Nat))
 |0,_=>af
 |_+1,[]=>U []
 |f+1,c::r=>match js (c::r)with
  |none=>af
  |some tk=>(hu f ((c::r).drop tk.length)).map λl=>if tk=[32]then l else tk::l
def hx:g4->List Nat
 | .name a=>codes a
 | .sign c=>[c.toNat]
 | .arrow=>[45,111]
theorem qx{P:UInt8->Bool}(h:(cf 256).all (λn=>P (pH n))=ah)(c:UInt8):P c=ah:=by have:=jA.mp h c.toNat (gC.mpr c.toNat_lt);simpa using this
theorem M2(c:UInt8):fm (cm c)=isWord c:=by have h:=qx (P:=λc=>fm (cm c)==isWord c) aD c;exact eq_of_beq h
theorem M1{c:UInt8}(h:isWord c=ah):cm c=c.toNat:=by have q:=qx (P:=λc=>!isWord c||cm c==c.toNat) aD c;rw[h]at q;simpa using q
theorem ang(c:UInt8):jX c.toNat=isSmall c:=eq_of_beq (qx (P:=λc=>jX c.toNat==isSmall c) aD c)
theorem aoP(c:UInt8):fm c.toNat=isWord c:=eq_of_beq (qx (P:=λc=>fm c.toNat==isWord c) aD c)
theorem aoQ{c:UInt8}(h:isWord c=ah):[32,126,42,124,40,41].contains (cm c)=aE/\cm c≠45/\c≠32/\pI c=aE/\c≠45:=by have q:=qx (P:=λc=>!isWord c||(!([32,126,42,124,40,41].contains (cm c))&&(cm c !=45&&(c !=32&&(!pI c&&c !=45))))) aD c;rw[h]at q;simp at q;exact⟨by simp[q],q.2.1,q.2.2.1,q.2.2.2.1,q.2.2.2.2⟩
theorem alL{c:UInt8}(h:cm c=111):c=111:=by have q:=qx (P:=λc=>cm c !=111||c==111) aD c;rw[h]at q;simpa using q
theorem alP{c:UInt8}(ag:c≠32)(ai:pI c=aE)(aN:c≠45)(bD:isWord c=aE):cm c=63:=by have q:=qx (P:=λc=>c==32||(pI c||(c==45||(isWord c||cm c==63)))) aD c;rw[ai,bD]at q;simp[ag,aN]at q;exact q
theorem alM{c:UInt8}(h:fK (.sign c)=ah):cm c=63:=by have q:=qx (P:=λc=>!fK (.sign c)||cm c==63) aD c;rw[h]at q;simpa using q
theorem Xg(r:List Nat):js (63::r)=af:=by
 unfold js;have e:(63::r).takeWhile fm=[]:=by rw[t8];rfl
 have aQ:(63::r).take 2≠[45,111]:=by cases r<;>simp
 rw[e];dsimp only;rw[ars a5,ars aQ,ars a5]
theorem RI(a:dT):nName (codes a)=gb a:=by
 unfold nName gb codes;have e:(a.map (·.toNat)).all fm=a.all isWord:=by
  induction a with
  |nil=>rfl
  |cons c r ih=>rw[dO,nK,nK,ih,aoP]
 rw[e,aU];cases a with
 |nil=>rfl
 |cons c r=>show(jX c.toNat&&_)=(isSmall c&&_);rw[ang]
theorem Zu:∀r:dT,(r.map cm).takeWhile fm=codes (r.takeWhile isWord)
 |[]=>rfl
 |c::r=>by
  rw[dO,t8,t8,M2];cases h:isWord c with
  |true=>simp only[if_true];rw[Zu r,M1 h];rfl
  |false=>rfl
theorem RY:∀r:dT,(r.map cm).drop (codes (r.takeWhile isWord)).length=(r.dropWhile isWord).map cm
 |[]=>rfl
 |c::r=>by
  rw[t8,List.dropWhile_cons];cases h:isWord c with
  |true=>simp only[if_true];exact RY r
  |false=>rfl
def kk(f:Nat)(t:dT):Option (List g4):=(hc f t).bind λbr=>if br.any fK=ah then af else U br
theorem KC{f:Nat}{t s:dT}{k:g4}(h:hc (f+1) t=(hc f s).map λl=>k::l):kk (f+1) t=if fK k=ah then af else(kk f s).map λl=>k::l:=by
 unfold kk;rw[h];cases hc f s with
 |none=>show af=if fK k=ah then af else af;split<;>rfl
 |some l=>
  show(if(k::l).any fK=ah then af else U (k::l))=if fK k=ah then af else(if l.any fK=ah then af else U l).map λl=>k::l
  rw[rQ];cases fK k with
  |true=>rfl
  |false=>
   cases l.any fK with
   |true=>rfl
   |false=>rfl
theorem CA{f:Nat}{c:Nat}{r tk:List Nat}(h:js (c::r)=U tk):hu (f+1) (c::r)=(hu f ((c::r).drop tk.length)).map λl=>if tk=[32]then l else tk::l:=by show(match js (c::r)with|none=>af|some tk=>(hu f ((c::r).drop tk.length)).map λl=>if tk=[32]then l else tk::l)=_;rw[h]
theorem CB{f:Nat}{c:Nat}{r:List Nat}(h:js (c::r)=af):hu (f+1) (c::r)=af:=by show(match js (c::r)with|none=>af|some tk=>(hu f ((c::r).drop tk.length)).map λl=>if tk=[32]then l else tk::l)=_;rw[h]
theorem Xi(f:Nat):∀t:dT,hu f (t.map cm)=(kk f t).map λbr=>br.map hx:=by
 induction f with
 |zero=>intro t;rfl
 |succ f ih=>
  intro t;match t with
  |[]=>rfl
  |c::r=>
   have cZ:hc (f+1) (c::r)=(if c=32 then hc f r else if pI c=ah then(hc f r).map λl=>xK c::l else if c=45 then(match(generalizing:=false) r with
    |111::s=>(hc f s).map λl=>QH::l
    |_=>af)else if isWord c=ah then
    (if gb (c::r.takeWhile isWord)=ah then(hc f (r.dropWhile isWord)).map λl=>QI (c::r.takeWhile isWord)::l else af)
    else af):=rfl
   rw[dO];by_cases ag:c=32
   ·subst ag;have aS:hc (f+1) (32::r)=hc f r:=rfl;have aQ:kk (f+1) (32::r)=kk f r:=by unfold kk;rw[aS]
    rw[CA (tk:=[32]) I,aQ,<-ih r];show(hu f (r.map cm)).map (λl=>l)=_;cases hu f (r.map cm)<;>rfl
   ·by_cases ai:pI c=ah
    ·have aS:hc (f+1) (c::r)=(hc f r).map λl=>xK c::l:=by rw[cZ,ars ag,art ai]
     rw[KC aS];by_cases ak:fK (.sign c)=ah
     ·rw[art ak,alM ak,CB (Xg _)];rfl
     ·rw[ars ak];have g:oZ c:=(Vo ai).resolve_right ak;have b0:js (cm c::r.map cm)=U [c.toNat]/\¬[c.toNat]=[32]:=by rcases g with rfl|rfl|rfl|rfl|rfl<;>exact⟨I,a5⟩
      rw[CA b0.1];show(hu f (r.map cm)).map (λl=>if[c.toNat]=[32]then l else[c.toNat]::l)=_;rw[ih r];cases kk f r with
      |none=>rfl
      |some br=>show U (if[c.toNat]=[32]then _ else[c.toNat]::br.map hx)=U (_::_);rw[ars b0.2];rfl
    ·have Bt:pI c=aE:=by simpa using ai
     by_cases aN:c=45
     ·subst aN;match r with
      |[]=>rfl
      |d::s=>
       by_cases hd:d=111
       ·subst hd;have aS:hc (f+1) (45::111::s)=(hc f s).map λl=>QH::l:=rfl;rw[KC aS,ars a5];have b0:js (cm 45::(111::s:dT).map cm)=U [45,111]:=rfl;rw[CA b0];show(hu f (s.map cm)).map (λl=>if[45,111]=[32]then l else[45,111]::l)=_;rw[ih s];cases kk f s with
        |none=>rfl
        |some br=>rfl
       ·have aS:hc (f+1) (45::d::s)=af:=by
         rw[cZ,ars a5,ars a5,art I];split
         ·rename_i q;cases q;exact aro I hd
         ·rfl
        have aQ:kk (f+1) (45::d::s)=af:=by unfold kk;rw[aS];rfl
        have b0:js (cm 45::(d::s:dT).map cm)=af:=by
         show js (45::cm d::s.map cm)=af;unfold js;have e:(45::cm d::s.map cm).takeWhile fm=[]:=by rw[t8];rfl
         have e':(45::cm d::s.map cm).take 2≠[45,111]:=by
          show[45,cm d]≠[45,111];intro z;have kJ:cm d=111:=by simpa using z
          exact hd (alL kJ)
         rw[e];dsimp only;rw[ars a5,ars e',ars a5]
        rw[CB b0,aQ];rfl
     ·by_cases bD:isWord c=ah
      ·obtain⟨b5,dv,_,_,_⟩:=aoQ bD;have y6:(cm c::r.map cm).takeWhile fm=codes (c::r.takeWhile isWord):=by rw[t8,M2,bD,art I,Zu,M1 bD];rfl
       have aQ:(cm c::r.map cm).take 2≠[45,111]:=by
        intro z;cases aL:r.map cm with
        |nil=>rw[aL]at z;simp at z
        |cons x y=>rw[aL]at z;simp at z;exact dv z.1
       have b0:js (cm c::r.map cm)=if gb (c::r.takeWhile isWord)=ah then U (codes (c::r.takeWhile isWord))else af:=by unfold js;dsimp only;rw[b5,ars a5,ars aQ,y6,RI]
       by_cases cw:gb (c::r.takeWhile isWord)=ah
       ·rw[art cw]at b0;have aS:hc (f+1) (c::r)=(hc f (r.dropWhile isWord)).map λl=>QI (c::r.takeWhile isWord)::l:=by rw[cZ,ars ag,ars ai,ars aN,art bD,art cw]
        rw[KC aS,ars (by show¬(aE=ah);decide),CA b0];have ij:(cm c::r.map cm).drop (codes (c::r.takeWhile isWord)).length=(r.dropWhile isWord).map cm:=by show(r.map cm).drop (codes (r.takeWhile isWord)).length=_;exact RY r
        rw[ij,ih];have ne:¬codes (c::r.takeWhile isWord)=[32]:=by
         intro z;have:c.toNat=32:=by have z:c.toNat::codes (r.takeWhile isWord)=[32]:=z;exact(fN z).1
         apply ag;exact xJ this
        cases kk f (r.dropWhile isWord)with
        |none=>rfl
        |some br=>show U (if codes (c::r.takeWhile isWord)=[32]then _ else codes (c::r.takeWhile isWord)::br.map hx)=_;rw[ars ne];rfl
       ·rw[ars cw]at b0;have aS:hc (f+1) (c::r)=af:=by rw[cZ,ars ag,ars ai,ars aN,art bD,ars cw]
        have aQ:kk (f+1) (c::r)=af:=by unfold kk;rw[aS];rfl
        rw[CB b0,aQ];rfl
      ·have afH:isWord c=aE:=by simpa using bD
       have aS:hc (f+1) (c::r)=af:=by rw[cZ,ars ag,ars ai,ars aN,ars bD]
       have aQ:kk (f+1) (c::r)=af:=by unfold kk;rw[aS];rfl
       rw[alP ag Bt aN afH,CB (Xg _),aQ];rfl
def dJ:Formula->Prop
 | .atom _ a=>gb a=ah
 | .tensor A B=>dJ A/\dJ B
 | .par A B=>dJ A/\dJ B
 |_=>False
def flat:Formula->List (List Nat)
 | .atom aE a=>[codes a]
 | .atom ah a=>[126::codes a]
 | .tensor A B=>[42]::(flat A++flat B)
 | .par A B=>[124]::(flat A++flat B)
 |_=>[]
def fY(l:List Nat):List Nat:=if l=[42]then[124]else if l=[124]then[42]else if l.head?=U 126 then l.tail else 126::l
theorem oY:∀A:Formula,dJ A->dJ (dg A)
 | .atom _ _,h=>h
 | .tensor A B,h=>⟨oY A h.1,oY B h.2⟩
 | .par A B,h=>⟨oY A h.1,oY B h.2⟩
theorem mJ{a:dT}(h:gb a=ah):∃c r,codes a=c::r/\jX c=ah/\nName (codes a)=ah:=by
 have h':nName (codes a)=ah:=by rw[RI];exact h
 match a,h with
 |[],h=>cases h
 |c::r,_=>refine⟨c.toNat,codes r,I,?_,h'⟩;have q:(jX c.toNat&&_)=ah:=h';rw[e7]at q;exact q.1
theorem w'{c:Nat}(h:jX c=ah):c≠42/\c≠124/\c≠126:=by unfold jX at h;simp at h;omega
theorem RZ{a:dT}(h:gb a=ah):fY (codes a)=126::codes a:=by obtain⟨c,r,e,aP,_⟩:=mJ h;obtain⟨b',cB,en⟩:=w' aP;unfold fY;rw[e,ars (λz=>b' (fN z).1),ars (λz=>cB (fN z).1),ars (by simp[en])]
theorem adY(a:List Nat):fY (126::a)=a:=by unfold fY;rw[ars (by intro z;exact aro (fN z).1 a5),ars (by intro z;exact aro (fN z).1 a5),art (show(126::a).head?=U 126 from I)];rfl
theorem rc:∀A:Formula,dJ A->(flat A).map fY=flat (dg A)
 | .atom aE a,h=>by show[fY (codes a)]=[126::codes a];rw[RZ h]
 | .atom ah a,h=>by show[fY (126::codes a)]=[codes a];rw[adY]
 | .tensor A B,h=>by show fY [42]::(flat A++flat B).map fY=[124]::(flat (dg A)++flat (dg B));rw[eU,rc A h.1,rc B h.2];rfl
 | .par A B,h=>by show fY [124]::(flat A++flat B).map fY=[42]::(flat (dg A)++flat (dg B));rw[eU,rc A h.1,rc B h.2];rfl
theorem rd{A:Formula}(h:dJ A):(flat (dg A)).length=(flat A).length:=by rw[<-rc A h,aU]
theorem Kh{c:UInt8}(h:c=42\/c=124)(A B:Formula):flat (two c A B)=[c.toNat]::(flat A++flat B):=by rcases h with rfl|rfl<;>rfl
theorem Ub{c:UInt8}(h:c=42\/c=124){A B:Formula}(a:dJ A)(b:dJ B):dJ (two c A B):=by rcases h with rfl|rfl<;>exact⟨a,b⟩
theorem TV:∀A:Formula,dJ A->0<(flat A).length
 | .atom aE a,_=>HE
 | .atom ah a,_=>HE
 | .tensor A B,_=>Dj _
 | .par A B,_=>Dj _
theorem m9:∀A:Formula,dJ A->∀l∈flat A,l.length<=13/\l≠[]
 | .atom aE a,h,l,au=>by
  have e:l=codes a:=gp.mp au;subst e;obtain⟨c,r,e,aP,aC⟩:=mJ h;constructor
  ·unfold nName at aC;simp at aC;omega
  ·rw[e];exactλz=>nomatch z
 | .atom ah a,h,l,au=>by
  have e:l=126::codes a:=gp.mp au;subst e;obtain⟨c,r,e,aP,aC⟩:=mJ h;constructor
  ·unfold nName at aC;simp at aC;show(codes a).length+1<=13;omega
  ·exactλz=>nomatch z
 | .tensor A B,h,l,au=>by
  rcases ek.mp au with rfl|au
  ·exact⟨a5,λz=>nomatch z⟩
  ·rcases gn.mp au with au|au
   ·exact m9 A h.1 l au
   ·exact m9 B h.2 l au
 | .par A B,h,l,au=>by
  rcases ek.mp au with rfl|au
  ·exact⟨a5,λz=>nomatch z⟩
  ·rcases gn.mp au with au|au
   ·exact m9 A h.1 l au
   ·exact m9 B h.2 l au
def fw(l:List (List Nat)):Option (List (List Nat)):=if(l.filter λx=>decide (x≠[42])).all nName=ah then U (l.filter λx=>decide (x≠[42]))else af
theorem G4:∀A:Formula,dJ A->fw (flat A)=(fy A).map λl=>l.map codes
 | .atom aE a,h=>by
  obtain⟨c,r,e,aP,aC⟩:=mJ h;have ne:codes a≠[42]:=by rw[e];exactλz=>(w' aP).1 (fN z).1
  have aS:(flat (.atom aE a)).filter (λx=>decide (x≠[42]))=[codes a]:=by show[codes a].filter _=_;rw[nL,art (arq ne)];rfl
  unfold fw;rw[aS,art (by show(nName (codes a)&&ah)=ah;rw[aC];rfl)];rfl
 | .atom ah a,h=>by
  have aS:(flat (.atom ah a)).filter (λx=>decide (x≠[42]))=[126::codes a]:=by show[126::codes a].filter _=_;rw[nL,art (arq (λz=>aro (fN z).1 a5))];rfl
  unfold fw;rw[aS,ars (by show¬((nName (126::codes a)&&ah)=ah);unfold nName;simp[jX])];rfl
 | .tensor A B,h=>by
  have l1:=G4 A h.1;have nv:=G4 B h.2;unfold fw at l1 nv⊢;have aS:(flat (.tensor A B)).filter (λx=>decide (x≠[42]))=(flat A).filter (λx=>decide (x≠[42]))++(flat B).filter (λx=>decide (x≠[42])):=by show([42]::(flat A++flat B)).filter _=_;rw[nL,ars a5,Dd]
  rw[aS,List.all_append];show _=((fy A).bind λl=>(fy B).map λr=>l++r).map _;cases ay:((flat A).filter λx=>decide (x≠[42])).all nName with
  |false=>
   rw[ay,ars a5]at l1;cases iK:fy A with
   |none=>rfl
   |some l=>rw[iK]at l1;cases l1
  |true=>
   rw[ay,art I]at l1;cases iK:fy A with
   |none=>rw[iK]at l1;cases l1
   |some l=>
    rw[iK]at l1;cases ak:((flat B).filter λx=>decide (x≠[42])).all nName with
    |false=>
     rw[ak,ars a5]at nv;cases f3:fy B with
     |none=>rfl
     |some r=>rw[f3]at nv;cases nv
    |true=>
     rw[ak,art I]at nv;cases f3:fy B with
     |none=>rw[f3]at nv;cases nv
     |some r=>rw[f3]at nv;rw[art (show(ah&&ah)=ah from I)];have l1:U _=U _:=l1;have nv:U _=U _:=nv;show U _=U ((l++r).map codes);rw[bS l1,bS nv,eU]
 | .par A B,h=>by
  unfold fw;rw[ars ?_]
  ·rfl
  ·intro z;have aS:(flat (.par A B)).filter (λx=>decide (x≠[42]))=[124]::((flat A++flat B).filter λx=>decide (x≠[42])):=by show([124]::(flat A++flat B)).filter _=_;rw[nL,art a5]
   rw[aS,nK]at z;rw[show nName [124]=aE by decide]at z;cases z
theorem FJ:∀A:Formula,dJ A->∀l,fy A=U l->∀a∈l,gb a=ah
 | .atom aE a,h,l,e,b,ak=>by cases e;rw[gp.mp ak];exact h
 | .atom ah a,h,l,e,b,ak=>by cases e
 | .tensor A B,h,l,e,b,ak=>by
  have e:((fy A).bind λl=>(fy B).map λr=>l++r)=U l:=e;cases iK:fy A with
  |none=>rw[iK]at e;cases e
  |some x=>
   rw[iK]at e;cases f3:fy B with
   |none=>rw[f3]at e;cases e
   |some y=>
    rw[f3]at e;cases e;rcases gn.mp ak with q|q
    ·exact FJ A h.1 x iK b q
    ·exact FJ B h.2 y f3 b q
 | .par A B,h,l,e,b,ak=>by cases e
theorem Mw:∀A:Formula,∀l,fy A=U l->0<l.length
 | .atom aE a,l,e=>by cases e;exact HE
 | .atom ah a,l,e=>by cases e
 | .tensor A B,l,e=>by
  have e:((fy A).bind λl=>(fy B).map λr=>l++r)=U l:=e;cases iK:fy A with
  |none=>rw[iK]at e;cases e
  |some x=>
   rw[iK]at e;cases f3:fy B with
   |none=>rw[f3]at e;cases e
   |some y=>rw[f3]at e;cases e;have:=Mw A x iK;show 0<(x++y).length;rw[cA];omega
 | .par A B,l,e=>by cases e
 | .wth A B,l,e=>by cases e
 | .plus A B,l,e=>by cases e
 | .ofc A,l,e=>by cases e
 | .whn A,l,e=>by cases e
def EE:cL->Prop
 | .turn=>True
 | .gy=>True
 | .bin c A=>(c=42\/c=124)/\dJ A
 | .arr A=>dJ A
def hs(s:List cL):Prop:=∀e∈s,EE e
def sgn:cL->List Nat
 | .turn=>[126]
 | .gy=>[40]
 | .bin c _=>[c.toNat]
 | .arr _=>[45,111]
def pT:cL->List (List Nat)
 | .turn=>[]
 | .gy=>[]
 | .bin _ A=>flat A
 | .arr A=>flat A
def wE(e:cL):Nat:=1+(pT e).length
def wS:List cL->Nat
 |[]=>0
 |e::s=>wE e+wS s
theorem sL{e:cL}{s:List cL}(h:hs (e::s)):hs s:=λx ao=>h x (fe _ ao)
theorem EF{e:cL}{s:List cL}(a:EE e)(h:hs s):hs (e::s):=λx ao=>(ek.mp ao).elim (λz=>z▸a) (h x)
theorem Xa:∀(s:List cL)(A:Formula),hs s->dJ A->hs (mM s A).1/\dJ (mM s A).2/\wS (mM s A).1+(flat (mM s A).2).length<=wS s+(flat A).length
 |[],A,h,g=>⟨h,g,bR _⟩
 | .turn::s,A,h,g=>by obtain⟨a,b,c⟩:=Xa s (dg A) (sL h) (oY A g);refine⟨a,b,?_⟩;rw[rd g]at c;show wS (mM s (dg A)).1+(flat (mM s (dg A)).2).length<=(1+0+wS s)+(flat A).length;omega
 | .gy::s,A,h,g=>⟨h,g,bR _⟩
 | .bin _ _::s,A,h,g=>⟨h,g,bR _⟩
 | .arr _::s,A,h,g=>⟨h,g,bR _⟩
theorem Bn:∀(s:List cL)(A:Formula),hs s->dJ A->hs (gH s A).1/\dJ (gH s A).2/\wS (gH s A).1+(flat (gH s A).2).length<=wS s+(flat A).length
 |[],A,h,g=>⟨h,g,bR _⟩
 | .turn::s,A,h,g=>⟨h,g,bR _⟩
 | .gy::s,A,h,g=>⟨h,g,bR _⟩
 | .arr _::s,A,h,g=>⟨h,g,bR _⟩
 | .bin c B::s,A,h,g=>by have q:EE (.bin c B):=h _ (eB _);obtain⟨a,b,d⟩:=Bn s (two c B A) (sL h) (Ub q.1 q.2 g);refine⟨a,b,?_⟩;rw[Kh q.1,cW,cA]at d;show wS (gH s (two c B A)).1+(flat (gH s (two c B A)).2).length<=(1+(flat B).length+wS s)+(flat A).length;omega
theorem W':∀(s:List cL)(A:Formula),hs s->dJ A->hs (oj s A).1/\dJ (oj s A).2/\wS (oj s A).1+(flat (oj s A).2).length<=wS s+(flat A).length
 |[],A,h,g=>⟨h,g,bR _⟩
 | .turn::s,A,h,g=>⟨h,g,bR _⟩
 | .gy::s,A,h,g=>⟨h,g,bR _⟩
 | .bin _ _::s,A,h,g=>⟨h,g,bR _⟩
 | .arr B::s,A,h,g=>by
  have q:dJ B:=h _ (eB _);obtain⟨a,b,d⟩:=W' s (.par (dg B) A) (sL h) ⟨oY B q,g⟩;refine⟨a,b,?_⟩;have e:(flat (.par (dg B) A)).length=1+(flat B).length+(flat A).length:=by show([124]::(flat (dg B)++flat A)).length=_;rw[cW,cA,rd q];omega
  rw[e]at d;show wS (oj s (.par (dg B) A)).1+(flat (oj s (.par (dg B) A)).2).length<=(1+(flat B).length+wS s)+(flat A).length;omega
theorem J_(s:List cL)(A:Formula)(h:hs s)(g:dJ A):hs (fZ s A).1/\dJ (fZ s A).2/\wS (fZ s A).1+(flat (fZ s A).2).length<=wS s+(flat A).length:=by obtain⟨a,b,c⟩:=Bn s A h g;obtain⟨uP,A4,cp⟩:=W' _ _ a b;exact⟨uP,A4,b3 cp c⟩
def rN(c:Cfg):Nat:=wS c.1+(c.2.elim 0 λA=>(flat A).length)
def sJ(c:Cfg):Prop:=hs c.1/\∀A,c.2=U A->dJ A
theorem aoK(e:cL)(s:List cL):wS (e::s)=wE e+wS s:=rfl
theorem Ge{s:List cL}{e:cL}{c:Cfg}(h:put s e=U c):c=(e::s,af):=by
 unfold put at h;by_cases q:s.length+1<=100
 ·rw[art q]at h;exact(bS h).symm
 ·rw[ars q]at h;cases h
theorem Se{s:List cL}{B:Formula}(h:hs s)(g:dJ B):sJ (p0 s B)/\rN (p0 s B)<=wS s+(flat B).length:=by obtain⟨a,b,c⟩:=Xa s B h g;exact⟨⟨a,λX e=>by cases e;exact b⟩,c⟩
theorem Y8{c cp:Cfg}{t:g4}(aF:sJ c)(bV:kj t)(h:h3 c t=U cp):sJ cp/\rN cp<=rN c+1:=by
 obtain⟨s,p⟩:=c;obtain⟨aP,aO⟩:=aF;have aP:hs s:=aP;match p,t,h with
 |none,.sign c,h=>
  have h:(if c=126 then put s .turn else if c=40 then put s .gy else af)=U cp:=h;by_cases ag:c=126
  ·rw[art ag]at h;rw[Ge h];exact⟨⟨EF trivial aP,λA e=>nomatch e⟩,by show(1+0+wS s)+0<=wS s+0+1;omega⟩
  ·rw[ars ag]at h;by_cases ai:c=40
   ·rw[art ai]at h;rw[Ge h];exact⟨⟨EF trivial aP,λA e=>nomatch e⟩,by show(1+0+wS s)+0<=wS s+0+1;omega⟩
   ·rw[ars ai]at h;cases h
 |none,.name a,h=>cases h;obtain⟨g,w⟩:=Se (B:=.atom aE a) aP bV;exact⟨g,by show _<=wS s+0+1;exact w⟩
 |none,.arrow,h=>cases h
 |some P,.sign c,h=>
  have y_:dJ P:=aO P I;have h:(if c=42\/c=124 then(if oQ s c=ah then af else put s (.bin c P))else if c=41 then(match(fZ s P).1 with
   | .gy::s'=>U (p0 s' (fZ s P).2)
   |_=>af)else af)=U cp:=h
  by_cases ag:c=42\/c=124
  ·rw[art ag]at h;by_cases ai:oQ s c=ah
   ·rw[art ai]at h;cases h
   ·rw[ars ai]at h;rw[Ge h];exact⟨⟨EF ⟨ag,y_⟩ aP,λA e=>nomatch e⟩,by show(1+(flat P).length+wS s)+0<=wS s+(flat P).length+1;omega⟩
  ·rw[ars ag]at h;by_cases ai:c=41
   ·rw[art ai]at h;obtain⟨a,b,d⟩:=J_ s P aP y_;cases e:(fZ s P).1 with
    |nil=>rw[e]at h;cases h
    |cons x s'=>
     rw[e]at h a d;match x,h,a,d with
     | .gy,h,a,d=>cases h;obtain⟨g,w⟩:=Se (sL a) b;refine⟨g,b3 w ?_⟩;have d:(1+0+wS s')+(flat (fZ s P).2).length<=wS s+(flat P).length:=d;show _<=wS s+(flat P).length+1;omega
     | .turn,h,_,_=>cases h
     | .bin _ _,h,_,_=>cases h
     | .arr _,h,_,_=>cases h
   ·rw[ars ai]at h;cases h
 |some P,.arrow,h=>have y_:dJ P:=aO P I;have h:put (gH s P).1 (.arr (gH s P).2)=U cp:=h;rw[Ge h];obtain⟨a,b,d⟩:=Bn s P aP y_;exact⟨⟨EF b a,λA e=>nomatch e⟩,by show(1+(flat (gH s P).2).length+wS (gH s P).1)+0<=wS s+(flat P).length+1;omega⟩
 |some P,.name a,h=>cases h
theorem aeA{c:Cfg}{B:Formula}(aF:sJ c)(h:fin c=U B):dJ B/\(flat B).length<=rN c:=by
 obtain⟨s,p⟩:=c;obtain⟨aP,aO⟩:=aF;match p,h with
 |none,h=>cases h
 |some P,h=>
  have y_:dJ P:=aO P I;obtain⟨a,b,d⟩:=J_ s P aP y_;have h:(match(fZ s P).1 with|[]=>U (fZ s P).2|_=>af)=U B:=h;cases e:(fZ s P).1 with
  |nil=>rw[e]at h d;cases h;have d:0+(flat (fZ s P).2).length<=wS s+(flat P).length:=d;exact⟨b,by show _<=wS s+(flat P).length;omega⟩
  |cons x y=>rw[e]at h;cases h
theorem FD:∀s:List cL,s.length<=wS s
 |[]=>bR _
 |e::s=>by have:=FD s;rw[aoK,cW];unfold wE;omega
theorem Xh{l tk:List Nat}(h:js l=U tk):0<tk.length/\tk.length<=l.length:=by
 match l,h with
 |[],h=>cases h
 |c::r,h=>
  have h:(if[32,126,42,124,40,41].contains c=ah then U [c]else if(c::r).take 2=[45,111]then U [45,111]else if nName ((c::r).takeWhile fm)=ah then U ((c::r).takeWhile fm)else af)=U tk:=h;by_cases ag:[32,126,42,124,40,41].contains c=ah
  ·rw[art ag]at h;cases h;exact⟨HE,bl⟩
  ·rw[ars ag]at h;by_cases ai:(c::r).take 2=[45,111]
   ·rw[art ai]at h;cases h;refine⟨a5,?_⟩;have:=congrArg Ag ai;rw[fo]at this;simp at this⊢;omega
   ·rw[ars ai]at h;by_cases aN:nName ((c::r).takeWhile fm)=ah
    ·rw[art aN]at h;cases h;refine⟨?_,(aav _).length_le⟩;cases q:(c::r).takeWhile fm with
     |nil=>rw[q]at aN;exact aro aN a5
     |cons _ _=>exact Dj _
    ·rw[ars aN]at h;cases h
theorem alU(f:Nat):∀(l:List Nat)(hQ:List (List Nat)),hu f l=U hQ->hQ.length<=l.length:=by
 induction f with
 |zero=>intro l hQ h;cases h
 |succ f ih=>
  intro l hQ h;match l,h with
  |[],h=>cases h;exact bR _
  |c::r,h=>
   have h:(match js (c::r)with|none=>af|some tk=>(hu f ((c::r).drop tk.length)).map λl=>if tk=[32]then l else tk::l)=U hQ:=h;cases e:js (c::r)with
   |none=>rw[e]at h;cases h
   |some tk=>
    rw[e]at h;have h:(hu f ((c::r).drop tk.length)).map (λl=>if tk=[32]then l else tk::l)=U hQ:=h;have aO:0<tk.length:=(Xh e).1;cases aQ:hu f ((c::r).drop tk.length)with
    |none=>rw[aQ]at h;cases h
    |some fi=>
     rw[aQ]at h;have:=ih _ _ aQ;rw[j3]at this;have h:U (if tk=[32]then fi else tk::fi)=U hQ:=h;cases h;split
     ·omega
     ·rw[cW];rw[cW]at this⊢;omega
def nC(t:dT):Option Formula:=if 2000<t.length then af else(mv t).bind λbr=>res ([],af) br
theorem XA(t:dT):(QJ t).bind recipeOf=(nC t).bind recipeOf:=by
 rw[amm];unfold nC;split
 ·rfl
 ·cases mv t<;>rfl
end G
namespace G
open Vaneta (Formula Text Name isName)
open Vanetm
structure GoodR(r:jG):Prop where
 t1:1<=r.takes.length
 oq:r.takes.length<=6
 g1:1<=r.gives.length
 oV:r.gives.length<=6
 fw:∀a∈r.takes,gb a=ah
 p4:∀a∈r.gives,gb a=ah
structure Good(s:State):Prop where
 lA:s.recipes.length<=12
 hN:∀r∈s.recipes,GoodR r
 fst:s.first.length<=10
 wQ:∀a∈s.first,gb a=ah
 use:s.uses.length<=10
 gP:∀u∈s.uses,u.recipe<s.recipes.length/\1<=u.units.length/\u.units.length<=6
 A6:∀k u,s.uses[k]? =U u->∀n∈u.units,n<cn s k
 Cq:(s.uses.flatMap (·.units)).Nodup
theorem wM{a:Name}(h:gb a=ah):a.length<=12/\a≠[]:=by unfold gb at h;simp only[e7,decide_eq_true_eq]at h;refine⟨h.2.1,λz=>?_⟩;rw[z]at h;simp at h
theorem m6(a:dT):(codes a).length=a.length:=by simp[codes]
theorem Bb{a b:dT}(h:codes a=codes b):a=b:=by unfold codes at h;exact PR (λx y e=>xJ e)|>.mp h
theorem XG{s:State}{n:Nat}{r:jG}(h:s.recipes[n]? =U r):dw s n=r:=by unfold dw;rw[h];rfl
theorem Good.recAt{s:State}(g:Good s){n:Nat}(h:n<s.recipes.length):GoodR (dw s n):=by have e:s.recipes[n]? =U s.recipes[n]:=gB h;rw[XG e];exact g.hN _ (PP h)
theorem Good.given{s:State}(g:Good s){u:Use}(h:u∈s.uses):(hC s u).length<=6:=(g.recAt (g.gP u h).1).oV
theorem lT{α β:Type}{f:α->List β}{m:Nat}:∀{l:List α},(∀x∈l,(f x).length<=m)->(l.flatMap f).length<=m*l.length
 |[],_=>bl
 |x::r,h=>by have ag:=h x (eB _);have ai:=lT (l:=r) λy a_=>h y (fe _ a_);rw[kM,cA,cW,Nat.mul_succ];omega
theorem Good.all{s:State}(g:Good s):(allNames s).length<=70:=by have h:=lT (f:=hC s) (m:=6) (l:=s.uses) λu a4=>g.given a4;have ag:=g.fst;have ai:=g.use;unfold allNames;rw[cA];omega
theorem Good.taken{s:State}(g:Good s):(s.uses.flatMap (·.units)).length<=60:=by have h:=lT (f:=(·.units)) (m:=6) (l:=s.uses) λu a4=>(g.gP u a4).2.2;have ai:=g.use;omega
theorem Good.acM{s:State}(g:Good s):∀a∈allNames s,gb a=ah:=by
 intro a ay;unfold allNames at ay;rcases gn.mp ay with h|h
 ·exact g.wQ a h
 ·obtain⟨u,a4,h⟩:=pC.mp h;exact(g.recAt (g.gP u a4).1).p4 a h
def kG(s:State)(n:Nat):Bool:=(s.uses.flatMap (·.units)).contains n
theorem acO(s:State)(n:Nat):(s.uses.any λu=>u.units.contains n)=kG s n:=by
 unfold kG;generalize s.uses=l;induction l with
 |nil=>rfl
 |cons u r ih=>rw[rQ,ih,kM];rw[mf];simp
theorem tN(s:State):cE s=(cf (allNames s).length).filter λn=>!kG s n:=by unfold cE;refine Ho λn _=>?_;rw[acO]
theorem V_{s:State}{n:Nat}{a:Name}(h:(allNames s)[n]? =U a):dh s n=a:=by unfold dh;rw[h];rfl
theorem Y'{s:State}{n:Nat}(h:n∈cE s):n<(allNames s).length:=by rw[tN]at h;exact gC.mp (j8.mp h).1
theorem Good.GH{s:State}(g:Good s){n:Nat}(h:n∈cE s):gb (dh s n)=ah:=by have au:=Y' h;have e:(allNames s)[n]? =U (allNames s)[n]:=gB au;rw[V_ e];exact g.acM _ (PP _)
theorem rH{s:State}(g:Good s):(cE s).length<=70:=by rw[tN];refine b3 (tZ _ _) ?_;rw[e8];exact g.all
theorem Zv{s:State}{n:Nat}:kG s n=ah↔n∈s.uses.flatMap (·.units):=by unfold kG;simp
theorem Y_{s:State}{n:Nat}:n∈cE s↔n<(allNames s).length/\n∉s.uses.flatMap (·.units):=by
 rw[tN,j8,gC];constructor
 ·rintro⟨ag,ai⟩;refine⟨ag,λz=>?_⟩;rw[Zv.mpr z]at ai;cases ai
 ·rintro⟨ag,ai⟩;refine⟨ag,?_⟩;cases q:kG s n with
  |true=>exact aro (Zv.mp q) ai
  |false=>rfl
theorem Wo{α:Type}(p:α->Bool){l:List α}(h:l.Nodup):(l.filter p).Nodup:=Hl p h
theorem Pf(s:State):(cE s).Nodup:=by rw[tN];exact Wo _ xt
theorem anx(s:State):(cE s).Pairwise (·<·):=by rw[tN];exact Hl _ List.pairwise_lt_range
theorem aeD(s:State)(us:List Use)(k:Nat)(h:k<=s.uses.length):cn {s with uses:=s.uses++us} k=cn s k:=by show s.first.length+(((s.uses++us).take k).flatMap (hC {s with uses:=s.uses++us})).length=_;rw[PW h];rfl
theorem Kz{s:State}(g:Good s){u:Use}(ag:u.recipe<s.recipes.length)(ai:u.units.length=(dw s u.recipe).takes.length)(aN:u.units.Nodup)(bD:∀n∈u.units,n∈cE s)(cw:s.uses.length<10):Good (done s u):=by
 have fW:=g.recAt ag;refine⟨g.lA,g.hN,g.fst,g.wQ,?_,?_,?_,?_⟩
 ·show(s.uses++[u]).length<=10;rw[cA,j5];exact cw
 ·intro x ao;have ao:x∈s.uses++[u]:=ao;rcases gn.mp ao with ao|ao
  ·exact g.gP x ao
  ·rw[gp.mp ao];exact⟨ag,by rw[ai];exact fW.t1,by rw[ai];exact fW.oq⟩
 ·intro k x aH n aC;have aH:(s.uses++[u])[k]? =U x:=aH;have hle:k<=s.uses.length:=by have:=(ej.mp aH).1;rw[cA,j5]at this;omega
  have g8:=aeD s [u] k hle;show n<cn {s with uses:=s.uses++[u]} k;rw[g8];by_cases dD:k<s.uses.length
  ·rw[pA dD]at aH;exact g.A6 k x aH n aC
  ·have e:k=s.uses.length:=by omega
   subst e;rw[mS (bR _),Al]at aH;have:u=x:=bS aH;subst this;have:=(Y_.mp (bD n aC)).1;show n<s.first.length+((s.uses.take s.uses.length).flatMap (hC s)).length;rw[hA];unfold allNames at this;rw[cA]at this;exact this
 ·show((s.uses++[u]).flatMap (·.units)).Nodup;rw[k6,qD];refine⟨g.Cq,by simpa using aN,λa ay b ak z=>?_⟩;subst z;have ak:a∈u.units:=by simpa using ak
  exact(Y_.mp (bD a ak)).2 ay
theorem afD{s:State}(g:Good s)(k:Nat):Good {s with uses:=s.uses.take k}:=by
 have g8:∀j,j<=k->cn {s with uses:=s.uses.take k} j=cn s j:=λj bw=>by show s.first.length+(((s.uses.take k).take j).flatMap (hC s)).length=_;rw[aaw,mU bw];rfl
 refine⟨g.lA,g.hN,g.fst,g.wQ,?_,λu a4=>g.gP u (rV a4),λj u bw n aC=>?_,?_⟩
 ·show(s.uses.take k).length<=10;rw[fo];have:=g.use;omega
 ·have bw:(s.uses.take k)[j]? =U u:=bw;have dD:=(ej.mp bw).1;rw[fo]at dD;rw[Df aG]at bw;rw[g8 j aG];exact g.A6 j u bw n aC
 ·show((s.uses.take k).flatMap (·.units)).Nodup;have h:=g.Cq;rw[<-Aj k s.uses,k6,qD]at h;exact h.1
theorem M0(s:State):∀(ns:List Name)(l us:List Nat),l.Nodup->iQ s ns l=U us->us.length=ns.length/\us.Nodup/\∀n∈us,n∈l
 |[],l,us,_,h=>by have h:U []=U us:=h;cases h;exact⟨I,qE,λ_ h=>nomatch h⟩
 |a::r,l,us,au,h=>by
  have h:((l.find? λn=>dh s n==a).bind λn=>(iQ s r (l.filter λm=>m !=n)).map λt=>n::t)=U us:=h;cases e:l.find? λn=>dh s n==a with
  |none=>rw[e]at h;cases h
  |some n=>
   rw[e]at h;cases aQ:iQ s r (l.filter λm=>m !=n)with
   |none=>have h:((iQ s r (l.filter λm=>m !=n)).map λt=>n::t)=U us:=h;rw[aQ]at h;cases h
   |some t=>
    have h:((iQ s r (l.filter λm=>m !=n)).map λt=>n::t)=U us:=h;rw[aQ]at h;have h:n::t=us:=bS h;subst h;obtain⟨ag,ai,aN⟩:=M0 s r _ t (Wo _ au) aQ;refine⟨by rw[cW,cW,ag],hz.mpr ⟨λz=>?_,ai⟩,λm hm=>?_⟩
    ·have:=(j8.mp (aN n z)).2;simp at this
    ·rcases ek.mp hm with rfl|hm
     ·exact PT e
     ·exact(j8.mp (aN m hm)).1
theorem TQ{α:Type}(p:α->Bool):∀l:List α,l.find? p=(l.filter p).head?
 |[]=>rfl
 |a::r=>by
  rw[nM,nL];cases p a with
  |true=>rfl
  |false=>exact TQ p r
theorem alI{s:State}{a:Name}{r:List Name}{l us:List Nat}{ns:List Name}(h:(iQ s (a::r) l).map (us++·)=iQ s ns (cE s)):((l.filter λn=>dh s n==a)=[]->iQ s ns (cE s)=af)/\∀m t,(l.filter λn=>dh s n==a)=m::t->(iQ s r (l.filter λx=>x !=m)).map ((us++[m])++·)=iQ s ns (cE s):=by
 have e:iQ s (a::r) l=((l.find? λn=>dh s n==a).bind λn=>(iQ s r (l.filter λm=>m !=n)).map λt=>n::t):=rfl;rw[e,TQ]at h;refine⟨λz=>?_,λm t z=>?_⟩
 ·rw[z]at h;exact h.symm
 ·rw[z]at h;rw[<-h];show _=((iQ s r (l.filter λx=>x !=m)).map λt=>m::t).map (us++·);rw[Option.map_map];congr 1;funext x;simp
def gI(s:State)(k:Nat):Nat:=(((s.uses[k]?).map (hC s)).getD []).length
def spanOf(s:State)(k:Nat):List Nat:=e0 (cn s k) (gI s k)
theorem p3{s:State}{k:Nat}{u:Use}(h:s.uses[k]? =U u):gI s k=(hC s u).length:=by unfold gI;rw[h];rfl
theorem j1{α:Type}{l:List α}{i:Nat}{x:α}(h:l[i]? =U x):l.take (i+1)=l.take i++[x]:=by obtain⟨av,e⟩:=ej.mp h;rw[HA av,e]
theorem Kf{s:State}{k:Nat}{u:Use}(h:s.uses[k]? =U u):cn s (k+1)=cn s k+(hC s u).length:=by unfold cn;rw[j1 h,k6,cA];simp;omega
theorem Ke{s:State}(g:Good s)(k:Nat):cn s k<=70:=by have h:=lT (f:=hC s) (m:=6) (l:=s.uses.take k) λu a4=>g.given (rV a4);have ag:=g.fst;have ai:=g.use;rw[fo]at h;unfold cn;omega
theorem aeC(s:State):cn s s.uses.length=(allNames s).length:=by unfold cn allNames;rw[hA,cA]
theorem v8(s:State)(k:Nat):cn s (k+1)=cn s k+gI s k:=by
 cases h:s.uses[k]? with
 |some u=>rw[Kf h,p3 h]
 |none=>have au:s.uses.length<=k:=qC.mp h;unfold gI cn;rw[h,pE aG,pE au];rfl
theorem n2(s:State){j k:Nat}(h:j<=k):cn s j<=cn s k:=by
 induction k with
 |zero=>
  have:j=0:=by omega
  rw[this];exact bR _
 |succ k ih=>
  by_cases e:j=k+1
  ·rw[e];exact bR _
  ·have:=ih aG;rw[v8];omega
theorem aje{a n x:Nat}:x∈e0 a n↔a<=x/\x<a+n:=by
 unfold e0;rw[fq];constructor
 ·rintro⟨i,av,rfl⟩;have:=gC.mp av;omega
 ·rintro⟨ag,ai⟩;exact⟨x-a,gC.mpr aG,aG⟩
theorem zB{s:State}{k x:Nat}:x∈spanOf s k↔cn s k<=x/\x<cn s (k+1):=by unfold spanOf;rw[aje,v8]
theorem span_len(a n:Nat):(e0 a n).length=n:=by unfold e0;simp
theorem ank(a n:Nat):(e0 a n).Nodup:=by
 unfold e0;have:∀l:List Nat,l.Nodup->(l.map λi=>a+i).Nodup:=by
  intro l;induction l with
  |nil=>intro _;exact qE
  |cons x r ih=>intro h;rw[dO,hz];refine⟨λz=>?_,ih (hz.mp h).2⟩;obtain⟨y,a_,e⟩:=fq.mp z;have:y=x:=aG;rw[this]at a_;exact(hz.mp h).1 a_
 exact this _ xt
theorem z3(n:Nat):e0 0 n=cf n:=by
 unfold e0;conv=>rhs;rw[<-j6 (cf n)]
 refine jB λi _=>?_;show 0+i=i;omega
theorem Xy(a b:Nat):cf a++e0 a b=cf (a+b):=by rw[aau];rfl
theorem anl(c a b:Nat):e0 c a++e0 (c+a) b=e0 c (a+b):=by unfold e0;rw[aau,eU,dn];congr 1;refine jB λi _=>?_;show c+a+i=c+(a+i);omega
theorem Py{s:State}{n:Nat}:∀{k:Nat},n<cn s k->n<s.first.length\/∃j,j<k/\n∈spanOf s j
 |0,h=>by
  have e:cn s 0=s.first.length:=by unfold cn;simp
  rw[e]at h;exact .inl h
 |k+1,h=>by
  by_cases aH:n<cn s k
  ·rcases Py aH with h|⟨j,bw,h⟩
   ·exact .inl h
   ·exact .inr ⟨j,aG,h⟩
  ·exact .inr ⟨k,aG,zB.mpr ⟨aG,h⟩⟩
theorem Et(s:State):cn s 0=s.first.length:=by unfold cn;simp
def b8(s:State)(ps:List Nat):List Nat:=cf s.first.length++ps.flatMap (spanOf s)
def f_(s:State)(p:Nat):List Nat:=((s.uses[p]?).map λu=>u.units).getD []
def k2(s:State)(p:Nat):Nat:=((s.uses[p]?).map λu=>u.recipe).getD 0
def eS(s:State)(ord:List Nat)(p:Nat):List Nat:=(f_ s p).map λn=>ord.idxOf n
def om(s:State)(ps:List Nat):State:={s with uses:=ps.map λp=>{recipe:=k2 s p,units:=eS s (b8 s ps) p}}
structure uJ(s:State)(ps:List Nat):Prop where
 ba:ps.Nodup
 lt:∀p∈ps,p<s.uses.length
 un:∀i p,ps[i]? =U p->∀n∈f_ s p,n∈b8 s (ps.take i)
theorem wW(s:State)(ps:List Nat)(p:Nat):b8 s (ps++[p])=b8 s ps++spanOf s p:=by unfold b8;rw[k6];simp
theorem Mo{s:State}{ps:List Nat}{n:Nat}:n∈b8 s ps↔n<s.first.length\/∃p∈ps,n∈spanOf s p:=by unfold b8;rw[gn,gC,pC]
theorem ani{s:State}{p q n:Nat}(ag:n∈spanOf s p)(ai:n∈spanOf s q):p=q:=by
 rw[zB]at ag ai;by_cases e:p=q
 ·exact e
 ·rcases aaA e with h|h
  ·have:=n2 s (show p+1<=q by omega);omega
  ·have:=n2 s (show q+1<=p by omega);omega
theorem anj{s:State}{p n:Nat}(ag:n∈spanOf s p):¬n<s.first.length:=by rw[zB]at ag;have:=n2 s (ec p);rw[Et]at this;omega
theorem MQ(s:State):∀ps:List Nat,ps.Nodup->(b8 s ps).Nodup:=by
 intro ps h;unfold b8;rw[qD];refine⟨xt,?_,λa ay b ak z=>?_⟩
 ·induction ps with
  |nil=>exact qE
  |cons p r ih=>rw[kM,qD];refine⟨ank _ _,ih (hz.mp h).2,λa ay b ak z=>?_⟩;subst z;obtain⟨q,aK,ak⟩:=pC.mp ak;rw[ani ay ak]at h;exact(hz.mp h).1 aK
 ·subst z;obtain⟨q,aK,ak⟩:=pC.mp ak;exact anj ak (gC.mp ay)
theorem Vh{l r:List Nat}{n:Nat}(h:n∈l):(l++r).idxOf n=l.idxOf n:=by rw[aan];simp[h]
theorem Lz{l:List Nat}{n:Nat}(h:n∈l):l.idxOf n<l.length:=PQ.mpr h
theorem aib{l:List Nat}{a b:Nat}(ay:a∈l)(ak:b∈l)(e:l.idxOf a=l.idxOf b):a=b:=by have ag:=Hs (Lz ay);have ai:=Hs (Lz ak);rw[<-ag,<-ai];congr 1
theorem F3{s:State}{ps:List Nat}{i:Nat}{n:Nat}(h:n∈b8 s (ps.take i)):n∈b8 s ps/\(b8 s ps).idxOf n=(b8 s (ps.take i)).idxOf n:=by
 have e:b8 s ps=b8 s (ps.take i)++(ps.drop i).flatMap (spanOf s):=by unfold b8;rw[j2,<-k6,Aj]
 rw[e];exact⟨Hu _ h,Vh h⟩
theorem alk(s:State)(ps:List Nat):(b8 s ps).length=s.first.length+(ps.map (gI s)).sum:=by
 unfold b8;rw[cA,e8];congr 1;induction ps with
 |nil=>rfl
 |cons p r ih=>rw[kM,cA,ih,dO,oy];congr 1;exact span_len _ _
theorem hb{s:State}{p:Nat}{u:Use}(h:s.uses[p]? =U u):f_ s p=u.units/\k2 s p=u.recipe:=by unfold f_ k2;rw[h];exact⟨I,I⟩
theorem Cr{ps:List Nat}{n:Nat}(h:ps.Nodup)(au:∀p∈ps,p<n):ps.length<=n:=by have:=apd h (l₂:=cf n) λp aO=>gC.mpr (au p aO);rwa[e8]at this
theorem amr{s:State}{ps:List Nat}{p:Nat}(aO:p<s.uses.length):(hC (om s ps) {recipe:=k2 s p,units:=eS s (b8 s ps) p}).length=gI s p:=by obtain⟨u,a4⟩:∃u,s.uses[p]? =U u:=⟨_,gB aO⟩;rw[p3 a4,(hb a4).2];rfl
theorem amq{s:State}{ps:List Nat}(h:uJ s ps)(i:Nat):cn (om s ps) i=(b8 s (ps.take i)).length:=by
 rw[alk];unfold cn;show s.first.length+(((ps.map λp=>({recipe:=k2 s p,units:=eS s (b8 s ps) p}:Use)).take i).flatMap (hC (om s ps))).length=_;congr 1;rw[<-Ai];have key:∀l:List Nat,(∀p∈l,p<s.uses.length)->((l.map λp=>({recipe:=k2 s p,units:=eS s (b8 s ps) p}:Use)).flatMap (hC (om s ps))).length=(l.map (gI s)).sum:=by
  intro l;induction l with
  |nil=>intro _;rfl
  |cons p r ih=>intro au;rw[dO,kM,cA,ih (λq aK=>au q (fe _ aK)),amr (au p (eB _)),dO,oy]
 exact key _ λp aO=>h.lt p (rV aO)
theorem KA{s:State}(g:Good s){ps:List Nat}(h:uJ s ps):Good (om s ps):=by
 have fU:∀p∈ps,∀n∈f_ s p,n∈b8 s ps:=λp aO n aC=>by obtain⟨i,av⟩:=Dg.mp aO;exact(F3 (h.un i p av n aC)).1
 refine⟨g.lA,g.hN,g.fst,g.wQ,?_,?_,?_,?_⟩
 ·show(ps.map _).length<=10;rw[aU];exact b3 (Cr h.ba h.lt) g.use
 ·intro x ao;obtain⟨p,aO,rfl⟩:=fq.mp ao;obtain⟨u,a4⟩:∃u,s.uses[p]? =U u:=⟨_,gB (h.lt p aO)⟩;have afE:=g.gP u (eN a4);show k2 s p<s.recipes.length/\1<=(eS s (b8 s ps) p).length/\_;unfold eS;rw[aU,(hb a4).1,(hb a4).2];exact afE
 ·intro i x ao n aC;have ao:(ps.map λp=>({recipe:=k2 s p,units:=eS s (b8 s ps) p}:Use))[i]? =U x:=ao;rw[dI]at ao;cases q:ps[i]? with
  |none=>rw[q]at ao;cases ao
  |some p=>rw[q]at ao;have ao:({recipe:=k2 s p,units:=eS s (b8 s ps) p}:Use)=x:=bS ao;subst ao;have aC:n∈(f_ s p).map λm=>(b8 s ps).idxOf m:=aC;obtain⟨m,hm,rfl⟩:=fq.mp aC;have:=h.un i p q m hm;rw[amq h,(F3 this).2];exact Lz this
 ·show((ps.map λp=>({recipe:=k2 s p,units:=eS s (b8 s ps) p}:Use)).flatMap (·.units)).Nodup;have e:(ps.map λp=>({recipe:=k2 s p,units:=eS s (b8 s ps) p}:Use)).flatMap (·.units)=(ps.flatMap (f_ s)).map λm=>(b8 s ps).idxOf m:=by rw[List.flatMap_map,List.map_flatMap];rfl
  rw[e];have ba:(ps.flatMap (f_ s)).Nodup:=by
   have p4:=g.Cq;have key:∀(us:List Use),(us.flatMap (·.units)).Nodup->(∀(i:Nat)(u:Use),us[i]? =U u->u.units.Nodup)/\∀(i j:Nat)(u v:Use)(n:Nat),us[i]? =U u->us[j]? =U v->n∈u.units->n∈v.units->i=j:=by
    intro us;induction us with
    |nil=>intro _;exact⟨λi u a4=>by simp at a4,λi j u v n a4=>by simp at a4⟩
    |cons x r ih=>
     intro rm;rw[kM,qD]at rm;obtain⟨ag,ai,aN⟩:=rm;obtain⟨ci,cU⟩:=ih ai;refine⟨λi u a4=>?_,λi j u v n a4 bU aC hm=>?_⟩
     ·cases i with
      |zero=>simp at a4;subst a4;exact ag
      |succ i=>exact ci i u (by simpa using a4)
     ·cases i with
      |zero=>
       simp at a4;subst a4;cases j with
       |zero=>rfl
       |succ j=>exact aro I (aN n aC n (pC.mpr ⟨v,eN (by simpa using bU),hm⟩))
      |succ i=>
       cases j with
       |zero=>simp at bU;subst bU;exact aro I (aN n hm n (pC.mpr ⟨u,eN (by simpa using a4),aC⟩))
       |succ j=>rw[cU i j u v n (by simpa using a4) (by simpa using bU) aC hm]
   obtain⟨co,fD⟩:=key s.uses p4;have ba:=h.ba;have lt:=h.lt;clear h fU e;induction ps with
   |nil=>exact qE
   |cons p r ih=>obtain⟨u,a4⟩:∃u,s.uses[p]? =U u:=⟨_,gB (lt p (eB _))⟩;rw[kM,qD];refine⟨by rw[(hb a4).1];exact co p u a4,ih (hz.mp ba).2 (λq aK=>lt q (fe _ aK)),λa ay b ak z=>?_⟩;subst z;obtain⟨q,aK,ak⟩:=pC.mp ak;obtain⟨v,bU⟩:∃v,s.uses[q]? =U v:=⟨_,gB (lt q (fe _ aK))⟩;rw[(hb a4).1]at ay;rw[(hb bU).1]at ak;rw[fD p q u v a a4 bU ay ak]at ba;exact(hz.mp ba).1 aK
  have inj:∀l:List Nat,l.Nodup->(∀a∈l,a∈b8 s ps)->(l.map λm=>(b8 s ps).idxOf m).Nodup:=by
   intro l;induction l with
   |nil=>intro _ _;exact qE
   |cons a r ih=>intro ag ai;rw[dO,hz];refine⟨λz=>?_,ih (hz.mp ag).2 λb ak=>ai b (fe _ ak)⟩;obtain⟨b,ak,e⟩:=fq.mp z;rw[aib (ai b (fe _ ak)) (ai a (eB _)) e]at ak;exact(hz.mp ag).1 ak
  refine inj _ ba λa ay=>?_;obtain⟨p,aO,ay⟩:=pC.mp ay;exact fU p aO a ay
def sw(k i:Nat):Nat:=if i=k then k+1 else if i=k+1 then k else i
theorem Pk(k i:Nat):sw k (sw k i)=i:=by
 unfold sw;by_cases ag:i=k
 ·subst ag;simp
 ·by_cases ai:i=k+1
  ·subst ai;simp
  ·simp[ag,ai]
theorem Ze{k i n:Nat}(aH:k+1<n)(h:i<n):sw k i<n:=by
 unfold sw;split
 ·exact aH
 ·split<;>omega
def hq(n k:Nat):List Nat:=(cf n).map (sw k)
theorem Ka{n k i:Nat}(h:i<n):(hq n k)[i]? =U (sw k i):=by unfold hq;rw[dI,rT h];rfl
theorem aew{n k i j:Nat}(av:i<=n):j∈(hq n k).take i↔∃m,m<i/\sw k m=j:=by
 unfold hq;rw[<-Ai,List.take_range,mU av,fq];constructor
 ·rintro⟨m,hm,e⟩;exact⟨m,gC.mp hm,e⟩
 ·rintro⟨m,hm,e⟩;exact⟨m,gC.mpr hm,e⟩
theorem nH{s:State}{p:Nat}(h:p<s.uses.length):∃u,s.uses[p]? =U u:=⟨_,gB h⟩
theorem Good.units{s:State}(g:Good s){p n:Nat}(aC:n∈f_ s p):n<cn s p:=by
 cases e:s.uses[p]? with
 |none=>unfold f_ at aC;rw[e]at aC;cases aC
 |some u=>rw[(hb e).1]at aC;exact g.A6 p u e n aC
theorem Vj{s:State}(g:Good s){k:Nat}(av:nT s k=ah){n:Nat}(aC:n∈f_ s (k+1)):n<cn s k:=by
 have ag:=g.units aC;unfold nT at av;cases aS:s.uses[k]? with
 |none=>rw[aS]at av;simp at av
 |some u=>
  cases aQ:s.uses[k+1]? with
  |none=>unfold f_ at aC;rw[aQ]at aC;cases aC
  |some v=>rw[aS,aQ]at av;rw[(hb aQ).1]at aC;rw[Kf aS]at ag;simp only[PI,Hm]at av;have:=av n aC;simp at this;omega
theorem Ep{s:State}(g:Good s){k:Nat}(aH:k+1<s.uses.length)(av:nT s k=ah):uJ s (hq s.uses.length k):=by
 refine⟨?_,λp aO=>?_,λi p aO n aC=>?_⟩
 ·unfold hq;have:∀l:List Nat,l.Nodup->(l.map (sw k)).Nodup:=by
   intro l;induction l with
   |nil=>intro _;exact qE
   |cons x r ih=>
    intro h;rw[dO,hz];refine⟨λz=>?_,ih (hz.mp h).2⟩;obtain⟨y,a_,e⟩:=fq.mp z;have:y=x:=by rw[<-Pk k y,e,Pk]
    rw[this]at a_;exact(hz.mp h).1 a_
  exact this _ xt
 ·obtain⟨i,av,rfl⟩:=fq.mp aO;exact Ze aH (gC.mp av)
 ·have fU:i<s.uses.length:=by have:=(ej.mp aO).1;unfold hq at this;rwa[aU,e8]at this
  rw[Ka fU]at aO;have aO:=(bS aO).symm;have Ex:∀{Fo:Nat},n<cn s Fo->(∀j,j<Fo->∃m,m<i/\sw k m=j)->n∈b8 s ((hq s.uses.length k).take i):=λ{Fo}aC bw=>by
   rw[Mo];rcases Py aC with h|⟨j,agL,h⟩
   ·exact .inl h
   ·exact .inr ⟨j,(aew (kN fU)).mpr (bw j agL),h⟩
  have BX:∀m,m<k->sw k m=m:=λm hm=>by unfold sw;rw[ars aG,ars aG]
  by_cases cq:i<k
  ·rw[BX i cq]at aO;subst aO;exact Ex (g.units aC) λj bw=>⟨j,bw,BX j aG⟩
  ·by_cases cF:i=k
   ·subst cF;have e:sw i i=i+1:=by unfold sw;simp
    rw[e]at aO;subst aO;exact Ex (Vj g av aC) λj bw=>⟨j,bw,BX j bw⟩
   ·by_cases eV:i=k+1
    ·subst eV;have e:sw k (k+1)=k:=by unfold sw;simp
     rw[e]at aO;subst aO;exact Ex (g.units aC) λj bw=>⟨j,aG,BX j bw⟩
    ·have e:sw k i=i:=by unfold sw;rw[ars cF,ars eV]
     rw[e]at aO;subst aO;refine Ex (g.units aC) λj bw=>⟨sw k j,?_,Pk k j⟩;unfold sw;split
     ·omega
     ·split<;>omega
theorem MR(s:State):∀k:Nat,b8 s (cf k)=cf (cn s k)
 |0=>by rw[Et];unfold b8;simp
 |k+1=>by rw[pD,wW,MR s k,v8];unfold spanOf;rw[Xy]
theorem O'{a n i:Nat}(h:i<n):(e0 a n)[i]? =U (a+i):=by unfold e0;rw[dI,rT h];rfl
theorem aey{s:State}{k:Nat}(aH:k+1<s.uses.length):b8 s (hq s.uses.length k)=cf (cn s k)++(e0 (cn s (k+1)) (gI s (k+1))++(e0 (cn s k) (gI s k)++e0 (cn s (k+2)) (cn s s.uses.length-cn s (k+2)))):=by
 have key:∀m,k+2+m<=s.uses.length->b8 s ((cf (k+2+m)).map (sw k))=cf (cn s k)++(e0 (cn s (k+1)) (gI s (k+1))++(e0 (cn s k) (gI s k)++e0 (cn s (k+2)) (cn s (k+2+m)-cn s (k+2)))):=by
  intro m;induction m with
  |zero=>
   intro _;have e:(cf (k+2)).map (sw k)=cf k++[k+1]++[k]:=by
    rw[pD,pD,eU,eU];have aS:(cf k).map (sw k)=cf k:=by
     conv=>rhs;rw[<-j6 (cf k)]
     refine jB λi av=>?_;have:=gC.mp av;unfold sw;rw[ars aG,ars aG];rfl
    rw[aS];simp[sw]
   rw[HB,e,wW,wW,MR,Al];unfold spanOf;simp[e0]
  |succ m ih=>
   intro hm;rw[show k+2+(m+1)=(k+2+m)+1 by omega,pD,eU];have e:[k+2+m].map (sw k)=[k+2+m]:=by show[sw k (k+2+m)]=_;unfold sw;rw[ars aG,ars aG]
   rw[e,wW,ih aG];have ag:=n2 s (show k+2<=k+2+m by omega);have ai:=v8 s (k+2+m);have aQ:e0 (cn s (k+2)) (cn s (k+2+m)-cn s (k+2))++spanOf s (k+2+m)=e0 (cn s (k+2)) (cn s (k+2+m+1)-cn s (k+2)):=by
    unfold spanOf;have b0:cn s (k+2+m)=cn s (k+2)+(cn s (k+2+m)-cn s (k+2)):=aG;rw[ai];conv=>lhs;rw[show e0 (cn s (k+2+m))=e0 (cn s (k+2)+(cn s (k+2+m)-cn s (k+2)))by rw[<-b0]]
    rw[anl];congr 1;omega
   rw[<-aQ];simp[j2]
 have:=key (s.uses.length-(k+2)) aG;rw[show k+2+(s.uses.length-(k+2))=s.uses.length by omega]at this;exact this
theorem aic{l:List Nat}(au:l.Nodup){i n:Nat}(h:l[i]? =U n):l.idxOf n=i:=by obtain⟨av,e⟩:=ej.mp h;rw[<-e];exact apc au i av
theorem aex{s:State}(g:Good s){k:Nat}(aH:k+1<s.uses.length)(av:nT s k=ah){n:Nat}(aC:n<cn s s.uses.length):(b8 s (hq s.uses.length k)).idxOf n=AK (cn s k) (gI s k) (gI s (k+1)) n:=by
 refine aic (MQ s _ (Ep g aH av).ba) ?_;rw[aey aH];have ag:=v8 s k;have ai:cn s (k+2)=cn s (k+1)+gI s (k+1):=v8 s (k+1);have aN:=n2 s (show k+2<=s.uses.length by omega);unfold AK;by_cases cq:n<cn s k
 ·rw[art cq,pA (by rw[e8];exact cq),rT cq]
 ·rw[ars cq];by_cases cF:n<cn s k+gI s k
  ·rw[art cF,mS (by rw[e8];omega),e8,mS (by rw[span_len];omega),span_len,pA (by rw[span_len];omega),O' aG];congr 1;omega
  ·rw[ars cF];by_cases eV:n<cn s k+gI s k+gI s (k+1)
   ·rw[art eV,mS (by rw[e8];omega),e8,pA (by rw[span_len];omega),O' aG];congr 1;omega
   ·rw[ars eV,mS (by rw[e8];omega),e8,mS (by rw[span_len];omega),span_len,mS (by rw[span_len];omega),span_len,O' aG];congr 1;omega
theorem Mn{l:List Nat}{f:Nat->Nat}(h:∀n∈l,f n=n):l.map f=l:=by
 conv=>rhs;rw[<-j6 l]
 exact jB h
theorem Kb{s:State}(g:Good s){k:Nat}(aH:k+1<s.uses.length)(av:nT s k=ah):nS s k=om s (hq s.uses.length k):=by
 obtain⟨u,a4⟩:=nH (s:=s) (p:=k) aG;obtain⟨v,bU⟩:=nH aH;have e:nS s k={s with uses:=s.uses.take k++(v::u::(s.uses.drop (k+2)).map λw=>{w with units:=w.units.map (AK (cn s k) (hC s u).length (hC s v).length)})}:=by unfold nS;rw[a4,bU]
 rw[e];unfold om;congr 1;rw[<-p3 a4,<-p3 bU];have dD:∀p n,p<s.uses.length->n∈f_ s p->n<cn s s.uses.length:=λp n aO aC=>h5 (g.units aC) (n2 s (kN aO));have small:∀n,n<cn s k->AK (cn s k) (gI s k) (gI s (k+1)) n=n:=λn h=>by unfold AK;rw[art h]
 refine aah λi=>?_;rw[dI];by_cases fU:i<s.uses.length
 ·rw[Ka fU];have n6:∀p,p<s.uses.length->eS s (b8 s (hq s.uses.length k)) p=(f_ s p).map (AK (cn s k) (gI s k) (gI s (k+1))):=λp aO=>by unfold eS;exact jB λn aC=>aex g aH av (dD p n aO aC)
  show _=U ({recipe:=k2 s (sw k i),units:=eS s (b8 s (hq s.uses.length k)) (sw k i)}:Use);rw[n6 _ (Ze aH fU)];by_cases cq:i<k
  ·rw[pA (by rw[fo];omega),Df cq];have es:sw k i=i:=by unfold sw;rw[ars aG,ars aG]
   obtain⟨x,ao⟩:=nH fU;rw[es,ao,(hb ao).1,(hb ao).2,Mn λn aC=>small n ?_];exact h5 (g.A6 i x ao n aC) (n2 s (kN cq))
  ·rw[mS (by rw[fo];omega),fo,mU aG];by_cases cF:i=k
   ·subst cF;have es:sw i i=i+1:=by unfold sw;simp
    rw[Al,es,(hb bU).2,Mn λn aC=>small n (Vj g av aC),(hb bU).1];rfl
   ·by_cases eV:i=k+1
    ·subst eV;have es:sw k (k+1)=k:=by unfold sw;simp
     rw[show k+1-k=1 by omega,es,(hb a4).2,Mn λn aC=>small n (g.units aC),(hb a4).1];rfl
    ·have es:sw k i=i:=by unfold sw;rw[ars cF,ars eV]
     obtain⟨x,ao⟩:=nH fU;rw[show i-k=(i-(k+2))+1+1 by omega,Hq,Hq,dI,Hr,show k+2+(i-(k+2))=i by omega,ao,es,(hb ao).1,(hb ao).2];rfl
 ·have aS:(hq s.uses.length k)[i]? =af:=qC.mpr (by unfold hq;rw[aU,e8];omega);rw[aS];exact qC.mpr (by rw[cA,fo,cW,cW,aU,j3];omega)
theorem aez{n k:Nat}(aH:k+1<n):(cf n).take k++([k+1,k]++(cf n).drop (k+2))=hq n k:=by
 refine aah λi=>?_;by_cases fU:i<n
 ·rw[Ka fU];by_cases cq:i<k
  ·rw[pA (by rw[fo,e8];omega),Df cq,rT fU];unfold sw;rw[ars aG,ars aG]
  ·rw[mS (by rw[fo,e8];omega),fo,e8,mU aG];by_cases cF:i=k
   ·subst cF;rw[Al];unfold sw;simp
   ·by_cases eV:i=k+1
    ·subst eV;rw[show k+1-k=1 by omega];unfold sw;simp
    ·rw[mS (by show 2<=_;omega)];show((cf n).drop (k+2))[i-k-2]? =_;rw[Hr,show k+2+(i-k-2)=i by omega,rT fU];unfold sw;rw[ars cF,ars eV]
 ·have aS:(hq n k)[i]? =af:=qC.mpr (by unfold hq;rw[aU,e8];omega);rw[aS];exact qC.mpr (by simp;omega)
theorem Jv:∀(a c b:List Nat),before a c=ah->before a b=ah\/before b c=ah
 |[],[],b,h=>by simp[before]at h
 |_::_,[],b,h=>by simp[before]at h
 |[],_::_,[],h=>.inr I
 |[],_::_,_::_,h=>.inl I
 |_::_,_::_,[],h=>.inr I
 |x::r,z::t,y::u,h=>by
  simp only[before,pz,decide_eq_true_eq,e7,beq_iff_eq]at h⊢;by_cases cq:x<y
  ·exact .inl (.inl cq)
  ·by_cases cF:y<z
   ·exact .inr (.inl cF)
   ·rcases h with h|⟨rfl,h⟩
    ·omega
    ·have e:x=y:=by omega
     subst e;rcases Jv r t u h with h|h
     ·exact .inl (.inr ⟨I,h⟩)
     ·exact .inr (.inr ⟨I,h⟩)
theorem Rj:∀(a b:List Nat),before a b=ah->before b a=aE
 |[],[],h=>by simp[before]at h
 |_::_,[],h=>by simp[before]at h
 |[],_::_,h=>rfl
 |x::r,y::u,h=>by
  simp only[before,pz,decide_eq_true_eq,e7,beq_iff_eq,Ad,decide_eq_false_iff_not,Hg]at h⊢;rcases h with h|⟨rfl,h⟩
  ·exact⟨aG,λe=>aG⟩
  ·exact⟨aG,λ_=>Rj r u h⟩
def gZ(c0:Nat->List Nat):Nat->List Nat->Nat
 |b,[]=>b
 |b,x::r=>if before (c0 x) (c0 b)=ah then gZ c0 x r else gZ c0 b r
theorem W3(c0:Nat->List Nat)(b x:Nat)(r:List Nat):gZ c0 b (x::r)=if before (c0 x) (c0 b)=ah then gZ c0 x r else gZ c0 b r:=rfl
theorem F8(c0:Nat->List Nat):∀(r:List Nat)(b:Nat),gZ c0 b r∈b::r
 |[],b=>eB _
 |x::r,b=>by
  unfold gZ;split
  ·exact fe _ (F8 c0 r x)
  ·rcases ek.mp (F8 c0 r b)with h|h
   ·rw[h];exact eB _
   ·exact fe _ (fe _ h)
theorem Mg(c0:Nat->List Nat):∀(r:List Nat)(b:Nat),Ie ((b::r).map λk=>({place:=k,units:=c0 k}:Left))=U {place:=gZ c0 b r,units:=c0 (gZ c0 b r)}
 |[],b=>rfl
 |x::r,b=>by
  have li:=Mg c0 r x;have rp:=Mg c0 r b;rw[dO];unfold Ie;rw[li];dsimp only;rw[W3];rw[dO]at li rp;unfold Ie at li rp;cases hm:Ie (r.map λk=>({place:=k,units:=c0 k}:Left))with
  |none=>
   rw[hm]at li rp;have aS:x=gZ c0 x r:=congrArg ab7 (bS li);have aQ:b=gZ c0 b r:=congrArg ab7 (bS rp);rw[<-aS,<-aQ];by_cases c:before (c0 x) (c0 b)=ah
   ·rw[art c,art c]
   ·rw[ars c,ars c]
  |some m=>
   rw[hm]at li rp;dsimp only at li rp;by_cases cq:before (c0 x) (c0 b)=ah
   ·rw[art cq];have:before (c0 (gZ c0 x r)) (c0 b)=ah:=by
     rcases Jv _ _ (c0 (gZ c0 x r)) cq with h|h
     ·by_cases cF:before m.units (c0 x)=ah
      ·rw[art cF]at li;have e:=congrArg Ia (bS li);have e:m.units=c0 (gZ c0 x r):=e;rw[<-e]at h;rw[Rj _ _ h]at cF;exact aro cF eM
      ·rw[ars cF]at li;have e:c0 x=c0 (gZ c0 x r):=congrArg Ia (bS li);rw[<-e];exact cq
     ·exact h
    rw[art this]
   ·rw[ars cq];by_cases cF:before m.units (c0 x)=ah
    ·rw[art cF]at li;have e:m.units=c0 (gZ c0 x r):=congrArg Ia (bS li);rw[<-li,<-e,<-rp]
    ·rw[ars cF]at li;have e:c0 x=c0 (gZ c0 x r):=congrArg Ia (bS li);rw[<-e,ars cq];have eV:¬before m.units (c0 b)=ah:=λh=>by
      rcases Jv _ _ (c0 x) h with h|h
      ·exact cF h
      ·exact cq h
     rw[ars eV]at rp;rw[<-rp]
theorem anm(a n:Nat):e0 a (n+1)=a::e0 (a+1) n:=by unfold e0;rw[PU,dO,dn];congr 1;refine jB λi _=>?_;show a+(i+1)=a+1+i;omega
theorem Wg(n:Nat):∀(ord:List Nat)(a:Nat),DK (ord.zip (e0 a ord.length)) n=if n∈ord then U (a+ord.idxOf n)else af
 |[],a=>by simp[DK,e0]
 |x::r,a=>by
  have ih:=Wg n r (a+1);rw[cW,anm,aay];unfold DK at ih⊢;by_cases e:x=n
  ·subst e;simp
  ·have ak:(x==n)=aE:=by simpa using e
   rw[nM];dsimp only;rw[ak];dsimp only;rw[ih];have:(n∈x::r)=(n∈r):=by simp[bQ e]
   simp only[this,List.idxOf_cons,ak,cond_false];split
   ·congr 1;omega
   ·rfl
theorem ajS(ord:List Nat)(n:Nat):DK (ord.zip (cf ord.length)) n=if n∈ord then U (ord.idxOf n)else af:=by have:=Wg n ord 0;rw[z3,Am]at this;exact this
theorem Q9(ord:List Nat):∀l:List Nat,ab4 (l.map (DK (ord.zip (cf ord.length))))=if(l.all λn=>ord.contains n)=ah then U (l.map λn=>ord.idxOf n)else af
 |[]=>rfl
 |a::r=>by
  rw[dO];unfold ab4;rw[Q9 ord r,ajS];by_cases cq:a∈ord
  ·by_cases cF:(r.all λn=>ord.contains n)=ah
   ·rw[art cq,art cF,art (by rw[nK,cF];simpa using cq)];rfl
   ·rw[art cq,ars cF,ars (by rw[nK,e7];exactλh=>cF h.2)];rfl
  ·have eV:¬((a::r).all λn=>ord.contains n)=ah:=by rw[nK,e7];exactλh=>cq (by simpa using h.1)
   rw[ars cq,ars eV];rfl
def ko(s:State)(ord:List Nat)(k:Nat):Bool:=(f_ s k).all λn=>ord.contains n
theorem XF(s:State)(ord:List Nat):∀left:List Nat,(∀k∈left,k<s.uses.length)->readyOf s (ord.zip (cf ord.length)) left=(left.filter (ko s ord)).map λk=>{place:=k,units:=eS s ord k}
 |[],_=>rfl
 |k::r,h=>by
  have ih:=XF s ord r λj bw=>h j (fe _ bw);obtain⟨u,a4⟩:=nH (h k (eB _));unfold readyOf at ih⊢;rw[Af,ih,a4];rw[Option.bind_some,Q9];have e:ko s ord k=u.units.all λn=>ord.contains n:=by unfold ko;rw[(hb a4).1]
  rw[nL,e];by_cases c:(u.units.all λn=>ord.contains n)=ah
  ·rw[art c,art c,dO];show _::_=_;congr 2;unfold eS;rw[(hb a4).1]
  ·rw[ars c,ars c];rfl
def qw(s:State):Nat->List Nat->List Nat->List Nat
 |0,ps,_=>ps
 |f+1,ps,left=>match left.filter (ko s (b8 s ps))with
  |[]=>ps
  |x::r=>qw s f (ps++[gZ (eS s (b8 s ps)) x r]) (left.filter λk=>k !=gZ (eS s (b8 s ps)) x r)
theorem ajT{s:State}{ps iz:List Nat}{p:Nat}(h:∀n∈f_ s p,n∈b8 s ps):eS s (b8 s (ps++iz)) p=eS s (b8 s ps) p:=by
 unfold eS;refine jB λn aC=>?_;have:ps=(ps++iz).take ps.length:=bl;have d4:=h n aC;conv at d4=>rw[this]
 rw[(F3 d4).2,<-this]
theorem Gi{s:State}{ord:List Nat}{k:Nat}(h:ko s ord k=ah):∀n∈f_ s k,n∈ord:=λn aC=>by unfold ko at h;have:=jA.mp h n aC;simpa using this
theorem Zz(s:State):∀(f:Nat)(ps left:List Nat),(∀k∈left,k<s.uses.length)->∃iz,qw s f ps left=ps++iz/\toldFrom s f ((b8 s ps).zip (cf (b8 s ps).length)) (b8 s ps).length left=iz.map λp=>{place:=p,units:=eS s (b8 s (ps++iz)) p}
 |0,ps,left,_=>⟨[],by simp[qw],I⟩
 |f+1,ps,left,h=>by
  unfold qw toldFrom;rw[XF s _ left h];cases aL:left.filter (ko s (b8 s ps))with
  |nil=>exact⟨[],bl,I⟩
  |cons x r=>
   rw[Mg];dsimp only;have aO:gZ (eS s (b8 s ps)) x r∈left.filter (ko s (b8 s ps)):=by rw[aL];exact F8 _ _ _
   generalize gZ (eS s (b8 s ps)) x r=p at*;have aO:=j8.mp aO;obtain⟨iz,ag,ai⟩:=Zz s f (ps++[p]) (left.filter λk=>k !=p) λk aH=>h k (j8.mp aH).1;refine⟨p::iz,by rw[ag,j2];rfl,?_⟩;rw[dO];have aS:(((s.uses[p]?).map (hC s)).getD []).length=gI s p:=rfl;rw[aS];have aQ:(b8 s ps).zip (cf (b8 s ps).length)++(e0 (cn s p) (gI s p)).zip (e0 (b8 s ps).length (gI s p))=(b8 s (ps++[p])).zip (cf (b8 s (ps++[p])).length):=by rw[wW,cA];unfold spanOf;rw[span_len,<-Xy,PX (by rw[e8])]
   have b0:(b8 s ps).length+gI s p=(b8 s (ps++[p])).length:=by rw[wW,cA];unfold spanOf;rw[span_len]
   rw[aQ,b0,ai];congr 1
   ·rw[ajT (Gi aO.2)]
   ·rw[j2];rfl
structure kQ(s:State)(ps left:List Nat):Prop where
 ok:uJ s ps
 lf:left=(cf s.uses.length).filter λk=>!ps.contains k
theorem kQ.lt{s:State}{ps left:List Nat}(h:kQ s ps left):∀k∈left,k<s.uses.length:=λk aH=>by rw[h.lf]at aH;exact gC.mp (j8.mp aH).1
theorem kQ.ba{s:State}{ps left:List Nat}(h:kQ s ps left):left.Nodup:=by rw[h.lf];exact Hl _ xt
theorem kQ.start(s:State):kQ s [] (cf s.uses.length):=by refine⟨⟨qE,(λp aO=>nomatch aO),(λi p aO=>nomatch aO)⟩,?_⟩;exact(aai.mpr λk _=>I).symm
theorem kQ.amj{s:State}(g:Good s){ps left:List Nat}(h:kQ s ps left){x:Nat}{r:List Nat}(au:left=x::r):ko s (b8 s ps) x=ah:=by
 have hf:(cf s.uses.length).find? (λk=>!ps.contains k)=U x:=by rw[<-List.head?_filter,<-h.lf,au];rfl
 rw[PL]at hf;obtain⟨ag,ai,aN⟩:=hf;unfold ko;rw[jA];intro n aC;have:n∈b8 s ps:=by
  rw[Mo];rcases Py (g.units aC)with h|⟨j,bw,h⟩
  ·exact .inl h
  ·refine .inr ⟨j,?_,h⟩;have:=aN j bw;simpa using this
 simpa using this
theorem kQ.step{s:State}(g:Good s){ps left:List Nat}(h:kQ s ps left)(au:left≠[]):∃x r,left.filter (ko s (b8 s ps))=x::r/\gZ (eS s (b8 s ps)) x r∈left/\(∀n∈f_ s (gZ (eS s (b8 s ps)) x r),n∈b8 s ps)/\kQ s (ps++[gZ (eS s (b8 s ps)) x r]) (left.filter λk=>k !=gZ (eS s (b8 s ps)) x r):=by
 obtain⟨y,t,a_⟩:∃y t,left=y::t:=by
  cases left with
  |nil=>exact aro I au
  |cons y t=>exact⟨y,t,I⟩
 have aL:=h.amj g a_;obtain⟨x,r,ao⟩:∃x r,left.filter (ko s (b8 s ps))=x::r:=by rw[a_,nL,art aL];exact⟨_,_,I⟩
 have aO:gZ (eS s (b8 s ps)) x r∈left.filter (ko s (b8 s ps)):=by rw[ao];exact F8 _ _ _
 have aO:=j8.mp aO;refine⟨x,r,ao,aO.1,Gi aO.2,?_⟩;generalize gZ (eS s (b8 s ps)) x r=p at*;have E6:p<s.uses.length/\p∉ps:=by have:=aO.1;rw[h.lf]at this;have:=j8.mp this;exact⟨gC.mp this.1,by simpa using this.2⟩
 refine⟨⟨?_,λq aK=>?_,λi q aK n aC=>?_⟩,?_⟩
 ·rw[qD];exact⟨h.ok.ba,bl,λa ay b ak=>by rw[gp.mp ak];exactλz=>E6.2 (z▸ay)⟩
 ·rcases gn.mp aK with aK|aK
  ·exact h.ok.lt q aK
  ·rw[gp.mp aK];exact E6.1
 ·by_cases c:i<ps.length
  ·rw[pA c]at aK;rw[PW (kN c)];exact h.ok.un i q aK n aC
  ·rw[mS aG]at aK;have av:i=ps.length:=by have:=(ej.mp aK).1;simp at this;omega
   subst av;rw[Al]at aK;have aK:U p=U q:=aK;cases aK;rw[PW (bR _),hA];exact Gi aO.2 n aC
 ·rw[h.lf,PK];refine Ho λk _=>?_;simp[Z7];by_cases e:k=p
  ·subst e;simp
  ·simp[e]
theorem kQ.X9{s:State}{ps left:List Nat}(h:kQ s ps left){p:Nat}(aO:p∈left):(left.filter λk=>k !=p)=left.erase p/\(left.filter λk=>k !=p).length+1=left.length:=by have e:=h.ba.erase_eq_filter p;refine⟨e.symm,?_⟩;rw[<-e,List.length_erase_of_mem aO];have:0<left.length:=List.length_pos_of_mem aO;omega
theorem ZD{s:State}(g:Good s):∀(f:Nat)(ps left:List Nat),kQ s ps left->left.length=f->uJ s (qw s f ps left)/\(qw s f ps left).length=ps.length+f
 |0,ps,left,h,au=>⟨h.ok,I⟩
 |f+1,ps,left,h,au=>by obtain⟨x,r,ao,aO,a4,bV⟩:=h.step g (λz=>by rw[z]at au;cases au);have aP:=h.X9 aO;have ih:=ZD g f _ _ bV aG;unfold qw;rw[ao];dsimp only;refine⟨ih.1,?_⟩;rw[ih.2,cA,j5];omega
def i9(s:State):List Nat:=qw s s.uses.length [] (cf s.uses.length)
theorem Pr{s:State}(g:Good s):uJ s (i9 s)/\(i9 s).length=s.uses.length:=by have:=ZD g s.uses.length [] (cf s.uses.length) (kQ.start s) (by rw[e8]);unfold i9;exact⟨this.1,by rw[this.2];simp⟩
theorem ZA(s:State):toldLeft s=(i9 s).map λp=>{place:=p,units:=eS s (b8 s (i9 s)) p}:=by
 obtain⟨iz,ag,ai⟩:=Zz s s.uses.length [] (cf s.uses.length) λk aH=>gC.mp aH;rw[t6]at ag;have e:i9 s=iz:=ag;rw[e];unfold toldLeft;have cZ:b8 s []=e0 0 s.first.length:=by unfold b8;rw[z3];simp
 rw[t6,cZ,span_len]at ai;rw[<-ai];congr 1;rw[z3]
theorem ZC(s:State):AL s=om s (i9 s):=by unfold AL om;rw[ZA,dn];rfl
def pa(ps:List Nat):Nat:=((cf ps.length).zip ps).countP λz=>z.1 !=z.2
theorem ajq{s:State}(g:Good s):DJ s=pa (i9 s):=by unfold DJ pa;rw[ZA,(Pr g).2,aaz,List.countP_map];rfl
end G
namespace G
open Vaneta (Formula Text Name isName dual form)
open Vanetm
theorem Kg:∀ns:List Name,ns≠[]->flat (k_ ns)=ns.dropLast.flatMap (λa=>[[42],codes a])++(ns.drop (ns.length-1)).map codes
 |[],h=>aro I h
 |[a],_=>rfl
 |a::b::r,_=>by have ih:=Kg (b::r) bl;show[42]::([codes a]++flat (k_ (b::r)))=_;rw[ih];rfl
theorem za:∀ns:List Name,ns≠[]->(∀a∈ns,gb a=ah)->dJ (k_ ns)
 |[],h,_=>aro I h
 |[a],_,h=>h a (eB _)
 |a::b::r,_,h=>⟨h a (eB _),za (b::r) bl λc aF=>h c (fe _ aF)⟩
abbrev Ent:=List Nat×List Nat
def hL(n:List Nat):Bool:=decide (n=[42])||decide (n=[124])
def brk(t:List Nat)(b:Bool):List Nat:=if b=ah then 40::(t++[41])else t
def hr(st:List Ent)(n:List Nat):List Ent:=if hL n=ah then match st with
 |f::s::r=>(n,brk f.2 (hL f.1)++n++brk s.2 (decide (s.1=fY n)))::r
 |_=>st
 else(n,n)::st
def l':Formula->List Nat
 | .atom aE a=>codes a
 | .atom ah a=>126::codes a
 | .tensor _ _=>[42]
 | .par _ _=>[124]
 |_=>[]
theorem Cx{a:dT}(h:gb a=ah):hL (codes a)=aE:=by
 obtain⟨c,r,e,aP,_⟩:=mJ h;unfold hL;rw[e];unfold jX at aP;simp at aP;simp;constructor
 ·intro z;omega
 ·intro z;omega
theorem MO(l:List Nat):hL (126::l)=aE:=by unfold hL;simp
theorem F4(b:Bool)(t:dT):codes (ab6 b t)=brk (codes t) b:=by
 unfold ab6 brk;cases b with
 |true=>simp[codes]
 |false=>rfl
theorem X_:∀A:Formula,dJ A->(pJ A !=0)=hL (l' A)
 | .atom aE a,h=>by rw[show l' (.atom aE a)=codes a from I,Cx h];rfl
 | .atom ah a,h=>by rw[show l' (.atom ah a)=126::codes a from I,MO];rfl
 | .tensor _ _,_=>rfl
 | .par _ _,_=>rfl
 | .wth _ _,h=>h.elim
 | .plus _ _,h=>h.elim
 | .ofc _,h=>h.elim
 | .whn _,h=>h.elim
theorem anb:∀A:Formula,dJ A->(pJ A !=0&&pJ A !=42)=decide (l' A=fY [42])
 | .atom aE a,h=>by have:=Cx h;unfold hL at this;simp only[Ad]at this;rw[show fY [42]=[124]from I,show l' (.atom aE a)=codes a from I,this.2];rfl
 | .atom ah a,h=>by rw[show fY [42]=[124]from I,show l' (.atom ah a)=126::codes a from I];simp[pJ]
 | .tensor _ _,_=>rfl
 | .par _ _,_=>rfl
 | .wth _ _,h=>h.elim
 | .plus _ _,h=>h.elim
 | .ofc _,h=>h.elim
 | .whn _,h=>h.elim
theorem ana:∀A:Formula,dJ A->(pJ A !=0&&pJ A !=124)=decide (l' A=fY [124])
 | .atom aE a,h=>by have:=Cx h;unfold hL at this;simp only[Ad]at this;rw[show fY [124]=[42]from I,show l' (.atom aE a)=codes a from I,this.1];rfl
 | .atom ah a,h=>by rw[show fY [124]=[42]from I,show l' (.atom ah a)=126::codes a from I];simp[pJ]
 | .tensor _ _,_=>rfl
 | .par _ _,_=>rfl
 | .wth _ _,h=>h.elim
 | .plus _ _,h=>h.elim
 | .ofc _,h=>h.elim
 | .whn _,h=>h.elim
theorem p2:∀(A:Formula),dJ A->∀st,(flat A).reverse.foldl hr st=(l' A,codes (gQ A))::st
 | .atom aE a,h,st=>by show hr st (codes a)=_;unfold hr;rw[Cx h];rfl
 | .atom ah a,h,st=>by show hr st (126::codes a)=_;unfold hr;rw[MO];rfl
 | .tensor A B,h,st=>by show([42]::(flat A++flat B)).reverse.foldl hr st=_;rw[t7,Hy,qB,qB,p2 B h.2,p2 A h.1];show([42],brk (codes (gQ A)) (hL (l' A))++[42]++brk (codes (gQ B)) (decide (l' B=fY [42])))::st=_;congr 2;show _=codes (H8 42 (pJ A) (pJ B) (gQ A) (gQ B));unfold H8;rw[<-X_ A h.1,<-anb B h.2,<-F4,<-F4];simp[codes]
 | .par A B,h,st=>by show([124]::(flat A++flat B)).reverse.foldl hr st=_;rw[t7,Hy,qB,qB,p2 B h.2,p2 A h.1];show([124],brk (codes (gQ A)) (hL (l' A))++[124]++brk (codes (gQ B)) (decide (l' B=fY [124])))::st=_;congr 2;show _=codes (H8 124 (pJ A) (pJ B) (gQ A) (gQ B));unfold H8;rw[<-X_ A h.1,<-ana B h.2,<-F4,<-F4];simp[codes]
 | .wth _ _,h,_=>h.elim
 | .plus _ _,h,_=>h.elim
 | .ofc _,h,_=>h.elim
 | .whn _,h,_=>h.elim
def safe:List (List Nat)->List Ent->Prop
 |[],_=>True
 |n::r,st=>(hL n=ah->2<=st.length)/\safe r (hr st n)
theorem CF:∀(l r:List (List Nat))(st:List Ent),safe l st->safe r (l.foldl hr st)->safe (l++r) st
 |[],_,_,_,h=>h
 |n::l,r,st,ag,ai=>⟨ag.1,CF l r _ ag.2 ai⟩
theorem CG:∀(A:Formula),dJ A->∀st,safe (flat A).reverse st
 | .atom aE a,h,st=>⟨λz=>(by rw[Cx h]at z;cases z),trivial⟩
 | .atom ah a,h,st=>⟨λz=>(by rw[MO]at z;cases z),trivial⟩
 | .tensor A B,h,st=>by show safe ([42]::(flat A++flat B)).reverse st;rw[t7,Hy];refine CF _ _ _ (CF _ _ _ (CG B h.2 st) (CG A h.1 _)) ⟨λ_=>?_,trivial⟩;rw[qB,p2 B h.2,p2 A h.1];simp
 | .par A B,h,st=>by show safe ([124]::(flat A++flat B)).reverse st;rw[t7,Hy];refine CF _ _ _ (CF _ _ _ (CG B h.2 st) (CG A h.1 _)) ⟨λ_=>?_,trivial⟩;rw[qB,p2 B h.2,p2 A h.1];simp
 | .wth _ _,h,_=>h.elim
 | .plus _ _,h,_=>h.elim
 | .ofc _,h,_=>h.elim
 | .whn _,h,_=>h.elim
def lC(st:List Ent):Nat:=(st.map λe=>e.2.length+2).sum
def kI(l:List (List Nat)):Nat:=(l.map λn=>n.length+2).sum
theorem aoI(l r:List (List Nat)):kI (l++r)=kI l+kI r:=by unfold kI;rw[eU,List.sum_append]
theorem Ea(t:List Nat)(b:Bool):(brk t b).length<=t.length+2:=by unfold brk;split<;>simp
theorem alg{n:List Nat}(h:hL n=ah):n.length=1:=by unfold hL at h;simp at h;rcases h with rfl|rfl<;>rfl
theorem aeR(st:List Ent)(n:List Nat):lC (hr st n)<=lC st+(n.length+2):=by
 unfold hr;by_cases h:hL n=ah
 ·rw[art h];have:=alg h;split
  ·rename_i f s r;have ag:=Ea f.2 (hL f.1);have ai:=Ea s.2 (decide (s.1=fY n));unfold lC;simp only[dO,oy,cA];omega
  ·omega
 ·rw[ars h];unfold lC;simp only[dO,oy];omega
theorem Kj:∀(l:List (List Nat))(st:List Ent),lC (l.foldl hr st)<=lC st+kI l
 |[],st=>by simp[kI]
 |n::r,st=>by
  rw[rS];have ag:=Kj r (hr st n);have ai:=aeR st n;have aN:kI (n::r)=n.length+2+kI r:=by simp[kI]
  omega
theorem aoH{st:List Ent}{e:Ent}(h:e∈st):e.2.length+2<=lC st:=by
 induction st with
 |nil=>cases h
 |cons x r ih=>
  unfold lC at ih⊢;rw[dO,oy];rcases ek.mp h with rfl|h
  ·omega
  ·have:=ih h;omega
theorem ZV(l:List (List Nat)):kI l.reverse=kI l:=by unfold kI;rw[aas,List.sum_reverse]
theorem aoJ(l:List (List Nat))(i:Nat):kI (l.take i)<=kI l:=by
 conv=>rhs;rw[<-Aj i l]
 rw[aoI];omega
theorem ZU{A:Formula}(h:dJ A):kI (flat A)<=15*(flat A).length:=by
 have aP:=λl au=>(m9 A h l au).1;generalize flat A=dx at*;induction dx with
 |nil=>exact bR _
 |cons x r ih=>
  have ag:=aP x (eB _);have ai:=ih λl au=>aP l (fe _ au);have aN:kI (x::r)=x.length+2+kI r:=by simp[kI]
  rw[cW];omega
theorem aoG(st:List Ent):2*st.length<=lC st:=by
 induction st with
 |nil=>exact bR _
 |cons x r ih=>unfold lC at ih⊢;rw[dO,oy,cW];omega
theorem TZ{A:Formula}(h:dJ A):(codes (gQ A)).length<=15*(flat A).length:=by have ag:=p2 A h [];have ai:=Kj (flat A).reverse [];rw[ag,ZV]at ai;have aN:=ZU h;have bD:=aoH (st:=[(l' A,codes (gQ A))]) (eB _);have cw:lC []=0:=rfl;dsimp only at bD;omega
def lL(l:List Nat):Prop:=∀n∈l,l.count n=2
theorem RM(l:List Nat)(n:Nat){a b:Nat}(h:a<=b):(l.take a).count n<=(l.take b).count n:=by
 have e:l.take a=(l.take b).take a:=by rw[aaw,mU h]
 rw[e];exact(Hz a (l.take b)).count_le n
theorem Ei{l:List Nat}{i n:Nat}(h:l[i]? =U n):(l.take (i+1)).count n=(l.take i).count n+1:=by rw[j1 h,qA];simp
theorem three{l:List Nat}{a b c n:Nat}(ag:a<b)(ai:b<c)(ay:l[a]? =U n)(ak:l[b]? =U n)(aF:l[c]? =U n):3<=l.count n:=by have aS:=Ei ay;have aQ:=Ei ak;have b0:=Ei aF;have gx:=RM l n (show a+1<=b by omega);have ku:=RM l n (show b+1<=c by omega);have mH:(l.take (c+1)).count n<=l.count n:=(Hz _ l).count_le n;omega
theorem lL.FL{l:List Nat}(t:lL l){a b c n:Nat}(ag:a<b)(ai:b<c)(ay:l[a]? =U n)(ak:l[b]? =U n)(aF:l[c]? =U n):False:=by have:=three ag ai ay ak aF;have:=t n (eN ay);omega
theorem V6{l:List Nat}{i n:Nat}(h:n∈l.take i):∃j,j<i/\l[j]? =U n:=by obtain⟨j,bw⟩:=Dg.mp h;have au:=(ej.mp bw).1;rw[fo]at au;refine⟨j,aG,?_⟩;rwa[Df aG]at bw
theorem lL.other{l:List Nat}(t:lL l){i j n:Nat}(h:i<j)(av:l[i]? =U n)(bw:l[j]? =U n):kP l i=j/\kP l j=i:=by
 have aiU:=(ej.mp av).1;have aiX:=(ej.mp bw).1;constructor
 ·unfold kP;have:(cf l.length).find? (λk=>k !=i&&l[k]? ==l[i]?)=U j:=by
   rw[PL];refine⟨by rw[av,bw];simp;omega,gC.mpr aiX,λk aH=>?_⟩;rw[av];simp only[PI,Hg,bne_iff_ne,beq_eq_false_iff_ne];intro UM E0;rcases aaA UM with z|z
   ·exact t.FL z h E0 av bw
   ·exact t.FL z aH av E0 bw
  rw[this];rfl
 ·unfold kP;have:(cf l.length).find? (λk=>k !=j&&l[k]? ==l[j]?)=U i:=by rw[PL];refine⟨by rw[av,bw];simp;omega,gC.mpr aiU,λk aH=>?_⟩;rw[bw];simp only[PI,Hg,bne_iff_ne,beq_eq_false_iff_ne];intro UM E0;exact t.FL aH h E0 av bw
  rw[this];rfl
def l2(l:List Nat)(i:Nat):Bool:=!(l.take i).contains (l.getD i 0)
theorem v_{l:List Nat}{i n:Nat}(h:l[i]? =U n):l.getD i 0=n:=by rw[aak,h];rfl
theorem lL.later{l:List Nat}(t:lL l){i n:Nat}(av:l[i]? =U n)(hf:n∉l.take i):∃j,i<j/\l[j]? =U n:=by
 have ai:=t n (eN av);have aS:=Ei av;have cZ:(l.take i).count n=0:=List.count_eq_zero.mpr hf;have aQ:(l.take (i+1)).count n+(l.drop (i+1)).count n=l.count n:=by
  conv=>rhs;rw[<-Aj (i+1) l]
  rw[qA]
 have:n∈l.drop (i+1):=aad.mp aG;obtain⟨j,bw⟩:=Dg.mp this;rw[Hr]at bw;exact⟨i+1+j,aG,bw⟩
theorem lL.first{l:List Nat}(t:lL l){i:Nat}(av:i<l.length):decide (i<kP l i)=l2 l i:=by
 have aC:l[i]? =U l[i]:=gB av;generalize l[i]=n at aC;unfold l2;rw[v_ aC];by_cases hf:n∈l.take i
 ·obtain⟨j,bw,e⟩:=V6 hf;rw[(t.other bw e aC).2];simp[hf];omega
 ·obtain⟨j,bw,e⟩:=t.later aC hf;rw[(t.other bw aC e).1];simp[hf];omega
theorem TN{α:Type}(f:Nat->Nat)(g:Nat->α)(q:Nat->Bool):∀L:List Nat,(∀i∈L,decide (i<f i)=q i)->L.filterMap (λi=>if i<f i then U (g i)else af)=(L.filter q).map g
 |[],_=>rfl
 |i::r,h=>by
  have ih:=TN f g q r λj bw=>h j (fe _ bw);have av:=h i (eB _);rw[Af,nL,ih,<-av];by_cases c:i<f i
  ·rw[art c,art (arq c)];rfl
  ·rw[ars c,ars (by simpa using c)]
theorem aiV{l:List Nat}(t:lL l):H_ ((cf l.length).map (kP l))=QL (((cf l.length).filter (l2 l)).map λi=>um i++45::um (kP l i)):=by
 unfold H_;congr 1;rw[aU,e8];have e:(cf l.length).zip ((cf l.length).map (kP l))=(cf l.length).map λi=>(i,kP l i):=by
  rw[aaz];have:∀L:List Nat,(L.zip L).map (Prod.map id (kP l))=L.map λi=>(i,kP l i):=by
   intro L;induction L with
   |nil=>rfl
   |cons x r ih=>rw[aay,dO,dO,ih];rfl
  exact this _
 rw[e,List.filterMap_map];exact TN (kP l) (λi=>um i++45::um (kP l i)) (l2 l) _ λi av=>t.first (gC.mp av)
def oa(s:State)(k:Nat):List Nat:=(cf k).flatMap λj=>f_ s j++spanOf s j
theorem VM(s:State):∀k,k<=s.uses.length->((cf k).zip (s.uses.take k)).flatMap (λz=>z.2.units++e0 (cn s z.1) (hC s z.2).length)=oa s k
 |0,_=>rfl
 |k+1,h=>by obtain⟨u,a4⟩:=nH (s:=s) (p:=k) aG;unfold oa;rw[pD,j1 a4,PX (by rw[e8,fo];omega),k6,k6,VM s k aG];congr 1;show(u.units++e0 (cn s k) (hC s u).length)++[]=(f_ s k++spanOf s k)++[];rw[(hb a4).1];unfold spanOf;rw[p3 a4]
theorem G_(s:State):hh s=cf s.first.length++(oa s s.uses.length++cE s):=by unfold hh;rw[z3,<-VM s s.uses.length (bR _),hA]
theorem RL(n:Nat)(f g:Nat->List Nat):∀L:List Nat,(L.flatMap λj=>f j++g j).count n=(L.flatMap f).count n+(L.flatMap g).count n
 |[]=>rfl
 |x::r=>by rw[kM,kM,kM,qA,qA,qA,qA,RL n f g r];omega
theorem ZM(s:State):∀k,k<=s.uses.length->(cf k).flatMap (f_ s)=(s.uses.take k).flatMap (·.units)
 |0,_=>rfl
 |k+1,h=>by obtain⟨u,a4⟩:=nH (s:=s) (p:=k) aG;rw[pD,j1 a4,k6,k6,ZM s k aG];congr 1;show f_ s k++[]=u.units++[];rw[(hb a4).1]
theorem RN{l:List Nat}(h:l.Nodup){n:Nat}(aC:n∈l):l.count n=1:=by have ag:=List.nodup_iff_count.mp h n;have ai:=aad.mpr aC;omega
theorem VL{s:State}(g:Good s):lL (hh s):=by
 intro n aC;have gh:cn s s.uses.length=(allNames s).length:=aeC s;have dD:n<(allNames s).length:=by
  rw[G_]at aC;have aeB:=n2 s (ec s.uses.length);rw[Et]at aeB;rcases gn.mp aC with h|h
  ·have:=gC.mp h;omega
  ·rcases gn.mp h with h|h
   ·unfold oa at h;obtain⟨j,bw,h⟩:=pC.mp h;have bw:=gC.mp bw;rcases gn.mp h with h|h
    ·have ag:=g.units h;have ai:=n2 s (show j<=s.uses.length by omega);omega
    ·have ag:=(zB.mp h).2;have ai:=n2 s (show j+1<=s.uses.length by omega);omega
   ·exact Y' h
 have e:(hh s).count n=(cf (allNames s).length).count n+(s.uses.flatMap (·.units)++cE s).count n:=by rw[G_,qA,qA,qA];unfold oa;rw[RL,ZM s _ (bR _),hA];have:=MR s s.uses.length;rw[gh]at this;rw[<-this];unfold b8;rw[qA];omega
 rw[e,RN xt (gC.mpr dD),RN]
 ·rw[qD];refine⟨g.Cq,Pf s,λa ay b ak z=>?_⟩;subst z;rw[tN]at ak;have:=(j8.mp ak).2;unfold kG at this;simp at this;obtain⟨u,a4,ay⟩:=pC.mp ay;exact this u a4 ay
 ·rw[gn,tN];by_cases c:kG s n=ah
  ·left;unfold kG at c;simpa using c
  ·right;exact j8.mpr ⟨gC.mpr dD,by simpa using c⟩
theorem aiP{s:State}(g:Good s):(hh s).length<=200:=by
 rw[G_,cA,cA];have ag:=g.fst;have ai:=rH g;have aN:(oa s s.uses.length).length<=12*s.uses.length:=by
  have:=lT (f:=λj=>f_ s j++spanOf s j) (m:=12) (l:=cf s.uses.length) λj bw=>by obtain⟨u,a4⟩:=nH (gC.mp bw);have a1:=(g.gP u (eN a4)).2.2;have a2:=g.given (eN a4);unfold spanOf;rw[cA,(hb a4).1,span_len,p3 a4];omega
  rw[e8]at this;exact this
 have bD:=g.use;rw[e8];omega
end G
namespace G
open Vaneta (Formula Text Name isName)
open Vanetm
theorem GZ:∀(a c b:dT),hB a c=ah->hB a b=ah\/hB b c=ah
 |[],[],b,h=>by simp[hB]at h
 |_::_,[],b,h=>by simp[hB]at h
 |[],_::_,[],h=>.inr I
 |[],_::_,_::_,h=>.inl I
 |_::_,_::_,[],h=>.inr I
 |x::r,z::t,y::u,h=>by
  simp only[hB,pz,decide_eq_true_eq,e7,beq_iff_eq,DH]at h⊢;by_cases cq:x.toNat<y.toNat
  ·exact .inl (.inl cq)
  ·by_cases cF:y.toNat<z.toNat
   ·exact .inr (.inl cF)
   ·rcases h with h|⟨rfl,h⟩
    ·omega
    ·have e:x=y:=QG.mp aG;subst e;rcases GZ r t u h with h|h
     ·exact .inl (.inr ⟨I,h⟩)
     ·exact .inr (.inr ⟨I,h⟩)
theorem Zx:∀(a b:dT),hB a b=aE->hB b a=aE->a=b
 |[],[],_,_=>rfl
 |_::_,[],_,h=>by simp[hB]at h
 |[],_::_,h,_=>by simp[hB]at h
 |x::r,y::u,ag,ai=>by simp only[hB,Ad,decide_eq_false_iff_not,Hg,beq_iff_eq,DH]at ag ai;have e:x=y:=QG.mp aG;subst e;rw[Zx r u (ag.2 I) (ai.2 I)]
theorem Pp:∀a:dT,hB a a=aE
 |[]=>rfl
 |x::r=>by simp only[hB,Pp r,Hh,Hi,decide_eq_false_iff_not,DH];omega
def kr(a b:dT):Prop:=hB b a=aE
theorem VJ{a b c:dT}(ag:kr a b)(ai:kr b c):kr a c:=by
 unfold kr at*;cases h:hB c a with
 |false=>rfl
 |true=>
  rcases GZ c a b h with z|z
  ·rw[ai]at z;cases z
  ·rw[ag]at z;cases z
theorem VI{a b:dT}(h:hB a b=ah):kr a b:=by
 unfold kr;cases h':hB b a with
 |false=>rfl
 |true=>
  rcases GZ a b a h with z|z
  ·rw[Pp]at z;cases z
  ·rcases GZ b a b h' with y|y
   ·rw[Pp]at y;cases y
   ·have:=Zw a b h h';cases this
where
 Zw:∀(a b:dT),hB a b=ah->hB b a=ah->False
  |[],[],h,_=>by simp[hB]at h
  |_::_,[],h,_=>by simp[hB]at h
  |[],_::_,_,h=>by simp[hB]at h
  |x::r,y::u,ag,ai=>by
   simp only[hB,pz,decide_eq_true_eq,e7,beq_iff_eq,DH]at ag ai;rcases ag with ag|⟨rfl,ag⟩
   ·rcases ai with ai|⟨rfl,ai⟩
    ·omega
    ·omega
   ·rcases ai with ai|⟨_,ai⟩
    ·omega
    ·exact Zw r u ag ai
theorem Yd:∀(l m:List dT),l.Perm m->l.Pairwise kr->m.Pairwise kr->l=m
 |[],m,h,_,_=>by rw[List.nil_perm.mp h]
 |a::r,[],h,_,_=>by have:=h.length_eq;cases this
 |a::r,b::t,h,ag,ai=>by
  have ay:a∈b::t:=h.mem_iff.mp (eB _);have ak:b∈a::r:=h.mem_iff.mpr (eB _);have e:a=b:=by
   rcases ek.mp ay with e|ay
   ·exact e
   ·rcases ek.mp ak with e|ak
    ·exact e.symm
    ·exact Zx a b ((qF.mp ai).1 a ay) ((qF.mp ag).1 b ak)
  subst e;rw[Yd r t (apf h) (qF.mp ag).2 (qF.mp ai).2]
theorem M6(a:Name):∀l:List Name,(putName a l).Perm (a::l)
 |[]=>aaa _
 |b::r=>by
  unfold putName;split
  ·exact aaa _
  ·exact((M6 a r).cons b).trans (apg a b r)
theorem Xj(a:Name):∀l:List Name,l.Pairwise kr->(putName a l).Pairwise kr
 |[],_=>by unfold putName;simp
 |b::r,h=>by
  unfold putName;obtain⟨ag,ai⟩:=qF.mp h;by_cases c:hB a b=ah
  ·rw[art c];refine qF.mpr ⟨λx ao=>?_,h⟩;rcases ek.mp ao with rfl|ao
   ·exact VI c
   ·exact VJ (VI c) (ag x ao)
  ·rw[ars c];refine qF.mpr ⟨λx ao=>?_,Xj a r ai⟩;rcases ek.mp ((M6 a r).mem_iff.mp ao)with rfl|ao
   ·unfold kr;simpa using c
   ·exact ag x ao
theorem Rg:∀(l acc:List Name),acc.Pairwise kr->(l.foldl (λr a=>putName a r) acc).Pairwise kr/\(l.foldl (λr a=>putName a r) acc).Perm (acc++l)
 |[],acc,h=>⟨h,bl⟩
 |a::r,acc,h=>by obtain⟨ag,ai⟩:=Rg r (putName a acc) (Xj a acc h);refine⟨ag,ai.trans ?_⟩;have:=(M6 a acc).append_right r;refine this.trans ?_;show(a::(acc++r)).Perm (acc++a::r);exact List.perm_middle.symm
theorem Ju(l:List Name):(bag l).Pairwise kr/\(bag l).Perm l:=by have:=Rg l [] Z';rw[t6]at this;exact this
theorem ac2{l m:List Name}(h:m.Perm l)(aP:m.Pairwise kr):m=bag l:=Yd _ _ (h.trans (Ju l).2.symm) aP (Ju l).1
theorem Rh(l:List Name):(bag l).length=l.length:=(Ju l).2.length_eq
def q6(x:Reached)(r:Nat×jG):Option Reached:=(oI r.2 x.names).map λb=>{names:=b,course:=x.course++[r.1]}
def ry(s:State):List (Nat×jG):=(cf s.recipes.length).zip s.recipes
def cands(s:State)(x:Reached):List Reached:=(ry s).filterMap (q6 x)
def ia(acc:List Reached)(x:Reached):List Reached:=if isIn acc x.names=ah then acc else acc++[x]
theorem ail(l m:List Reached)(b:List Name):isIn (l++m) b=(isIn l b||isIn m b):=by unfold isIn;rw[Ae]
theorem T4(seen:List Reached):∀(L rt:List Reached),seen++L.foldl (λl x=>if(isIn seen x.names||isIn l x.names)=ah then l else l++[x]) rt=L.foldl ia (seen++rt)
 |[],rt=>rfl
 |x::L,rt=>by
  rw[rS,rS,T4 seen L];congr 1;unfold ia;rw[ail];split
  ·rfl
  ·rw[j2]
theorem T7(s:State)(seen last:List Reached):seen++further s seen last=(last.flatMap (cands s)).foldl ia seen:=by have:=T4 seen (last.flatMap (cands s)) [];rw[iP]at this;rw[<-this];rfl
theorem acK(acc:List Reached)(x:Reached):∃t,ia acc x=acc++t:=by
 unfold ia;split
 ·exact⟨[],bl⟩
 ·exact⟨[x],I⟩
theorem Bo:∀(L acc:List Reached),∃t,L.foldl ia acc=acc++t
 |[],acc=>⟨[],bl⟩
 |x::L,acc=>by obtain⟨t,h⟩:=acK acc x;obtain⟨u,ai⟩:=Bo L (ia acc x);refine⟨t++u,?_⟩;rw[rS,ai,h,j2]
theorem V9{acc t:List Reached}(h:jK acc=ah):jK (acc++t)=ah:=by
 unfold jK at*;rw[pz]at h⊢;rcases h with h|h
 ·left;have:=aru h;refine arq ?_;rw[cA];omega
 ·right;rw[Ae,h];rfl
def ml(acc:List Reached)(x:Reached):Option (List Reached):=if isIn acc x.names=ah then U acc else if acc.length=300\/20<x.names.length then af else U (acc++[x])
def n3:List Reached->List Reached->Option (List Reached)
 |acc,[]=>U acc
 |acc,x::L=>(ml acc x).bind λa=>n3 a L
theorem Cn{acc:List Reached}(h:jK acc=aE):acc.length<=300/\∀x∈acc,x.names.length<=20:=by
 unfold jK at h;rw[Ad]at h;refine⟨?_,λx ao=>?_⟩
 ·have:=of_decide_eq_false h.1;unfold BAGS at this;omega
 ·have:=Hm.mp h.2 x ao;unfold NAMES at this;simp at this;exact this
theorem FG{acc:List Reached}(ag:acc.length<=300)(ai:∀x∈acc,x.names.length<=20):jK acc=aE:=by unfold jK;rw[Ad];refine⟨arp (by unfold BAGS;omega),Hm.mpr λx ao=>?_⟩;unfold NAMES;have:=ai x ao;simp;omega
theorem acJ{acc a:List Reached}{x:Reached}(h:jK acc=aE)(e:ml acc x=U a):a=ia acc x/\jK a=aE:=by
 unfold ml at e;unfold ia;by_cases c:isIn acc x.names=ah
 ·rw[art c]at e⊢;cases e;exact⟨I,h⟩
 ·rw[ars c]at e⊢;by_cases d:acc.length=300\/20<x.names.length
  ·rw[art d]at e;cases e
  ·rw[ars d]at e;cases e;obtain⟨ag,ai⟩:=Cn h;refine⟨I,FG (by rw[cA,j5];omega) λy a_=>?_⟩;rcases gn.mp a_ with a_|a_
   ·exact ai y a_
   ·rw[gp.mp a_];omega
theorem acI{acc:List Reached}{x:Reached}(e:ml acc x=af):jK (ia acc x)=ah:=by
 unfold ml at e;unfold ia;by_cases c:isIn acc x.names=ah
 ·rw[art c]at e;cases e
 ·rw[ars c]at e⊢;by_cases d:acc.length=300\/20<x.names.length
  ·unfold jK;rw[pz];rcases d with d|d
   ·left;refine arq ?_;unfold BAGS;rw[cA,j5];omega
   ·right;rw[Ae];have:decide (NAMES<x.names.length)=ah:=arq d;simp[this]
  ·rw[ars d]at e;cases e
theorem TY:∀(L acc:List Reached),jK acc=aE->n3 acc L=if jK (L.foldl ia acc)=ah then af else U (L.foldl ia acc)
 |[],acc,h=>by show U acc=_;rw[List.foldl_nil,h,ars eM]
 |x::L,acc,h=>by
  show(ml acc x).bind _=_;rw[rS];cases e:ml acc x with
  |none=>have:=acI e;obtain⟨t,bV⟩:=Bo L (ia acc x);rw[bV,art (V9 this)];rfl
  |some a=>obtain⟨rfl,ai⟩:=acJ h e;exact TY L _ ai
def lO(s:State):Nat->Nat->List Reached->Option (List Reached)
 |0,_,acc=>U acc
 |f+1,k,acc=>match acc[k]? with
  |none=>U acc
  |some x=>if x.course.length<6 then(n3 acc (cands s x)).bind λa=>lO s f (k+1) a else U acc
theorem XE(s:State):∀(f:Nat)(acc:List Reached),jK acc=aE->qM s f acc []=U acc
 |0,acc,_=>rfl
 |f+1,acc,h=>by unfold qM;have e:further s acc []=[]:=rfl;rw[e];dsimp only;rw[iP,h,ars eM];exact XE s f acc h
theorem T5(seen:List Reached):∀(L rt:List Reached)(x:Reached),x∈L.foldl (λl x=>if(isIn seen x.names||isIn l x.names)=ah then l else l++[x]) rt->x∈rt\/x∈L
 |[],rt,x,h=>.inl h
 |y::L,rt,x,h=>by
  rw[rS]at h;rcases T5 seen L _ x h with h|h
  ·split at h
   ·exact .inl h
   ·rcases gn.mp h with h|h
    ·exact .inl h
    ·exact .inr (by rw[gp.mp h];exact eB _)
  ·exact .inr (fe _ h)
theorem T6{s:State}{seen last:List Reached}{x:Reached}(h:x∈further s seen last):∃y∈last,x.course.length=y.course.length+1:=by
 rcases T5 seen (last.flatMap (cands s)) [] x h with h|h
 ·cases h
 ·obtain⟨y,a_,ao⟩:=pC.mp h;obtain⟨r,_,e⟩:=PS.mp ao;unfold q6 at e;cases q:oI r.2 y.names with
  |none=>rw[q]at e;cases e
  |some b=>rw[q]at e;cases e;exact⟨y,a_,bl⟩
theorem Rk(s:State):∀(fuel f:Nat)(pre last:List Reached)(i:Nat)(acc:List Reached),acc=((last.take i).flatMap (cands s)).foldl ia (pre++last)->jK acc=aE->(∀x∈last,x.course.length+f=6)->1<=f->i<=last.length->302<=fuel+(pre.length+i)->lO s fuel (pre.length+i) acc=qM s f (pre++last) last
 |0,f,pre,last,i,acc,h,hm,aF,hf,av,EW=>by obtain⟨t,bV⟩:=Bo ((last.take i).flatMap (cands s)) (pre++last);rw[<-h]at bV;have:=(Cn hm).1;rw[bV,cA,cA]at this;omega
 |fuel+1,f,pre,last,i,acc,h,hm,aF,hf,av,EW=>by
  have RC:∀(f:Nat)(pre last:List Reached)(i:Nat)(acc:List Reached),acc=((last.take i).flatMap (cands s)).foldl ia (pre++last)->jK acc=aE->(∀x∈last,x.course.length+f=6)->1<=f->i<last.length->302<=fuel+1+(pre.length+i)->lO s (fuel+1) (pre.length+i) acc=qM s f (pre++last) last:=by
   intro f pre last i acc h hm aF hf av EW;obtain⟨t,bV⟩:=Bo ((last.take i).flatMap (cands s)) (pre++last);rw[<-h]at bV;have ao:last[i]? =U last[i]:=gB av;have aga:acc[pre.length+i]? =U last[i]:=by rw[bV,pA (by rw[cA];omega),mS aG,show pre.length+i-pre.length=i by omega,ao]
   have ahV:last[i]∈last:=PP av;generalize last[i]=x at*;have EQ:=aF x ahV;unfold lO;rw[aga];dsimp only;rw[art aG,TY _ _ hm];have mA:(cands s x).foldl ia acc=((last.take (i+1)).flatMap (cands s)).foldl ia (pre++last):=by rw[j1 ao,k6,qB,<-h];simp
   rw[mA];by_cases c:jK (((last.take (i+1)).flatMap (cands s)).foldl ia (pre++last))=ah
   ·rw[art c];obtain⟨f',rfl⟩:∃f',f=f'+1:=⟨f-1,aG⟩;unfold qM;dsimp only;have agv:pre++last++further s (pre++last) last=((last.drop (i+1)).flatMap (cands s)).foldl ia (((last.take (i+1)).flatMap (cands s)).foldl ia (pre++last)):=by rw[T7,<-qB,<-k6,Aj]
    obtain⟨u,a4⟩:=Bo ((last.drop (i+1)).flatMap (cands s)) (((last.take (i+1)).flatMap (cands s)).foldl ia (pre++last));rw[art (by rw[agv,a4];exact V9 c)];rfl
   ·rw[ars c];have c:jK (((last.take (i+1)).flatMap (cands s)).foldl ia (pre++last))=aE:=by simpa using c
    exact Rk s fuel f pre last (i+1) _ I c aF hf av aG
  by_cases h1:i<last.length
  ·exact RC f pre last i acc h hm aF hf h1 EW
  ·have agH:i=last.length:=by omega
   subst agH;rw[hA]at h;obtain⟨f',rfl⟩:∃f',f=f'+1:=⟨f-1,aG⟩;have iZ:acc=pre++last++further s (pre++last) last:=by rw[T7,h]
   have aL:qM s (f'+1) (pre++last) last=qM s f' acc (further s (pre++last) last):=by
    conv=>lhs;unfold qM
    dsimp only;rw[<-iZ,hm,ars eM]
   rw[aL];have hlen:pre.length+last.length=(pre++last).length:=by rw[cA]
   have n6:∀x∈further s (pre++last) last,x.course.length+f'=6:=λx ao=>by obtain⟨y,a_,e⟩:=T6 ao;have:=aF y a_;omega
   generalize further s (pre++last) last=new at*;rw[hlen]at EW⊢;generalize pre++last=seen at*;cases f' with
   |zero=>
    show _=U acc;unfold lO;cases q:acc[seen.length]? with
    |none=>rfl
    |some x=>
     dsimp only;have ao:x∈new:=by rw[iZ,mS (bR _),Al]at q;exact eN q
     have:=n6 x ao;rw[ars aG]
   |succ f'=>
    cases new with
    |nil=>rw[iP]at iZ;subst iZ;rw[XE s _ _ hm];unfold lO;rw[qC.mpr (bR _)]
    |cons y new=>have:=RC (f'+1) seen (y::new) 0 acc (by rw[iZ];rfl) hm n6 aG bl aG;rw[<-iZ]at this;exact this
theorem ac3{s:State}(h:s.first.length<=10):ur s=lO s 302 0 [{names:=bag s.first,course:=[]}]:=by
 have hm:jK [({names:=bag s.first,course:=[]}:Reached)]=aE:=FG bl λx ao=>by rw[gp.mp ao];show(bag s.first).length<=20;rw[Rh];omega
 have:=Rk s 302 6 [] [{names:=bag s.first,course:=[]}] 0 [{names:=bag s.first,course:=[]}] I hm (λx ao=>by rw[gp.mp ao];rfl) aG bl bl;rw[t6]at this;have h0:([]:List Reached).length+0=0:=rfl;rw[h0]at this;rw[this];rfl
def vF(l:List Reached):Prop:=(l.map (·.names)).Nodup
theorem ain{l:List Reached}{b:List Name}:isIn l b=ah↔b∈l.map (·.names):=by
 unfold isIn;rw[Hn,fq];constructor
 ·rintro⟨x,ao,e⟩;exact⟨x,ao,by simpa using e⟩
 ·rintro⟨x,ao,e⟩;exact⟨x,ao,by simpa using e⟩
theorem acP{acc:List Reached}{x:Reached}(h:vF acc)(aC:isIn acc x.names=aE):vF (acc++[x]):=by unfold vF at*;rw[eU,qD];refine⟨h,bl,λa ay b ak z=>?_⟩;have ak:=gp.mp ak;subst z;rw[ak]at ay;rw[ain.mpr ay]at aC;cases aC
theorem pairs_at{s:State}{i:Nat}{bu:jG}(h:s.recipes[i]? =U bu):(ry s)[i]? =U (i,bu):=by have av:=(ej.mp h).1;unfold ry;rw[List.getElem?_zip_eq_some.mpr];exact⟨rT av,h⟩
theorem pairs_len(s:State):(ry s).length=s.recipes.length:=by unfold ry;rw[aar,e8];omega
end G
namespace ck
open PySem PySem.Spec PyProof.Rows bL
def top(i:Nat):Stmt:=PySem.Challenge.pw_goodsplans_s01_answers.main.body.getD i (.Pass ⟨0,0,0,0⟩)
structure cK(K:PySem.W.Frag)(x qual:Str)(st:Stmt)(ps:List Str)(f:Addr)(fd:jd):Prop where
 F:r9 K x qual st f fd
 b:Binds K fd ps []
theorem c1{N P:List Str}{sc:Scope}(ag:sc.kind=.function:=by rfl)(ai:sc.isCoroutine=aE:=by rfl)(aN:sc.isGenerator=aE:=by rfl)(bD:N.Nodup:=by decide+kernel)(cw:N.take P.length=P:=by rfl)(e_:∀x∈P,sc.names.lookup x=U .local\/sc.names.lookup x=U .cell:=by decide+kernel)(iW:∀y∈sc.names,y.2≠.free:=by decide+kernel):cR N P sc:=⟨ag,ai,aN,bD,cw,e_,iW⟩
abbrev Oz:Stmt:=top 6
theorem CN:cR ["codes","signs","sign","code"] ["codes"] (ct Oz):=c1
abbrev N8:Stmt:=top 7
theorem OP:cR ["text","sign"] ["text"] (ct N8):=c1
abbrev Og:Stmt:=top 8
theorem amX:cR ["sign"] ["sign"] (ct Og):=c1
abbrev Oe:Stmt:=top 9
theorem OR:cR ["text","sign"] ["text"] (ct Oe):=c1
abbrev Om:Stmt:=top 10
theorem Gz:cR ["text","names","name"] ["text"] (ct Om):=c1
abbrev N':Stmt:=top 19
theorem amW:cR ["node"] ["node"] (ct N'):=c1
abbrev N_:Stmt:=top 20
theorem OQ:cR ["formula","node"] ["formula"] (ct N_):=c1
abbrev Oa:Stmt:=top 21
theorem Gw:cR ["nodes","at","lacking"] ["nodes","at"] (ct Oa):=c1
abbrev Oy:Stmt:=top 22
theorem OT:cR ["names","nodes","name"] ["names"] (ct Oy):=c1
abbrev Oq:Stmt:=top 23
theorem amZ:cR ["text","needed"] ["text","needed"] (ct Oq):=c1
abbrev Od:Stmt:=top 24
theorem tK:cR ["formula","written","node","form","first","second"] ["formula"] (ct Od):=c1
abbrev Ow:Stmt:=top 25
theorem OS:cR ["text","at","end"] ["text","at"] (ct Ow):=c1
abbrev OA:Stmt:=top 26
theorem X7:cR ["text","at","stretch"] ["text","at"] (ct OA):=c1
abbrev OB:Stmt:=top 27
theorem CO:cR ["text","tokens","at","token"] ["text"] (ct OB):=c1
abbrev NB:Stmt:=inClass (top 28) 0
theorem amI:cR ["self"] ["self"] (ct NB):=c1
abbrev NC:Stmt:=inClass (top 28) 1
theorem amJ:cR ["self"] ["self"] (ct NC):=c1
abbrev ND:Stmt:=inClass (top 28) 2
theorem amK:cR ["self","sign","ahead"] ["self","sign","ahead"] (ct ND):=c1
abbrev NF:Stmt:=inClass (top 28) 3
theorem amM:cR ["self","token"] ["self","token"] (ct NF):=c1
abbrev NE:Stmt:=inClass (top 28) 4
theorem amL:cR ["self","token"] ["self","token"] (ct NE):=c1
abbrev NA:Stmt:=inClass (top 28) 5
theorem amH:cR ["self","token"] ["self","token"] (ct NA):=c1
abbrev Nz:Stmt:=inClass (top 28) 6
theorem X3:cR ["self","formula"] ["self","formula"] (ct Nz):=c1
abbrev Nx:Stmt:=inClass (top 28) 7
theorem OJ:cR ["self","sign","ahead"] ["self"] (ct Nx):=c1
abbrev Ny:Stmt:=inClass (top 28) 8
theorem X2:cR ["self","ahead"] ["self"] (ct Ny):=c1
abbrev Nw:Stmt:=inClass (top 28) 9
theorem amG:cR ["self"] ["self"] (ct Nw):=c1
abbrev NG:Stmt:=inClass (top 28) 10
theorem amN:cR ["self"] ["self"] (ct NG):=c1
abbrev Ot:Stmt:=top 29
theorem GB:cR ["text","tokens","reader","token"] ["text"] (ct Ot):=c1
abbrev N9:Stmt:=top 31
theorem z0:cR ["workshop","conclusions","use","recipe","left","name"] ["workshop"] (ct N9):=c1
abbrev Oh:Stmt:=top 32
theorem Gy:cR ["workshop","units","use","given"] ["workshop"] (ct Oh):=c1
abbrev Oj:Stmt:=top 33
theorem amY:cR ["lesser","greater"] ["lesser","greater"] (ct Oj):=c1
abbrev Ol:Stmt:=top 34
theorem tL:cR ["units","comes","goes","leaf","unit"] ["units"] (ct Ol):=c1
abbrev Oo:Stmt:=top 35
theorem GA:cR ["conclusions","units","forms","cuts","conclusion"] ["conclusions","units"] (ct Oo):=c1
abbrev NI:Stmt:=inClass (top 37) 0
theorem amP:cR ["self","recipe_number","units"] ["self","recipe_number","units"] (ct NI):=c1
abbrev NL:Stmt:=inClass (top 38) 0
theorem amR:cR ["self"] ["self"] (ct NL):=c1
abbrev NN:Stmt:=inClass (top 38) 1
theorem OK:cR ["self","names","use"] ["self"] (ct NN):=c1
abbrev NJ:Stmt:=inClass (top 38) 2
theorem zX:cR ["self","given","first","use","behind"] ["self"] (ct NJ):=c1
abbrev NM:Stmt:=inClass (top 38) 3
theorem w9:cR ["self","taken","use","unit","left","number","name"] ["self"] (ct NM):=c1
abbrev NK:Stmt:=inClass (top 38) 4
theorem amQ:cR ["self","number"] ["self","number"] (ct NK):=c1
abbrev Nq:Stmt:=inClass (top 40) 0
theorem amF:cR ["self","workshop"] ["self","workshop"] (ct Nq):=c1
abbrev Nt:Stmt:=inClass (top 40) 1
theorem X1:cR ["self","units","unit"] ["self","units"] (ct Nt):=c1
abbrev Nr:Stmt:=inClass (top 40) 2
theorem OG:cR ["self","place","unit"] ["self","place"] (ct Nr):=c1
abbrev Nu:Stmt:=inClass (top 40) 3
theorem OH:cR ["self","place","unit"] ["self","place"] (ct Nu):=c1
abbrev Np:Stmt:=inClass (top 40) 4
theorem amE:cR ["self","place"] ["self","place"] (ct Np):=c1
abbrev Nv:Stmt:=inClass (top 40) 5
theorem OI:cR ["self","place"] ["self"] (ct Nv):=c1
abbrev N3:Stmt:=top 41
theorem Gv:cR ["workshop","k","given","unit"] ["workshop","k"] (ct N3):=c1
abbrev Ob:Stmt:=top 42
theorem Gx:cR ["workshop","k","places","order","place"] ["workshop","k"] (ct Ob):=c1
abbrev OC:Stmt:=top 43
theorem z1:cR ["workshop","left","order","ready","first","place"] ["workshop"] (ct OC):=c1
abbrev N6:Stmt:=top 48
theorem amV:cR ["names"] ["names"] (ct N6):=c1
abbrev N5:Stmt:=top 49
theorem ON:cR ["bag","recipe","left","name"] ["bag","recipe"] (ct N5):=c1
abbrev N7:Stmt:=top 50
theorem OO:cR ["bag","recipes","recipe"] ["bag","recipes"] (ct N7):=c1
abbrev Oc:Stmt:=top 51
theorem tJ:cR ["names","recipes","courses","found","at","bag","number","behind"] ["names","recipes"] (ct Oc):=c1
abbrev NH:Stmt:=inClass (top 53) 0
theorem amO:cR ["self","takes","gives"] ["self","takes","gives"] (ct NH):=c1
abbrev Ox:Stmt:=top 54
theorem CM:cR ["formula","names","node","name"] ["formula"] (ct Ox):=c1
abbrev Ou:Stmt:=top 55
theorem CL:cR ["text","formula","middle","takes","gives"] ["text"] (ct Ou):=c1
abbrev Ov:Stmt:=top 56
theorem am0:cR ["recipe"] ["recipe"] (ct Ov):=c1
abbrev OE:Stmt:=top 58
theorem OV:cR ["names","weights","name"] ["names","weights"] (ct OE):=c1
abbrev N4:Stmt:=top 59
theorem OM:cR ["weights","recipes","recipe"] ["weights","recipes"] (ct N4):=c1
abbrev NP:Stmt:=top 78
theorem X4:cR ["workshop","codes","names"] ["workshop","codes"] (ct NP):=c1
abbrev NW:Stmt:=top 79
theorem X5:cR ["workshop","codes","recipe"] ["workshop","codes"] (ct NW):=c1
abbrev OD:Stmt:=top 80
theorem OU:cR ["stock","takes","units","unit"] ["stock","takes","units"] (ct OD):=c1
abbrev N0:Stmt:=top 81
theorem zZ:cR ["workshop","number","units","recipe","stock","first","unit"] ["workshop","number","units"] (ct N0):=c1
abbrev NO:Stmt:=top 82
theorem amS:cR ["workshop"] ["workshop"] (ct NO):=c1
abbrev NY:Stmt:=top 83
theorem CI:cR ["workshop","stock","answer","number","name"] ["workshop"] (ct NY):=c1
abbrev NU:Stmt:=top 84
theorem OL:cR ["workshop","answer","use"] ["workshop"] (ct NU):=c1
abbrev NX:Stmt:=top 85
theorem X6:cR ["workshop","number","form"] ["workshop","number"] (ct NX):=c1
abbrev NQ:Stmt:=top 86
theorem amU:cR ["workshop","k"] ["workshop","k"] (ct NQ):=c1
abbrev NZ:Stmt:=top 87
theorem CJ:cR ["workshop","order","place","before"] ["workshop"] (ct NZ):=c1
abbrev NT:Stmt:=top 88
theorem Gr:cR ["workshop","conclusions","units","form"] ["workshop"] (ct NT):=c1
abbrev NV:Stmt:=top 89
theorem Gs:cR ["workshop","codes","names","courses","course"] ["workshop","codes"] (ct NV):=c1
abbrev Oi:Stmt:=top 90
theorem CK:cR ["stock","names","units","name","fitting","unit"] ["stock","names"] (ct Oi):=c1
abbrev NR:Stmt:=top 91
theorem zY:cR ["workshop","course","before","number","units"] ["workshop","course"] (ct NR):=c1
abbrev N1:Stmt:=top 92
theorem Gu:cR ["workshop","codes","numbers","names","weights","kept"] ["workshop","codes","numbers"] (ct N1):=c1
abbrev NS:Stmt:=top 93
theorem CH:cR ["workshop","number","there","lacking","name"] ["workshop","number"] (ct NS):=c1
abbrev Nn:Stmt:=inClass (top 96) 0
theorem OF:cR ["self","calls","at","shape","start"] ["self","calls","at"] (ct Nn):=c1
abbrev Gq:Stmt:=top 97
theorem amT:cR ["workshop","call"] ["workshop","call"] (ct Gq):=c1
abbrev N2:Stmt:=top 98
theorem w_:cR ["calls","workshop","told","at","call","answer"] ["calls"] (ct N2):=c1
set_option genInjectivity false in
structure cu where
 (pS q2 sv pR q3 pQ pP vj vz vt vm vx vA vB uU oP sm uW uV uT sl sj sk uS uX vu vi vn vp vq vr qZ uZ sq q0 mj pO sg sh uR lh sf si ve vk vC q1 vg vh vl uY vy vv vw sx vf u1 u9 vD vb u0 u' u6 u_ u2 va u5 u7 vo u3 vd u4 uQ sr su c7 fg e1 et gE gc tV:Addr)
 (q' sE vY q_ sF q9 q8 yF yU yO yI yS yV yW yd pY vW yf ye yc vV vT vU yb yg yP yE yJ yL yM yN sA yi vX sC m7 q7 vP vQ ya vR vO vS yA yG yX sD yC yD yH yh yT yQ yR vZ yB yk yt yY yx yj yv yq yu ym yw yp yr yK yn yy yo x_ yl yz:FuncData)
structure Txt(K:PySem.W.Frag)(ap:Str->Option ar)(A:cu):Prop where
 dG:ap "len"=af
 vH:ap "range"=af
 x7:ap "enumerate"=af
 D_:ap "zip"=af
 D6:ap "min"=af
 D9:ap "sum"=af
 Js:ap "sorted"=af
 Jr:ap "reversed"=af
 lN:ap "list"=af
 Jt:ap "tuple"=af
 Jq:ap "dict"=af
 D8:ap "set"=af
 D7:ap "ord"=af
 Jp:ap "any"=af
 q4:ap "all"=af
 Cc:∃u,ap "LETTERS"=U u/\RelV (.str "abcdefghijklmnopqrstuvwxyz") u
 Fq:∃u,ap "DIGITS"=U u/\RelV (.str "0123456789") u
 L5:∃u,ap "SIGNS"=U u/\RelV (.str " ~*|()-") u
 L9:∃u,ap "UNKNOWN"=U u/\RelV (.str "?") u
 LQ:∃u,ap "LONGEST_NAME"=U u/\RelV (.int (12)) u
 L6:∃u,ap "TENSOR"=U u/\RelV (.str "*") u
 L3:∃u,ap "PAR"=U u/\RelV (.str "|") u
 L8:∃u,ap "TURN"=U u/\RelV (.str "~") u
 LM:∃u,ap "ARROW"=U u/\RelV (.str "-o") u
 LN:∃u,ap "BLANK"=U u/\RelV (.str " ") u
 LR:∃u,ap "LONGEST_TEXT"=U u/\RelV (.int (2000)) u
 LZ:∃u,ap "MOST_PENDING"=U u/\RelV (.int (100)) u
 LP:∃u,ap "LONGEST_COURSE"=U u/\RelV (.int (6)) u
 LU:∃u,ap "MOST_BAGS"=U u/\RelV (.int (300)) u
 LX:∃u,ap "MOST_IN_BAG"=U u/\RelV (.int (20)) u
 zv:∃u,ap "NO_SUCH_TEXT"=U u/\RelV (.int (-1)) u
 tf:∃u,ap "NO_SUCH_NUMBER"=U u/\RelV (.int (-2)) u
 L':∃u,ap "WRONG_UNITS"=U u/\RelV (.int (-3)) u
 L2:∃u,ap "NOT_INDEPENDENT"=U u/\RelV (.int (-3)) u
 LO:∃u,ap "CANNOT_BE_DONE"=U u/\RelV (.int (-3)) u
 L_:∃u,ap "WRONG_NAMES"=U u/\RelV (.int (-4)) u
 tg:∃u,ap "TOO_MANY"=U u/\RelV (.int (-5)) u
 L4:∃u,ap "RECIPES_FULL"=U u/\RelV (.int (-6)) u
 L7:∃u,ap "TOO_MUCH_REACHED"=U u/\RelV (.int (-7)) u
 L1:∃u,ap "NOTHING_TO_TAKE_BACK"=U u/\RelV (.int (-8)) u
 LV:∃u,ap "MOST_BEGINNING"=U u/\RelV (.int (10)) u
 Fs:∃u,ap "MOST_NAMES"=U u/\RelV (.int (6)) u
 L0:∃u,ap "MOST_RECIPES"=U u/\RelV (.int (12)) u
 Ft:∃u,ap "MOST_USES"=U u/\RelV (.int (10)) u
 LW:∃u,ap "MOST_CONCLUSIONS"=U u/\RelV (.int (20)) u
 LY:∃u,ap "MOST_LEAVES"=U u/\RelV (.int (120)) u
 LS:∃u,ap "MOST_ASKED_FOR"=U u/\RelV (.int (10)) u
 qT:cK K "text_of" "text_of" Oz ["codes"] A.pS A.q'
 ED:ap "text_of"=U (.ref A.pS)
 uA:cK K "codes_of" "codes_of" N8 ["text"] A.q2 A.sE
 Kt:ap "codes_of"=U (.ref A.q2)
 AP:cK K "is_name_sign" "is_name_sign" Og ["sign"] A.sv A.vY
 T8:ap "is_name_sign"=U (.ref A.sv)
 qS:cK K "is_name" "is_name" Oe ["text"] A.pR A.q_
 EC:ap "is_name"=U (.ref A.pR)
 uB:cK K "names_of" "names_of" Om ["text"] A.q3 A.sF
 Ku:ap "names_of"=U (.ref A.q3)
 qR:cK K "dual_node" "dual_node" N' ["node"] A.pQ A.q9
 EB:ap "dual_node"=U (.ref A.pQ)
 qQ:cK K "dual" "dual" N_ ["formula"] A.pP A.q8
 EA:ap "dual"=U (.ref A.pP)
 IT:cK K "end_of_formula" "end_of_formula" Oa ["nodes","at"] A.vj A.yF
 afd:ap "end_of_formula"=U (.ref A.vj)
 uC:cK K "tensor_of" "tensor_of" Oy ["names"] A.vz A.yU
 Kv:ap "tensor_of"=U (.ref A.vz)
 AQ:cK K "put_in_brackets" "put_in_brackets" Oq ["text","needed"] A.vt A.yO
 T9:ap "put_in_brackets"=U (.ref A.vt)
 IW:cK K "formula_form" "formula_form" Od ["formula"] A.vm A.yI
 afg:ap "formula_form"=U (.ref A.vm)
 I5:cK K "stretch_at" "stretch_at" Ow ["text","at"] A.vx A.yS
 afp:ap "stretch_at"=U (.ref A.vx)
 I6:cK K "token_at" "token_at" OA ["text","at"] A.vA A.yV
 afq:ap "token_at"=U (.ref A.vA)
 I7:cK K "tokens_of" "tokens_of" OB ["text"] A.vB A.yW
 afr:ap "tokens_of"=U (.ref A.vB)
 QW:cK K "__init__" "Reader.__init__" NB ["self"] A.uU A.yd
 uy:cK K "last_sign" "Reader.last_sign" NC ["self"] A.oP A.pY
 zA:hF K A.c7 "last_sign" A.oP
 DM:cK K "put" "Reader.put" ND ["self","sign","ahead"] A.sm A.vW
 Mj:hF K A.c7 "put" A.sm
 QY:cK K "take" "Reader.take" NF ["self","token"] A.uW A.yf
 ai7:hF K A.c7 "take" A.uW
 QX:cK K "start_part" "Reader.start_part" NE ["self","token"] A.uV A.ye
 ai6:hF K A.c7 "start_part" A.uV
 QV:cK K "go_on" "Reader.go_on" NA ["self","token"] A.uT A.yc
 ai5:hF K A.c7 "go_on" A.uT
 Iu:cK K "end_part" "Reader.end_part" Nz ["self","formula"] A.sl A.vV
 V4:hF K A.c7 "end_part" A.sl
 Iq:cK K "end_chain" "Reader.end_chain" Nx ["self"] A.sj A.vT
 V2:hF K A.c7 "end_chain" A.sj
 Ir:cK K "end_formula" "Reader.end_formula" Ny ["self"] A.sk A.vU
 V3:hF K A.c7 "end_formula" A.sk
 QU:cK K "end_bracket" "Reader.end_bracket" Nw ["self"] A.uS A.yb
 ai4:hF K A.c7 "end_bracket" A.uS
 QZ:cK K "whole" "Reader.whole" NG ["self"] A.uX A.yg
 ai8:hF K A.c7 "whole" A.uX
 I2:cK K "read_formula" "read_formula" Ot ["text"] A.vu A.yP
 afm:ap "read_formula"=U (.ref A.vu)
 IS:cK K "conclusions_of" "conclusions_of" N9 ["workshop"] A.vi A.yE
 afc:ap "conclusions_of"=U (.ref A.vi)
 IX:cK K "leaf_units" "leaf_units" Oh ["workshop"] A.vn A.yJ
 afh:ap "leaf_units"=U (.ref A.vn)
 IZ:cK K "link_form" "link_form" Oj ["lesser","greater"] A.vp A.yL
 afj:ap "link_form"=U (.ref A.vp)
 I0:cK K "link_forms" "link_forms" Ol ["units"] A.vq A.yM
 afk:ap "link_forms"=U (.ref A.vq)
 I1:cK K "net_form" "net_form" Oo ["conclusions","units"] A.vr A.yN
 afl:ap "net_form"=U (.ref A.vr)
 DN:cK K "__init__" "Use.__init__" NI ["self","recipe_number","units"] A.qZ A.sA
 Q1:cK K "__init__" "Workshop.__init__" NL ["self"] A.uZ A.yi
 Iv:cK K "unit_names" "Workshop.unit_names" NN ["self"] A.sq A.vX
 V5:hF K A.e1 "unit_names" A.sq
 DO:cK K "given_units" "Workshop.given_units" NJ ["self"] A.q0 A.sC
 Mk:hF K A.e1 "given_units" A.q0
 qP:cK K "stock" "Workshop.stock" NM ["self"] A.mj A.m7
 tl:hF K A.e1 "stock" A.mj
 AO:cK K "has_recipe" "Workshop.has_recipe" NK ["self","number"] A.pO A.q7
 FE:hF K A.e1 "has_recipe" A.pO
 Il:cK K "__init__" "Order.__init__" Nq ["self","workshop"] A.sg A.vP
 Im:cK K "let_in" "Order.let_in" Nt ["self","units"] A.sh A.vQ
 VZ:hF K A.et "let_in" A.sh
 QT:cK K "is_ready" "Order.is_ready" Nr ["self","place"] A.uR A.ya
 ai3:hF K A.et "is_ready" A.uR
 Io:cK K "new_units" "Order.new_units" Nu ["self","place"] A.lh A.vR
 V0:hF K A.et "new_units" A.lh
 Ik:cK K "add" "Order.add" Np ["self","place"] A.sf A.vO
 VY:hF K A.et "add" A.sf
 Ip:cK K "new_uses" "Order.new_uses" Nv ["self"] A.si A.vS
 V1:hF K A.et "new_uses" A.si
 IM:cK K "are_independent" "are_independent" N3 ["workshop","k"] A.ve A.yA
 ae8:ap "are_independent"=U (.ref A.ve)
 IU:cK K "exchanged_order" "exchanged_order" Ob ["workshop","k"] A.vk A.yG
 afe:ap "exchanged_order"=U (.ref A.vk)
 I8:cK K "told_order" "told_order" OC ["workshop"] A.vC A.yX
 afs:ap "told_order"=U (.ref A.vC)
 uz:cK K "bag_of" "bag_of" N6 ["names"] A.q1 A.sD
 Ks:ap "bag_of"=U (.ref A.q1)
 IQ:cK K "bag_behind" "bag_behind" N5 ["bag","recipe"] A.vg A.yC
 afa:ap "bag_behind"=U (.ref A.vg)
 IR:cK K "bags_behind" "bags_behind" N7 ["bag","recipes"] A.vh A.yD
 afb:ap "bags_behind"=U (.ref A.vh)
 IV:cK K "first_courses" "first_courses" Oc ["names","recipes"] A.vl A.yH
 aff:ap "first_courses"=U (.ref A.vl)
 Q0:cK K "__init__" "Recipe.__init__" NH ["self","takes","gives"] A.uY A.yh
 AR:cK K "tensor_names" "tensor_names" Ox ["formula"] A.vy A.yT
 T_:ap "tensor_names"=U (.ref A.vy)
 I3:cK K "read_recipe" "read_recipe" Ou ["text"] A.vv A.yQ
 afn:ap "read_recipe"=U (.ref A.vv)
 I4:cK K "recipe_form" "recipe_form" Ov ["recipe"] A.vw A.yR
 afo:ap "recipe_form"=U (.ref A.vw)
 uD:cK K "weight_of" "weight_of" OE ["names","weights"] A.sx A.vZ
 Kw:ap "weight_of"=U (.ref A.sx)
 IP:cK K "are_kept" "are_kept" N4 ["weights","recipes"] A.vf A.yB
 ae9:ap "are_kept"=U (.ref A.vf)
 Iy:cK K "answer_begin" "answer_begin" NP ["workshop","codes"] A.u1 A.yk
 aeU:ap "answer_begin"=U (.ref A.u1)
 IG:cK K "answer_recipe" "answer_recipe" NW ["workshop","codes"] A.u9 A.yt
 ae2:ap "answer_recipe"=U (.ref A.u9)
 I9:cK K "units_fit" "units_fit" OD ["stock","takes","units"] A.vD A.yY
 aft:ap "units_fit"=U (.ref A.vD)
 IK:cK K "answer_use" "answer_use" N0 ["workshop","number","units"] A.vb A.yx
 ae6:ap "answer_use"=U (.ref A.vb)
 Iw:cK K "answer_back" "answer_back" NO ["workshop"] A.u0 A.yj
 aeT:ap "answer_back"=U (.ref A.u0)
 II:cK K "answer_stock" "answer_stock" NY ["workshop"] A.u' A.yv
 ae4:ap "answer_stock"=U (.ref A.u')
 IE:cK K "answer_plan" "answer_plan" NU ["workshop"] A.u6 A.yq
 ae0:ap "answer_plan"=U (.ref A.u6)
 IH:cK K "answer_show" "answer_show" NX ["workshop","number"] A.u_ A.yu
 ae3:ap "answer_show"=U (.ref A.u_)
 IA:cK K "answer_exchange" "answer_exchange" NQ ["workshop","k"] A.u2 A.ym
 aeW:ap "answer_exchange"=U (.ref A.u2)
 IJ:cK K "answer_told" "answer_told" NZ ["workshop"] A.va A.yw
 ae5:ap "answer_told"=U (.ref A.va)
 ID:cK K "answer_net" "answer_net" NT ["workshop"] A.u5 A.yp
 aeZ:ap "answer_net"=U (.ref A.u5)
 IF:cK K "answer_reach" "answer_reach" NV ["workshop","codes"] A.u7 A.yr
 ae1:ap "answer_reach"=U (.ref A.u7)
 IY:cK K "least_units" "least_units" Oi ["stock","names"] A.vo A.yK
 afi:ap "least_units"=U (.ref A.vo)
 IB:cK K "answer_follow" "answer_follow" NR ["workshop","course"] A.u3 A.yn
 aeX:ap "answer_follow"=U (.ref A.u3)
 IL:cK K "answer_weigh" "answer_weigh" N1 ["workshop","codes","numbers"] A.vd A.yy
 ae7:ap "answer_weigh"=U (.ref A.vd)
 IC:cK K "answer_need" "answer_need" NS ["workshop","number"] A.u4 A.yo
 aeY:ap "answer_need"=U (.ref A.u4)
 QS:cK K "__init__" "Call.__init__" Nn ["self","calls","at"] A.uQ A.x_
 Iz:cK K "answer_call" "answer_call" Gq ["workshop","call"] A.sr A.yl
 aeV:ap "answer_call"=U (.ref A.sr)
 acf:cK K "answers" "answers" N2 ["calls"] A.su A.yz
 aqr:ap "answers"=U (.ref A.su)
 Kp:ap "Reader"=U (.ref A.c7)
 eR:j_ K A.c7
 ajm:pM K A.c7 A.uU
 od:hV K A.c7 "pending"
 l6:hV K A.c7 "part"
 Br:ap "Use"=U (.ref A.fg)
 mm:j_ K A.fg
 Mp:pM K A.fg A.qZ
 tp:hV K A.fg "recipe_number"
 qj:hV K A.fg "units"
 Kr:ap "Workshop"=U (.ref A.e1)
 dr:j_ K A.e1
 ajo:pM K A.e1 A.uZ
 lq:hV K A.e1 "recipes"
 qk:hV K A.e1 "beginning"
 ha:hV K A.e1 "uses"
 Ez:ap "Order"=U (.ref A.et)
 hW:j_ K A.et
 V8:pM K A.et A.sg
 zE:hV K A.et "old_uses"
 FI:hV K A.et "old_units"
 zF:hV K A.et "places"
 wL:hV K A.et "new_numbers"
 Kq:ap "Recipe"=U (.ref A.gE)
 jR:j_ K A.gE
 ajn:pM K A.gE A.uY
 oe:hV K A.gE "takes"
 pb:hV K A.gE "gives"
 Ko:ap "Call"=U (.ref A.gc)
 bI:j_ K A.gc
 ajl:pM K A.gc A.uQ
 b1:hV K A.gc "kind"
 ru:hV K A.gc "end"
 wK:hV K A.gc "numbers"
 oc:hV K A.gc "rows"
 tV:ap "CALLS"=U (.ref A.tV)
section
variable{X:bN}
theorem c3{x:Str}{v:V}{pos:Pos}(bM:lI X x)(h:∃u,X.ap x=U u/\RelV v u)(hd:(x==("__debug__":Str))=aE:=by decide)(p7:(x==("__classdict__":Str))=aE:=by decide):bC X (.Name x pos) (xd v):=by obtain⟨u,ag,ai⟩:=h;exact alx bM ag ai hd
end
end ck
namespace ck
open PySem PySem.Spec PyProof.Rows bL G
section
variable{P:b6}{w:bX}{K:PySem.W.Frag}{ap:Str->Option ar}{base:Heap}{A:cu}
theorem Vi(c:Nat):decide (c∈(dY "abcdefghijklmnopqrstuvwxyz").cps.toList)=jX c:=by have e:(dY "abcdefghijklmnopqrstuvwxyz").cps.toList=ox 97 26:=aD;rw[e];unfold jX;rw[<-Z9];congr 1;simp[Hv];omega
theorem aid(c:Nat):decide (c∈(dY "0123456789").cps.toList)=(decide (48<=c)&&decide (c<=57)):=by have e:(dY "0123456789").cps.toList=ox 48 10:=aD;rw[e,<-Z9];congr 1;simp[Hv];omega
inductive O4(vs:List V)(H:ax)(Q:c9)(asq:lM):Prop
 |mk (c:Nat) (h0:vs=[.str ⟨#[c]⟩]) (ag:Q (.bB (fm c)) H)
theorem WJ(T:Txt K ap A):a0 P w K ap base a8 1 A.sv A.vY ["sign"] O4:=by
 refine T.AP.F.ok amX (λvs H Q E h=>?_) (λb9 cV outer s H vs Q E aL h=>?_)
 ·obtain⟨c,rfl,_⟩:=h;rfl
 ·obtain⟨c,rfl,k⟩:=h;refine⟨_,bb (bE (alC (tB F0 (aj 0) (c3 I T.Cc) me) (W1 (tB F0 (aj 0) (c3 I T.Fq) me)))),?_⟩;refine⟨_,I,c,_,I,I,_,I,?_⟩;rw[Vi];unfold fm at k;refine d5 (λag=>?_) (λag=>?_)
  ·rw[ag]at k;exact k
  ·refine⟨_,I,c,_,I,I,?_⟩;rw[aid];rw[show jX c=aE by simpa using ag]at k;exact k
inductive CT(vs:List V)(H:ax)(Q:c9)(asq:lM):Prop
 |mk (z:Str) (h0:vs=[.str z]) (ag:z.length<=sizeLine) (ai:∀ae,aw H ae->Q (.bB (nName (bf.a6 z))) ae)
theorem FX(T:Txt K ap A):a0 P w K ap base a8 2 A.pR A.q_ ["text"] CT:=by
 have cv:a0 P w K ap base a8 1 A.sv A.vY ["sign"] O4:=WJ T;refine T.qS.F.ok OR (λvs H Q E h=>?_) (λb9 cV outer s H vs Q E aL h=>?_)
 ·obtain⟨z,rfl,_⟩:=h;rfl
 ·obtain⟨z,rfl,a9,k⟩:=h;refine⟨_,a3 (c5 (ji.pt (rB (cJ gY (aj 0) gL (cY _)) (rC (cJ nB (c4 sz I T.dG PySem.boot_len (aB (aj 0) aJ)) (c3 I T.LQ) (cY _))))) (bb (bE rz)) dd) (bb (bE (alp (tB F0 (eo Fn (aj 0) dt (λ_ _=>I)) (c3 I T.Cc) me) (W1 (c4 (vL I) I T.q4 vJ (aB (kB I OR.ba (MY (aj 0)) (ic (own:=[("sign",1)]) I) (λ_ _ _ _ _=>d9 (i:=1) OR.ba I (bA I)) (λ_ _ _ _ _=>jY) (λ_ _ _ _ _=>c2 cv aL I T.T8 T.AP.F.bJ T.AP.b .nil bG (aB (aj 1) aJ))) aJ)))))),?_⟩;have aC:z.length=(bf.a6 z).length:=bf.mG z;refine⟨_,I,I,_,I,?_⟩;refine d5 (λag=>?_) (λag=>?_)
  ·have e:z="":=V.str.inj (aru ag);subst e;exact d6 (k H (aw.refl H))
  ·have fu:bf.a6 z≠[]:=λq=>ag (arq (congrArg V.str (bf.Bk (q.trans aD))));refine⟨_,I,z,I,a9,_,_,I,I,_,I,?_⟩;refine d5 (λai=>?_) (λai=>?_)
   ·have Bt:(12:Int)<(z.length:Int):=aru ai;have e:nName (bf.a6 z)=aE:=by unfold nName;rw[arp (show¬(bf.a6 z).length<=12 by omega)];simp
    rw[e]at k;exact k H (aw.refl H)
   ·have Bt:¬(12:Int)<(z.length:Int):=λq=>ai (arq q);obtain⟨c,r,e⟩:∃c r,bf.a6 z=c::r:=by
     cases q:bf.a6 z with
     |nil=>exact aro q fu
     |cons c r=>exact⟨c,r,I⟩
    have cP:nName (bf.a6 z)=(jX c&&(bf.a6 z).all fm):=by unfold nName;rw[arq (show(bf.a6 z).length<=12 by omega),e];rfl
    rw[cP]at k;refine⟨_,I,z,_,c,I,I,a9,?_,c,_,I,I,_,I,?_⟩
    ·exact eI (j:=0) (by show(bf.a6 z)[0]? =_;rw[e];rfl)
    ·rw[Vi];refine d5 (λaN=>?_) (λaN=>?_)
     ·rw[aN]at k;refine⟨_,I,z,I,λD cg=>VG (λc=>.bB (fm c)) cg a9 (λc aF H1 s1 AX a7=>⟨_,I,c,I,a7 H1 (aw.refl H1)⟩) λH1 s1 cw=>?_⟩;refine⟨D,(bf.a6 z).map fm,I,?_,?_⟩
      ·rw[dn];exact aI.of cw
      ·have ij:((bf.a6 z).map fm).all id=(bf.a6 z).all fm:=by rw[ow];rfl
       rw[ij];exact k H1 s1
     ·rw[show jX c=aE by simpa using aN]at k;exact k H (aw.refl H)
def pNames(l:List Nat):Option (List (List Nat)):=if l=[]then U []else if(bf.fk [32] 0 [] l).all nName=ah then U (bf.fk [32] 0 [] l)else af
def uH(H:ax)(Q:c9)(l:List (List Nat)):Prop:=∀(ae:ax)(p:Addr),aw H ae->H p=af->ae p=U (.lst (l.map aV))->Q (.ref p) ae
inductive GO(vs:List V)(H:ax)(Q:c9)(asq:lM):Prop
 |mk (z:Str) (h0:vs=[.str z]) (ag:z.length+2<=sizeLine) (ai:(pNames (bf.a6 z)=af->∀ae,aw H ae->Q .bZ ae)) (aN:∀ns,pNames (bf.a6 z)=U ns->uH H Q ns)
theorem anz(l:List Str):l.map V.str=(l.map bf.a6).map aV:=by rw[dn];refine jB λx _=>?_;exact congrArg V.str (bf.ajp x).symm
theorem CV(S:List Nat):∀(l acc:List Nat)(k:Nat),(bf.fk S k acc l).length<=l.length+1
 |[],acc,k=>by rw[bf.z4];exact bR _
 |c::r,acc,0=>by
  show(if _ then _ else _:List (List Nat)).length<=_;by_cases h:bf.pre S (c::r)=ah
  ·rw[art h];have:=CV S r [] (S.length-1);rw[cW,cW];omega
  ·rw[ars h];have:=CV S r (acc++[c]) 0;rw[cW];omega
 |c::r,acc,k+1=>by have:=CV S r acc k;show(bf.fk S k acc r).length<=_;rw[cW];omega
theorem GP(S:List Nat):∀(l acc:List Nat)(k:Nat),∀x∈bf.fk S k acc l,x.length<=acc.length+l.length
 |[],acc,k,x,ao=>by rw[bf.z4]at ao;rw[gp.mp ao];exact bR _
 |c::r,acc,0,x,ao=>by
  have ao:x∈(if bf.pre S (c::r)=ah then acc::bf.fk S (S.length-1) [] r else bf.fk S 0 (acc++[c]) r):=ao;by_cases h:bf.pre S (c::r)=ah
  ·rw[art h]at ao;rcases ek.mp ao with rfl|ao
   ·omega
   ·have:=GP S r [] _ x ao;rw[cW];simp at this;omega
  ·rw[ars h]at ao;have:=GP S r (acc++[c]) 0 x ao;rw[cA]at this;simp at this;rw[cW];omega
 |c::r,acc,k+1,x,ao=>by have:=GP S r acc k x ao;rw[cW];omega
theorem MK(T:Txt K ap A):a0 P w K ap base a8 3 A.q3 A.sF ["text"] GO:=by
 have cv:a0 P w K ap base a8 2 A.pR A.q_ ["text"] CT:=FX T;refine T.uB.F.ok Gz (λvs H Q E h=>?_) (λb9 cV outer s H vs Q E aL h=>?_)
 ·obtain⟨z,rfl,_⟩:=h;rfl
 ·obtain⟨z,rfl,a9,dS,co⟩:=h;refine⟨_,a3 (c5 (cJ gY (aj 0) gL (cY _)) (bb (bE (du aJ))) dd) (a3 (cQ (i:=1) Gz.ba I (bA I) (alD (aj 0) gL)) (a3 (c5 (lz (c4 (vL I) I T.q4 vJ (aB (kB I Gz.ba (gm (aj 1)) (ic (own:=[("name",2)]) I) (λ_ _ _ _ _=>d9 (i:=2) Gz.ba I (bA I)) (λ_ _ _ _ _=>jY) (λ_ _ _ _ _=>c2 cv aL I T.EC T.qS.F.bJ T.qS.b .nil bG (aB (aj 2) aJ))) aJ))) (bb (bE (aj 1))) dd) (bb (bE gk)))),?_⟩;have aC:z.length=(bf.a6 z).length:=bf.mG z;refine⟨_,I,I,_,I,?_⟩;refine d5 (λag=>?_) (λag=>?_)
  ·have e:z="":=V.str.inj (aru ag);subst e;refine⟨ec _,λp aO=>?_⟩;exact co [] (by unfold pNames;rw[art aD]) _ p (aw.new aO) aO aW
  ·have fu:bf.a6 z≠[]:=λq=>ag (arq (congrArg V.str (bf.Bk (q.trans aD))));refine⟨_,I,⟨z,I⟩,z,_,I,I,I,a9,λp aO=>?_⟩;have es:(Txt.split z (dY " ")).map bf.a6=bf.fk [32] 0 [] (bf.a6 z):=by have q:=bf.anq z (dY " ") aD (bf.aiI aD);rw[q,show bf.a6 (dY " ")=[32]by decide+kernel]
   have kh:(Txt.split z (dY " ")).map V.str=(bf.fk [32] 0 [] (bf.a6 z)).map aV:=by rw[anz,es]
   have hlen:(bf.fk [32] 0 [] (bf.a6 z)).length<=sizeLine:=by have:=CV [32] (bf.a6 z) [] 0;omega
   have zq:=GP [32] (bf.a6 z) [] 0;have ep:pNames (bf.a6 z)=if(bf.fk [32] 0 [] (bf.a6 z)).all nName=ah then U (bf.fk [32] 0 [] (bf.a6 z))else af:=by unfold pNames;rw[ars fu]
   have s1:aw H (upd H p (.lst ((Txt.split z (dY " ")).map V.str))):=aw.new aO;generalize nh:upd H p (.lst ((Txt.split z (dY " ")).map V.str))=H1 at s1;have mz:H1 p=U (.lst ((bf.fk [32] 0 [] (bf.a6 z)).map aV)):=by rw[<-nh,aW,kh]
   generalize mB:bf.fk [32] 0 [] (bf.a6 z)=ps at*;refine⟨_,I,p,I,⟨_,aI.of mz⟩,λD cg=>zx (λx=>match x with| .str y=>.bB (nName (bf.a6 y))|_=>.bZ) (aI.of mz) cg (by rw[aU];exact hlen) ?_ λaz s2 ai=>?_⟩
   ·intro x ao az s2 h9 bc;obtain⟨l,au,rfl⟩:=fq.mp ao;have q:=zq l au;rw[j4]at q;refine⟨_,I,bW l,I,?_,λaZ s3=>bc aZ s3⟩;rw[bf.mG];show l.length<=_;omega
   ·have ij:(ps.map aV).map (λx=>match x with| .str y=>V.bB (nName (bf.a6 y))|_=>.bZ)=(ps.map nName).map V.bB:=by rw[dn,dn];rfl
    rw[ij]at ai;refine⟨D,ps.map nName,I,aI.of ai,_,I,?_⟩;have kf:(ps.map nName).all id=ps.all nName:=by rw[ow];rfl
    rw[kf];refine d5 (λaN=>?_) (λaN=>?_)
    ·rw[art aN]at ep;refine⟨_,I,?_⟩;exact co ps ep az p (s1.trans s2) aO (s2 _ _ mz)
    ·rw[ars aN]at ep;exact dS ep az (s1.trans s2)
inductive GK(vs:List V)(H:ax)(Q:c9)(asq:lM):Prop
 |mk (z:Str) (h0:vs=[.str z]) (ag:z.length<=sizeLine) (ai:∀(ae:ax)(p:Addr),aw H ae->H p=af->ae p=U (.lst (((bf.a6 z).map λ(c:Nat)=>(c:Int)).map V.int))->Q (.ref p) ae)
theorem MI(T:Txt K ap A):a0 P w K ap base a8 1 A.q2 A.sE ["text"] GK:=by
 refine T.uA.F.ok OP (λvs H Q E h=>?_) (λb9 cV outer s H vs Q E aL h=>?_)
 ·obtain⟨z,rfl,_⟩:=h;rfl
 ·obtain⟨z,rfl,a9,k⟩:=h;refine⟨_,bb (bE (kB I OP.ba (MY (aj 0)) (ic (own:=[("sign",1)]) I) (λ_ _ _ _ _=>d9 (i:=1) OP.ba I (bA I)) (λ_ _ _ _ _=>jY) (λ_ _ _ _ _=>c4 Rz I T.D7 Rt (aB (aj 1) aJ)))),?_⟩;refine⟨_,I,z,I,λD cg=>VG (λc=>.int (c:Int)) cg a9 (λc aF H1 s1 AX a7=>⟨_,I,⟨#[c]⟩,I,I,a7 H1 (aw.refl H1)⟩) λH1 s1 cw=>?_⟩;refine k H1 D s1 cg ?_;rw[cw,dn];rfl
def oh(i:Int):Nat:=if 0<=i/\known i.toNat=ah then i.toNat else 63
inductive CU(vs:List V)(H:ax)(Q:c9)(asq:lM):Prop
 |mk (a:Addr) (cs:List Int) (h0:vs=[.ref a]) (ag:aI K H a (cs.map V.int)) (ai:cs.length<=100000) (aN:∀ae,aw H ae->Q (aV (cs.map oh)) ae)
theorem Q_:bf.a6 (dY "abcdefghijklmnopqrstuvwxyz"++dY "0123456789"++dY " ~*|()-")=ox 97 26++(ox 48 10++[32,126,42,124,40,41,45]):=aD
theorem VA(c:Nat):c∈ox 97 26++(ox 48 10++[32,126,42,124,40,41,45])↔known c=ah:=by rw[gn,gn,Hv,Hv];unfold known fm jX;have aS:(97<=c/\c<97+26)↔(97<=c/\c<=122):=aG;have aQ:(48<=c/\c<48+10)↔(48<=c/\c<=57):=aG;rw[aS,aQ,pz,pz,e7,e7,decide_eq_true_eq,decide_eq_true_eq,decide_eq_true_eq,decide_eq_true_eq,aac,or_assoc]
def D0(kvs:List (Key×V))(l:List Nat):Prop:=∀k:Int,eb kvs (.inl k)=if 0<=k/\k.toNat∈l then U (aV [k.toNat])else af
theorem D0.put{kvs:List (Key×V)}{l:List Nat}(h:D0 kvs l)(c:Nat):D0 (putK kvs (.inl (c:Int)) (aV [c])) (l++[c]):=λk=>by
 rw[C4];by_cases e:k=(c:Int)
 ·subst e;rw[art I,art ⟨aG,bl⟩];rfl
 ·rw[ars (λz=>e (DG z)),h k];have:(0<=k/\k.toNat∈l++[c])↔(0<=k/\k.toNat∈l):=by
   rw[gn,gp];constructor
   ·rintro⟨h0,ag|ag⟩
    ·exact⟨h0,ag⟩
    ·exact aro aG e
   ·rintro⟨h0,ag⟩;exact⟨h0,.inl ag⟩
  by_cases q:0<=k/\k.toNat∈l
  ·rw[art q,art (this.mpr q)]
  ·rw[ars q,ars λz=>q (this.mp z)]
theorem join_one:∀l:List Nat,bf.f6 [] (l.map λc=>[c])=l
 |[]=>rfl
 |[c]=>rfl
 |c::d::r=>by have ih:=join_one (d::r);show[c]++([]++bf.f6 [] ([d]::r.map λc=>[c]))=_;have ih:bf.f6 [] ([d]::r.map λc=>[c])=d::r:=ih;rw[ih];rfl
theorem Zd:∀l:List Nat,((l.map λc=>bW [c]).map (·.length)).sum=l.length
 |[]=>rfl
 |c::r=>by rw[dO,dO,oy,Zd r,cW];show 1+_=_;omega
theorem FY(T:Txt K ap A):a0 P w K ap base a8 1 A.pS A.q' ["codes"] (CU (K:=K)):=by
 refine T.qT.F.ok CN (λvs H Q E h=>?_) (λb9 cV outer s H vs Q E aL h=>?_)
 ·obtain⟨a,cs,rfl,_⟩:=h;rfl
 ·obtain⟨a,cs,rfl,d1,au,k⟩:=h;have a4:=n9 aL;refine⟨_,a3 (cQ (i:=1) CN.ba I (qH I) zP) (a3 (i6 gD I (MY (fj tv (fj tv (c3 I T.Cc) (c3 I T.Fq)) (c3 I T.L5))) (d9 (i:=2) CN.ba I (bA I)) (bb (w2 a4 (aj 1) (c4 Rz I T.D7 Rt (aB (aj 2) aJ)) (aj 2) I))) (bb (bE (zR gL (kB I CN.ba (gm (aj 0)) (ic (own:=[("code",3)]) I) (λ_ _ _ _ _=>d9 (i:=3) CN.ba I (bA I)) (λ_ _ _ _ _=>jY) (λ_ _ _ _ _=>WZ a4 (aj 1) (aj 3) (c3 I T.L9) ⟨I,I,I,I⟩)))))),?_⟩;intro d hd;have hP:∀s:String,s.length<=100->True:=λ_ _=>trivial;refine⟨_,_,I,I,aD,_,_,I,I,aD,_,I,aeM (λi σ ae=>∃v:Option V,σ=[U (.ref a),U (.ref d),v,af]/\aw H ae/\∃kvs,ae d=U (.cC kvs)/\kvs.length<=i/\D0 kvs ((ox 97 26++(ox 48 10++[32,126,42,124,40,41,45])).take i)) ⟨af,I,aw.new hd,[],aW,bR _,λk=>by simp[aoE]⟩ ?_ ?_⟩
  ·rintro i c σ ae av ⟨v,rfl,s1,kvs,aH,rl,bV⟩;rw[Q_]at av;have agE:i<43:=by have:=(ej.mp av).1;have e:(ox 97 26++(ox 48 10++[32,126,42,124,40,41,45])).length=43:=rfl;omega
   refine⟨_,I,_,I,_,I,⟨#[c]⟩,I,I,d,_,I,mW.k (k:=h6 (c:Int)) aH (k7 rl (aaB agE a5)),?_⟩;refine⟨_,I,s1.put hd,_,aW,?_,?_⟩
   ·have:=zy kvs (h6 (c:Int)) (V.str ⟨#[c]⟩);omega
   ·have e:=xf (f:=id) av;rw[j6,j6]at e;rw[e];exact bV.put c
  ·rintro σ H1 ⟨v,rfl,s1,kvs,aH,_,bV⟩;rw[Q_,hA]at bV;refine⟨⟨_,I⟩,_,I,a,I,⟨_,s1.seq d1⟩,λD cg=>zx (λx=>match x with| .int i=>aV [oh i]|_=>.bZ) (s1.seq d1) cg (by rw[aU];exact b3 au a5) ?_ λaz s2 ai=>?_⟩
   ·intro x ao az s2 h9 bc;obtain⟨i,av,rfl⟩:=fq.mp ao;refine⟨_,I,d,I,.inl ⟨kvs,.inl (s2 _ _ aH)⟩,_,I,_,gd.k (k:=h6 i) (s2 _ _ aH),?_⟩;rw[bV i];have e:(if 0<=i/\i.toNat∈ox 97 26++(ox 48 10++[32,126,42,124,40,41,45])then U (aV [i.toNat])else af).getD (V.str "?")=aV [oh i]:=by
     unfold oh;by_cases q:0<=i/\known i.toNat=ah
     ·rw[art ⟨q.1,(VA _).mpr q.2⟩,art q];rfl
     ·rw[ars (λz=>q ⟨z.1,(VA _).mp z.2⟩),ars q];decide+kernel
    rw[e];exact bc az (aw.refl az)
   ·have ij:(cs.map V.int).map (λx=>match x with| .int i=>aV [oh i]|_=>.bZ)=((cs.map oh).map λc=>bW [c]).map V.str:=by rw[dn,dn,dn];rfl
    rw[ij]at ai;refine⟨_,D,(cs.map oh).map λc=>bW [c],I,I,.inl (aI.of ai),?_,?_⟩
    ·rw[Zd,aU,aU,aU];rw[show(dY "").length=0 by decide+kernel];omega
    ·have kf:Txt.join (dY "") ((cs.map oh).map λc=>bW [c])=bW (cs.map oh):=by refine rI ?_;rw[bf.join_eq,bf.G3,show bf.a6 (dY "")=[]by decide+kernel,dn];exact join_one _
     rw[kf];exact k az (s1.trans s2)
theorem rb(a b:List Nat):decide (aV a=aV b)=decide (a=b):=by
 by_cases h:a=b
 ·subst h;simp
 ·rw[arp h,arp λz=>h (xc z)]
theorem zt(l a b:List Nat):iM (aV l) [aV a,aV b]=(decide (l=a)||decide (l=b)):=by
 show((bW a==bW l)||((bW b==bW l)||aE))=_;have e:∀x:List Nat,(bW x==bW l)=decide (l=x):=λx=>by
  by_cases h:l=x
  ·subst h;simp
  ·rw[arp h];exact beq_eq_false_iff_ne.mpr λz=>h (Cm z).symm
 rw[e,e,Hi]
theorem Txt.qv(T:Txt K ap A):∃u,ap "TENSOR"=U u/\RelV (aV [42]) u:=by have e:V.str "*"=aV [42]:=aD;rw[<-e];exact T.L6
theorem Txt.rJ(T:Txt K ap A):∃u,ap "PAR"=U u/\RelV (aV [124]) u:=by have e:V.str "|"=aV [124]:=aD;rw[<-e];exact T.L3
theorem Txt.GY(T:Txt K ap A):∃u,ap "TURN"=U u/\RelV (aV [126]) u:=by have e:V.str "~"=aV [126]:=aD;rw[<-e];exact T.L8
theorem Txt.GV(T:Txt K ap A):∃u,ap "ARROW"=U u/\RelV (aV [45,111]) u:=by have e:V.str "-o"=aV [45,111]:=aD;rw[<-e];exact T.LM
theorem Txt.anG(T:Txt K ap A):∃u,ap "BLANK"=U u/\RelV (aV [32]) u:=by have e:V.str " "=aV [32]:=aD;rw[<-e];exact T.LN
theorem anu(l:List Nat):Txt.startswith (bW l) (bW [126])=decide (l.head?=U 126):=by
 unfold Txt.startswith;rw[StrLaws.subAt_eq];cases l with
 |nil=>rfl
 |cons c r=>
  have aS:decide (0+(bW [126]).length<=(bW (c::r)).length)=ah:=by apply arq;show 0+1<=((c::r).toArray).size;simp
  rw[aS];show(ah&&([c]==[126]))=_;simp;by_cases h:c=126
  ·subst h;rfl
  ·rw[arp h];exact beq_eq_false_iff_ne.mpr h
theorem JS(l:List Nat)(lo av:Option Int):vM (bW l) lo av=bW ((l.drop (cG.dM l.length 0 lo)).take (cG.dM l.length l.length av-cG.dM l.length 0 lo)):=rfl
inductive CR(vs:List V)(H:ax)(Q:c9)(asq:lM):Prop
 |mk (l:List Nat) (h0:vs=[aV l]) (ag:l.length<sizeLine) (ai:Q (aV (fY l)) H)
theorem FV(T:Txt K ap A):a0 P w K ap base a8 1 A.pQ A.q9 ["node"] CR:=by
 refine T.qR.F.ok amW (λvs H Q E h=>?_) (λb9 cV outer s H vs Q E aL h=>?_)
 ·obtain⟨z,rfl,_⟩:=h;rfl
 ·obtain⟨l,rfl,au,k⟩:=h;refine⟨_,a3 (c5 (cJ gY (aj 0) (c3 I T.qv) (cY _)) (bb (bE (c3 I T.rJ))) dd) (a3 (c5 (cJ gY (aj 0) (c3 I T.rJ) (cY _)) (bb (bE (c3 I T.qv))) dd) (a3 (c5 (lz (MX F.slot_str_startswith F.type_str_startswith ajv (aj 0) (c3 I T.GY))) (bb (bE (pf OX (aj 0) (ly dt) zT))) dd) (bb (bE (fj tv (c3 I T.GY) (aj 0)))))),?_⟩;unfold fY at k;refine⟨_,I,I,_,I,?_⟩;rw[rb];refine d5 (λag=>?_) (λag=>?_)
  ·rw[art (aru ag)]at k;exact k
  rw[ars (λz=>ag (arq z))]at k;refine⟨_,I,I,_,I,?_⟩;rw[rb];refine d5 (λai=>?_) (λai=>?_)
  ·rw[art (aru ai)]at k;exact k
  rw[ars (λz=>ai (arq z))]at k;refine⟨_,I,⟨_,I⟩,_,_,I,I,_,I,?_⟩;rw[anu];refine d5 (λaN=>?_) (λaN=>?_)
  ·rw[art (aru aN)]at k;refine⟨_,I,_,I,bW l,I,?_,?_⟩
   ·rw[bf.mG];exact kN au
   ·rw[JS];have e:((l.drop (cG.dM l.length 0 (U 1))).take (cG.dM l.length l.length af-cG.dM l.length 0 (U 1)))=l.tail:=by
     cases l with
     |nil=>rfl
     |cons c r=>
      have:cG.dM (c::r).length 0 (U 1)=1:=by rw[show(1:Int)=((1:Nat):Int)from I,cG.oo];simp
      rw[this];show(r.take ((c::r).length-1))=r;simp
    rw[e];exact k
  ·rw[ars (λz=>aN (arq z))]at k;refine⟨_,I,bW [126],bW l,I,I,?_,?_⟩
   ·rw[bf.mG,bf.mG];show 1+l.length<=_;omega
   ·have e:(bW [126]++bW l)=bW (126::l):=rI (by rw[bf.ou];rfl);rw[e];exact k
inductive CQ(vs:List V)(H:ax)(Q:c9)(asq:lM):Prop
 |mk (a:Addr) (dx:List (List Nat)) (h0:vs=[.ref a]) (ag:aI K H a (dx.map aV)) (ai:dx.length<=sizeLine) (aN:(∀l∈dx,l.length<=1000)) (bD:uH H Q (dx.map fY))
theorem FU(T:Txt K ap A):a0 P w K ap base a8 2 A.pP A.q8 ["formula"] (CQ (K:=K)):=by
 have cv:a0 P w K ap base a8 1 A.pQ A.q9 ["node"] CR:=FV T;refine T.qQ.F.ok OQ (λvs H Q E h=>?_) (λb9 cV outer s H vs Q E aL h=>?_)
 ·obtain⟨a,dx,rfl,_⟩:=h;rfl
 ·obtain⟨a,dx,rfl,d1,au,aP,k⟩:=h;refine⟨_,bb (bE (kB I OQ.ba (gm (aj 0)) (ic (own:=[("node",1)]) I) (λ_ _ _ _ _=>d9 (i:=1) OQ.ba I (bA I)) (λ_ _ _ _ _=>jY) (λ_ _ _ _ _=>c2 cv aL I T.EB T.qR.F.bJ T.qR.b .nil bG (aB (aj 1) aJ)))),?_⟩;refine⟨_,I,a,I,⟨_,d1⟩,λD cg=>zx (λx=>match x with| .str y=>aV (fY (bf.a6 y))|_=>.bZ) d1 cg (by rw[aU];exact au) ?_ λaz s2 ai=>?_⟩
  ·intro x ao az s2 h9 bc;obtain⟨l,au,rfl⟩:=fq.mp ao;exact⟨_,I,l,I,k7 (aP l au) a5,bc az (aw.refl az)⟩
  ·refine k az D s2 cg ?_;rw[ai,dn,dn];rfl
inductive YE(vs:List V)(H:ax)(Q:c9)(asq:lM):Prop
 |mk (a:Addr) (dx:List (List Nat)) (i:Nat) (B:gq) (rest:List (List Nat)) (h0:vs=[.ref a,.int i]) (ag:aI K H a (dx.map aV)) (ai:dx.drop i=flat B++rest) (aN:dJ B) (bD:∀ae,aw H ae->Q (.int ((i+(flat B).length:Nat):Int)) ae)
theorem akQ(T:Txt K ap A):a0 P w K ap base a8 1 A.vj A.yF ["nodes","at"] (YE (K:=K)):=by
 refine T.IT.F.ok Gw (λvs H Q E h=>?_) (λb9 cV outer s H vs Q E aL h=>?_)
 ·obtain⟨a,dx,i,B,rest,rfl,_⟩:=h;rfl
 ·obtain⟨a,dx,i,B,rest,rfl,d1,hd,f3,k⟩:=h;refine⟨_,a3 (cQ (i:=2) Gw.ba I (bA I) dt) (a3 (qr gD (cJ nB (aj 2) dt (cY _)) (a3 (w1 (i:=2) Gw.ba I (bA I) (zQ (cJ tw (eo gi (aj 0) (aj 1) (λ_ _=>I)) (tC (aB (c3 I T.qv) (aB (c3 I T.rJ) aJ))) me) dt (F6 G9 dt)) zu) (bb (w1 (i:=1) Gw.ba I (bA I) dt zu)))) (bb (bE (aj 1)))),?_⟩;refine xk (λσ ae=>∃(j:Nat)(la:List gq),σ=[U (.ref a),U (.int j),U (.int la.length)]/\aw H ae/\dx.drop j=la.flatMap flat++rest/\j+(la.flatMap flat).length=i+(flat B).length/\∀C∈la,dJ C) (λσ _=>match σ with|[_,U (.int j),_]=>dx.length-j.toNat|_=>0) ⟨i,[B],I,aw.refl H,by simpa using hd,bl,λC iX=>by rw[gp.mp iX];exact f3⟩ ?_ (λσ H Q oM aK⟨v,e,i,j,a,b,k,oS,q⟩=>⟨v,e,i,j,a,b,k,oS,aK _ _ q⟩);rintro σ H1 ⟨j,la,rfl,s1,bw,aF,bM⟩;refine⟨_,I,_,_,I,I,_,I,?_⟩;refine d5 (λag=>?_) (λag=>?_)
  ·have EH:(0:Int)<(la.length:Int):=aru ag;match la,EH,bw,aF,bM with
   |C::la,_,bw,aF,bM=>
    have iX:=bM C (eB _);have nq:=TV C iX;have rk:j<dx.length:=by
     have:(dx.drop j).length=((C::la).flatMap flat++rest).length:=by rw[bw]
     rw[j3,cA,kM,cA]at this;omega
    obtain⟨x,ao⟩:∃x,dx[j]? =U x:=⟨dx[j],gB rk⟩;have agq:dx.drop j=x::dx.drop (j+1):=by rw[kK rk];have:=(ej.mp ao).2;rw[this]
    rw[agq,kM]at bw;refine⟨_,I,?_⟩;refine⟨_,I,_,I,a,dx.map aV,j,aV x,I,I,s1.seq d1,eI (by rw[dI,ao];rfl),?_⟩;refine⟨iC,λp aO=>?_⟩;refine⟨p,_,I,.inr (eQ.of aW),I,I,?_⟩;refine⟨_,I,?_⟩;show if iM (aV x) [aV [42],aV [124]]=ah then _ else _
    rw[zt];have s2:aw H (upd H1 p (.tup [aV [42],aV [124]])):=s1.trans (aw.new aO);have node:(x=[42]\/x=[124])/\(∃r6 r7,flat C=x::(flat r6++flat r7)/\dJ r6/\dJ r7)\/¬(x=[42]\/x=[124])/\flat C=[x]:=by
     have d4:(flat C).head?=U x:=by
      have:(flat C++(la.flatMap flat)++rest).head?=U x:=by rw[<-bw];rfl
      cases hf:flat C with
      |nil=>rw[hf]at nq;exact aro nq a5
      |cons y ys=>rw[hf]at this;exact this
     match C,iX,d4 with
     | .tensor r6 r7,iX,d4=>have e:x=[42]:=(bS d4).symm;subst e;exact .inl ⟨.inl I,r6,r7,I,iX.1,iX.2⟩
     | .par r6 r7,iX,d4=>have e:x=[124]:=(bS d4).symm;subst e;exact .inl ⟨.inr I,r6,r7,I,iX.1,iX.2⟩
     | .atom aE n,iX,d4=>
      have e:x=codes n:=(bS d4).symm;subst e;obtain⟨c,r,e,aP,_⟩:=mJ iX;obtain⟨b',cB,_⟩:=w' aP;refine .inr ⟨?_,I⟩;rw[e];rintro(z|z)
      ·exact b' (fN z).1
      ·exact cB (fN z).1
     | .atom ah n,iX,d4=>
      have e:x=126::codes n:=(bS d4).symm;subst e;refine .inr ⟨?_,I⟩;rintro(z|z)
      ·exact aro (fN z).1 a5
      ·exact aro (fN z).1 a5
    refine d5 (λai=>?_) (λai=>?_)
    ·have Fg:x=[42]\/x=[124]:=by
      rcases C_.mp ai with q|q
      ·exact .inl (aru q)
      ·exact .inr (aru q)
     rcases node with⟨_,r6,r7,g8,g1,g2⟩|⟨n,_⟩
     ·refine⟨_,_,I,I,_,I,_,_,I,I,?_⟩;rw[g8]at bw;refine⟨⟨j+1,r6::r7::la,?_,s2,?_,?_,?_⟩,?_⟩
      ·show[U (V.ref a),U (V.int ((j:Int)+1)),U (V.int (((C::la).length:Int)+1))]=_;simp
      ·have:=(fN bw).2;rw[this];simp[kM]
      ·rw[kM,g8]at aF;simp[kM]at aF⊢;omega
      ·intro D cg;rcases ek.mp cg with rfl|cg
       ·exact g1
       ·rcases ek.mp cg with rfl|cg
        ·exact g2
        ·exact bM D (fe _ cg)
      ·show dx.length-((j:Int)+1).toNat<dx.length-((j:Int)).toNat;omega
     ·exact aro Fg n
    ·have Fg:¬(x=[42]\/x=[124]):=λz=>ai (by rcases z with rfl|rfl<;>rfl);rcases node with⟨n,_⟩|⟨_,g8⟩
     ·exact aro n Fg
     ·refine⟨_,I,_,_,I,I,_,I,_,_,I,I,?_⟩;rw[g8]at bw;refine⟨⟨j+1,la,?_,s2,?_,?_,?_⟩,?_⟩
      ·show[U (V.ref a),U (V.int ((j:Int)+1)),U (V.int (((C::la).length:Int)+-1))]=_;simp;omega
      ·have:=(fN bw).2;rw[this];rfl
      ·rw[kM,g8]at aF;simp at aF⊢;omega
      ·exactλD cg=>bM D (fe _ cg)
      ·show dx.length-((j:Int)+1).toNat<dx.length-((j:Int)).toNat;omega
  ·have EH:¬(0:Int)<(la.length:Int):=λq=>ag (arq q);have e:la=[]:=List.length_eq_zero_iff.mp aG;subst e;refine⟨_,I,?_⟩;have aQ:j=i+(flat B).length:=by simpa using aF
   rw[aQ];exact k H1 s1
theorem e4(l:List Nat):(bW l).length=l.length:=by rw[bf.mG]
theorem Jn{l:List Nat}{j c:Nat}(h:l[j]? =U c):pU (bW l).cps.toList (j:Int)=U c:=eI h
theorem Ek{l:List Nat}{j c:Nat}(h:l[j]? =U c):l.drop j=c::l.drop (j+1):=by obtain⟨bw,e⟩:=ej.mp h;rw[kK bw,e]
theorem adH(l:List Nat){i j:Nat}(av:i<=l.length)(bw:j<=l.length):vM (bW l) (U (i:Int)) (U (j:Int))=bW ((l.drop i).take (j-i)):=by rw[JS,cG.oo,cG.oo,mU av,mU bw]
theorem adI(l:List Nat){i j:Nat}(av:i<=l.length):vM (bW l) (U (i:Int)) (U (j:Int))=bW ((l.drop i).take (j-i)):=by
 rw[JS,cG.oo,cG.oo,mU av];by_cases bw:j<=l.length
 ·rw[mU bw]
 ·rw[Nat.min_eq_right aG];congr 1;rw[pE (by rw[j3];omega),pE (by rw[j3];omega)]
inductive YU(vs:List V)(H:ax)(Q:c9)(asq:lM):Prop
 |mk (l:List Nat) (i:Nat) (h0:vs=[aV l,.int i]) (ag:i<=l.length) (ai:l.length<=sizeLine) (aN:Q (aV ((l.drop i).takeWhile fm)) H)
theorem ak6(T:Txt K ap A):a0 P w K ap base a8 2 A.vx A.yS ["text","at"] YU:=by
 have cv:a0 P w K ap base a8 1 A.sv A.vY ["sign"] O4:=WJ T;refine T.I5.F.ok OS (λvs H Q E h=>?_) (λb9 cV outer s H vs Q E aL h=>?_)
 ·obtain⟨l,i,rfl,_⟩:=h;rfl
 ·obtain⟨l,i,rfl,av,au,k⟩:=h;refine⟨_,a3 (cQ (i:=2) OS.ba I (bA I) (aj 1)) (a3 (qr gD (ji.pt (M7 (cJ tx (aj 2) (c4 sz I T.dG PySem.boot_len (aB (aj 0) aJ)) (cY _)) (M8 (lz (c2 cv aL I T.T8 T.AP.F.bJ T.AP.b .nil bG (aB (eo Fn (aj 0) (aj 2) (λ_ _=>I)) aJ)))))) (bb (w1 (i:=2) OS.ba I (bA I) dt zu))) (bb (bE (pf OX (aj 0) (ly (aj 1)) (ly (aj 2)))))),?_⟩;refine⟨_,I,?_⟩;have EU:∀j:Nat,i<=j->j<=l.length->(l.drop i).takeWhile fm=(l.drop i).take (j-i)++(l.drop j).takeWhile fm->(l.drop j).takeWhile fm=[]->Zp (Zr Xu (pk 0) (Po (pk 1)) (Po (pk 2))) {cN:=λx ae=>Q V.bZ ae,zU:=Q} [U (aV l),U (.int i),U (.int j)] H:=λj ag ai aN bD=>by refine⟨_,I,_,I,_,I,_,I,_,I,bW l,I,by rw[e4];exact au,?_⟩;rw[adH l av ai,<-iP ((l.drop i).take (j-i)),<-bD,<-aN];exact k
  refine xk (λσ ae=>∃j:Nat,σ=[U (aV l),U (.int i),U (.int j)]/\ae=H/\i<=j/\j<=l.length/\(l.drop i).takeWhile fm=(l.drop i).take (j-i)++(l.drop j).takeWhile fm) (λσ _=>match σ with|[_,_,U (.int j)]=>l.length-j.toNat|_=>0) ⟨i,I,I,bR _,av,bl⟩ ?_ ?_
  ·rintro σ H1 ⟨j,rfl,rfl,ag,ai,aN⟩;refine⟨_,I,_,I,bW l,I,by rw[e4];exact au,_,_,I,I,_,I,?_⟩;rw[e4];refine d5 (λq=>?_) (λq=>?_)
   ·have dD:j<l.length:=by have:=aru q;omega
    obtain⟨c,aF⟩:∃c,l[j]? =U c:=⟨l[j],gB dD⟩;refine⟨_,I,_,I,bW l,j,c,I,I,by rw[e4];exact au,Jn aF,c,I,_,I,?_⟩;refine d5 (λbc=>?_) (λbc=>?_)
    ·refine⟨_,I,_,_,I,I,⟨j+1,?_,I,Nat.le_succ_of_le ag,dD,?_⟩,?_⟩
     ·show[U (aV l),U (V.int i),U (V.int ((j:Int)+1))]=_;simp
     ·rw[aN,Ek aF,t8,art bc];rw[show j+1-i=(j-i)+1 by omega];have:(l.drop i)[j-i]? =U c:=by rw[Hr,show i+(j-i)=j by omega];exact aF
      have e:=xf (f:=id) this;rw[j6,j6]at e;rw[e];simp
     ·show l.length-((j:Int)+1).toNat<l.length-((j:Int)).toNat;omega
    ·refine EU j ag ai aN ?_;rw[Ek aF,t8,ars bc]
   ·have o5:l.length<=j:=by
     by_cases z:j<l.length
     ·exact aro (arq aG) q
     ·omega
    refine eD ?_;exact EU j ag ai aN (by rw[PJ o5];rfl)
  ·rintro σ ae AX h9 aK ⟨v,e,v2,aQ,z,b0,a9,ci,dP,eW,gT,co,ij,q⟩;refine⟨v,e,v2,aQ,z,b0,a9,ci,dP,eW,gT,co,ij,?_⟩;by_cases aH:co=ah
   ·rw[art aH]at q⊢;obtain⟨a1,kb,a2,sy,Hd,cU,cq,vN,Bd,JT,JU,cF,JV,fD,adJ,q⟩:=q;exact⟨a1,kb,a2,sy,Hd,cU,cq,vN,Bd,JT,JU,cF,JV,fD,adJ,aK _ _ q⟩
   ·rw[ars aH]at q⊢;exact aK _ _ q
inductive YY(vs:List V)(H:ax)(Q:c9)(asq:lM):Prop
 |mk (l:List Nat) (i:Nat) (h0:vs=[aV l,.int i]) (ag:i<l.length) (ai:l.length+2<=sizeLine) (aN:(js (l.drop i)=af->∀ae,aw H ae->Q .bZ ae)) (bD:∀tk,js (l.drop i)=U tk->∀ae,aw H ae->Q (aV tk) ae)
theorem aie(c:Nat):decide (c∈(dY " ~*|()").cps.toList)=[32,126,42,124,40,41].contains c:=by have e:(dY " ~*|()").cps.toList=[32,126,42,124,40,41]:=aD;rw[e];simp
theorem ala(T:Txt K ap A):a0 P w K ap base a8 3 A.vA A.yV ["text","at"] YY:=by
 have cv:a0 P w K ap base a8 2 A.vx A.yS ["text","at"] YU:=ak6 T;have dB:a0 P w K ap base a8 2 A.pR A.q_ ["text"] CT:=FX T;refine T.I6.F.ok X7 (λvs H Q E h=>?_) (λb9 cV outer s H vs Q E aL h=>?_)
 ·obtain⟨l,i,rfl,_⟩:=h;rfl
 ·obtain⟨l,i,rfl,av,au,dS,co⟩:=h;refine⟨_,a3 (c5 (cJ F0 (eo Fn (aj 0) (aj 1) (λ_ _=>I)) gL me) (bb (bE (eo Fn (aj 0) (aj 1) (λ_ _=>I)))) dd) (a3 (c5 (cJ gY (pf OX (aj 0) (ly (aj 1)) (ly (fj pd (aj 1) dt))) (c3 I T.GV) (cY _)) (bb (bE (c3 I T.GV))) dd) (a3 (cQ (i:=2) X7.ba I (bA I) (c2 cv aL I T.afp T.I5.F.bJ T.I5.b .nil bG (aB (aj 0) (aB (aj 1) aJ)))) (bb (bE (zQ (lz (c2 dB aL I T.EC T.qS.F.bJ T.qS.b .nil bG (aB (aj 2) aJ))) (aj 2) gk))))),?_⟩;have sW:(bW l).length<=sizeLine:=by rw[e4];omega
  obtain⟨c,aF⟩:∃c,l[i]? =U c:=⟨l[i],gB av⟩;have hd:=Ek aF;have ep:js (l.drop i)=if[32,126,42,124,40,41].contains c=ah then U [c]else if(l.drop i).take 2=[45,111]then U [45,111]else if nName ((l.drop i).takeWhile fm)=ah then U ((l.drop i).takeWhile fm)else af:=by rw[hd];rfl
  refine⟨_,I,_,I,bW l,i,c,I,I,sW,Jn aF,c,_,I,I,_,I,?_⟩;rw[aie];refine d5 (λag=>?_) (λag=>?_)
  ·rw[art ag]at ep;exact⟨_,I,_,I,bW l,i,c,I,I,sW,Jn aF,co _ ep H (aw.refl H)⟩
  rw[ars ag]at ep;refine⟨_,I,_,I,_,I,_,I,_,_,I,I,_,I,bW l,I,sW,I,_,I,?_⟩;have y2:vM (bW l) (U (i:Int)) (U ((i:Int)+2))=bW ((l.drop i).take 2):=by have:=adI l (i:=i) (j:=i+2) aG;rw[show((i+2:Nat):Int)=(i:Int)+2 by omega]at this;rw[this,show i+2-i=2 by omega]
  rw[y2,rb];refine d5 (λai=>?_) (λai=>?_)
  ·rw[art (aru ai)]at ep;exact co _ ep H (aw.refl H)
  rw[ars (λz=>ai (arq z))]at ep;refine⟨_,I,_,I,l,i,I,aG,aG,?_⟩;have aqQ:((l.drop i).takeWhile fm).length<=l.length:=by have ag:((l.drop i).takeWhile fm).length<=(l.drop i).length:=(aav _).length_le;rw[j3]at ag;omega
  refine⟨_,I,bW ((l.drop i).takeWhile fm),I,?_,λH1 s1=>⟨_,I,?_⟩⟩
  ·rw[e4];omega
  ·refine d5 (λaN=>?_) (λaN=>?_)
   ·have aN:nName ((l.drop i).takeWhile fm)=ah:=aN;rw[art aN]at ep;exact⟨_,I,co _ ep H1 s1⟩
   ·have aN:¬nName ((l.drop i).takeWhile fm)=ah:=aN;rw[ars aN]at ep;exact dS ep H1 s1
inductive YZ(vs:List V)(H:ax)(Q:c9)(asq:lM):Prop
 |mk (l:List Nat) (h0:vs=[aV l]) (ag:l.length+2<=sizeLine) (ai:(hu (l.length+1) l=af->∀ae,aw H ae->Q .bZ ae)) (aN:∀hQ,hu (l.length+1) l=U hQ->uH H Q hQ)
theorem alb(T:Txt K ap A):a0 P w K ap base a8 4 A.vB A.yW ["text"] YZ:=by
 have cv:a0 P w K ap base a8 3 A.vA A.yV ["text","at"] YY:=ala T;refine T.I7.F.ok CO (λvs H Q E h=>?_) (λb9 cV outer s H vs Q E aL h=>?_)
 ·obtain⟨l,rfl,_⟩:=h;rfl
 ·obtain⟨l,rfl,au,dS,co⟩:=h;refine⟨_,a3 (cQ (i:=1) CO.ba I (bA I) (du aJ)) (a3 (cQ (i:=2) CO.ba I (bA I) dt) (a3 (qr gD (cJ tx (aj 2) (c4 sz I T.dG PySem.boot_len (aB (aj 0) aJ)) (cY _)) (a3 (cQ (i:=3) CO.ba I (bA I) (c2 cv aL I T.afq T.I6.F.bJ T.I6.b .nil bG (aB (aj 0) (aB (aj 2) aJ)))) (a3 (c5 (cJ l_ (aj 3) gk (cY _)) (bb (bE gk)) dd) (a3 (c5 (cJ rv (aj 3) (c3 I T.anG) (cY _)) (bb (fE (iy PySem.F.plainAttrs_list PySem.F.slot_list_append PySem.F.type_list_append mI (aj 1) (aB (aj 3) aJ)))) dd) (bb (w1 (i:=2) CO.ba I (bA I) (c4 sz I T.dG PySem.boot_len (aB (aj 3) aJ)) zu)))))) (bb (bE (aj 1))))),?_⟩;refine⟨ec _,λp aO=>?_⟩;have sW:(bW l).length<=sizeLine:=by rw[e4];omega
  refine xk (λσ ae=>asy λ(j f:Nat)(hQ:List (List Nat))(v:Option V)=>σ=[U (aV l),U (.ref p),U (.int j),v]/\aw H ae/\ae p=U (.lst (hQ.map aV))/\hQ.length<=j/\l.length+1<=f+j/\j<=l.length/\hu (l.length+1) l=(hu f (l.drop j)).map (λr=>hQ++r)) (λσ _=>match σ with|[_,_,U (.int j),_]=>l.length-j.toNat|_=>0) ⟨0,l.length+1,[],af,I,aw.new aO,aW,bR _,bR _,ec _,by show _=(hu (l.length+1) l).map (λr=>r);cases hu (l.length+1) l<;>rfl⟩ ?_ (λσ H Q oM aK⟨v,e,v2,aQ,z,b0,a9,i,j,a,b,k,oS,q⟩=>⟨v,e,v2,aQ,z,b0,a9,i,j,a,b,k,oS,aK _ _ q⟩)
  rintro σ H1 ⟨j,f,hQ,v,rfl,s1,mz,l0,hf,rk,he⟩;refine⟨_,I,_,I,bW l,I,sW,_,_,I,I,_,I,?_⟩;rw[e4];refine d5 (λq=>?_) (λq=>?_)
  ·have dD:j<l.length:=by have:=aru q;omega
   obtain⟨f,rfl⟩:∃f',f=f'+1:=⟨f-1,aG⟩;obtain⟨c,aF⟩:∃c,l[j]? =U c:=⟨l[j],gB dD⟩;have hd:=Ek aF;refine⟨_,I,_,I,l,j,I,dD,au,λaC az s2=>?_,λtk s_ az s2=>?_⟩
   ·refine⟨_,I,I,_,I,?_⟩;refine d6 ?_;have:hu (f+1) (l.drop j)=af:=by rw[hd]at aC⊢;exact CB aC
    rw[this]at he;exact dS he az (s1.trans s2)
   ·obtain⟨t1,k4⟩:=Xh s_;rw[j3]at k4;have Sk:hu (f+1) (l.drop j)=(hu f (l.drop (j+tk.length))).map λr=>if tk=[32]then r else tk::r:=by have e:=CA (f:=f) (c:=c) (r:=l.drop (j+1)) (tk:=tk) (by rw[<-hd];exact s_);rw[<-hd,C']at e;exact e
    refine⟨_,I,I,_,I,?_⟩;refine eD ?_;refine⟨_,I,I,_,I,?_⟩;rw[rb];have fb:=s2 _ _ mz;refine d5 (λbc=>?_) (λbc=>?_)
    ·have fu:tk≠[32]:=λz=>by rw[z]at bc;exact aro bc a5
     refine⟨_,I,.inl ⟨I,_,aI.of fb⟩,_,I,p,_,_,I,I,fb,?_,?_⟩
     ·rw[aU];have:l.length<sizeLine:=aG;omega
     ·refine⟨_,I,_,I,bW tk,I,by rw[e4];omega,_,_,I,I,⟨j+tk.length,f,hQ++[tk],U (aV tk),?_,(s1.trans s2).put aO,?_,?_,aG,aG,?_⟩,?_⟩
      ·rw[e4];show[U (aV l),U (V.ref p),U (V.int ((j:Int)+(tk.length:Int))),U (aV tk)]=_;simp
      ·rw[aW,eU];rfl
      ·rw[cA];simp;omega
      ·rw[he,Sk];cases hu f (l.drop (j+tk.length))with
       |none=>rfl
       |some r=>show U (hQ++(if tk=[32]then r else tk::r))=U ((hQ++[tk])++r);rw[ars fu];simp
      ·rw[e4];show l.length-((j:Int)+(tk.length:Int)).toNat<l.length-((j:Int)).toNat;omega
    ·have heq:tk=[32]:=by
      cases aK:decide (tk=[32])with
      |true=>exact aru aK
      |false=>rw[aK]at bc;exact aro I bc
     refine⟨_,I,_,I,bW tk,I,by rw[e4];omega,_,_,I,I,⟨j+tk.length,f,hQ,U (aV tk),?_,s1.trans s2,fb,aG,aG,aG,?_⟩,?_⟩
     ·rw[e4];show[U (aV l),U (V.ref p),U (V.int ((j:Int)+(tk.length:Int))),U (aV tk)]=_;simp
     ·rw[he,Sk];cases hu f (l.drop (j+tk.length))with
      |none=>rfl
      |some r=>show U (hQ++(if tk=[32]then r else tk::r))=U (hQ++r);rw[art heq]
     ·rw[e4];show l.length-((j:Int)+(tk.length:Int)).toNat<l.length-((j:Int)).toNat;omega
  ·have o5:j=l.length:=by
    by_cases z:j<l.length
    ·exact aro (arq aG) q
    ·omega
   obtain⟨f,rfl⟩:∃f',f=f'+1:=⟨f-1,aG⟩;rw[PJ aG]at he;refine⟨_,I,?_⟩;refine co hQ ?_ H1 p s1 aO mz;rw[he];show U (hQ++[])=_;rw[iP]
theorem M5(f:Str)(v u:V):∀bk:List (Str×V),bY f v (bY f u bk)=bY f v bk
 |[]=>by show(if f=f then[(f,v)]else _)=[(f,v)];rw[art I]
 |(g,x)::r=>by
  by_cases e:g=f
  ·subst e;show bY g v (if g=g then(g,u)::r else _)=if g=g then(g,v)::r else _
   rw[art I,art I];show(if g=g then(g,v)::r else _)=_;rw[art I]
  ·show bY f v (if g=f then _ else(g,x)::bY f u r)=if g=f then _ else(g,x)::bY f v r
   rw[ars e,ars e];show(if g=f then _ else(g,x)::bY f v (bY f u r))=_;rw[ars e,M5 f v u r]
def jZ(p q:V):List (Str×V):=bY "part" q (bY "pending" p [])
theorem rE(p q:V):(jZ p q).lookup ("pending":Str)=U p:=by unfold jZ;rw[el,ars aD,el,art I]
theorem tI(p q:V):(jZ p q).lookup ("part":Str)=U q:=by unfold jZ;rw[el,art I]
theorem ju(p q:V){m:Str}(ag:¬m="pending")(ai:¬m="part"):(jZ p q).lookup m=af:=by unfold jZ;rw[el,ars ai,el,ars ag];rfl
theorem Gk(p q x:V):bY "part" x (jZ p q)=jZ p x:=M5 _ _ _ _
theorem Gj(p q:V):(jZ p q).length<1000:=by have ag:=gX "part" q (bY "pending" p []);have ai:=gX "pending" p [];unfold jZ;rw[j4]at ai;omega
inductive DP(aX:Addr)(H:ax)(a:Addr)(e:cL):Prop
 |mk (fa) (h0:fa≠aX) (ag:H a=U (.tup [aV (sgn e),.ref fa])) (ai:H fa=U (.lst ((pT e).map aV)))
def oK(aX:Addr)(H:ax):List Addr->List cL->Prop
 |[],[]=>True
 |a::as,e::s=>DP aX H a e/\oK aX H as s
 |_,_=>False
def xX(aX:Addr)(H:ax)(v:V):Option gq->Prop
 |none=>v=.bZ
 |some B=>∃fa,fa≠aX/\v=.ref fa/\H fa=U (.lst ((flat B).map aV))
inductive e2(C aX r:Addr)(H:ax)(s:List cL)(p:Option gq):Prop
 |mk (aq:Addr) (v:V) (as:List Addr) (h0:H r=U (.ins C aq (jZ (.ref aX) v))) (ag:H aX=U (.lst (as.reverse.map V.ref))) (ai:oK aX H as s) (aN:xX aX H v p)
def da(r aX:Addr)(H ae:ax):Prop:=∀b o,H b=U o->b≠r->b≠aX->ae b=U o
theorem da.refl(r aX:Addr)(H:ax):da r aX H H:=λ_ _ h _ _=>h
theorem da.trans{r aX:Addr}{H H1 az:ax}(a:da r aX H H1)(b:da r aX H1 az):da r aX H az:=λc o h b' cB=>b c o (a c o h b' cB) b' cB
theorem da.same{r aX:Addr}{H ae:ax}(s:aw H ae):da r aX H ae:=λb o h _ _=>s b o h
theorem da.new{r aX p:Addr}{H ae:ax}{o:dE}(k:da r aX H ae)(h:ae p=af):da r aX H (upd ae p o):=λb u e b' cB=>by have:=k b u e b' cB;rw[aY (bj this h)];exact this
theorem da.A3{r aX:Addr}{H ae:ax}{o:dE}(k:da r aX H ae):da r aX H (upd ae r o):=λb u e b' cB=>by rw[aY b'];exact k b u e b' cB
theorem da.x6{r aX:Addr}{H ae:ax}{o:dE}(k:da r aX H ae):da r aX H (upd ae aX o):=λb u e b' cB=>by rw[aY cB];exact k b u e b' cB
theorem DP.keep{r aX C aq a:Addr}{H ae:ax}{bk:List (Str×V)}{xs:List V}{e:cL}(k:da r aX H ae)(aL:H r=U (.ins C aq bk))(au:H aX=U (.lst xs))(h:DP aX H a e):DP aX ae a e:=by obtain⟨fa,n,ag,ai⟩:=h;exact⟨fa,n,k _ _ ag (cH ag aL df) (cH ag au df),k _ _ ai (cH ai aL df) n⟩
theorem oK.keep{r aX C aq:Addr}{H ae:ax}{bk:List (Str×V)}{xs:List V}(k:da r aX H ae)(aL:H r=U (.ins C aq bk))(au:H aX=U (.lst xs)):∀{as:List Addr}{s:List cL},oK aX H as s->oK aX ae as s
 |[],[],_=>trivial
 |a::as,e::s,h=>⟨h.1.keep k aL au,oK.keep k aL au h.2⟩
theorem xX.keep{r aX C aq:Addr}{H ae:ax}{bk:List (Str×V)}{v:V}(k:da r aX H ae)(aL:H r=U (.ins C aq bk)):∀{p:Option gq},xX aX H v p->xX aX ae v p
 |none,h=>h
 |some B,h=>by obtain⟨fa,n,e,ai⟩:=h;exact⟨fa,n,e,k _ _ ai (cH ai aL df) n⟩
theorem oK.len{aX:Addr}{H:ax}:∀{as:List Addr}{s:List cL},oK aX H as s->as.length=s.length
 |[],[],_=>rfl
 |a::as,e::s,h=>by rw[cW,cW,oK.len h.2]
theorem e2.grow{C aX r:Addr}{H ae:ax}{s:List cL}{p:Option gq}(h:e2 C aX r H s p)(g:aw H ae):e2 C aX r ae s p:=by obtain⟨aq,v,as,ag,ai,aN,bD⟩:=h;exact⟨aq,v,as,g _ _ ag,g _ _ ai,aN.keep (da.same g) ag ai,bD.keep (da.same g) ag⟩
def kY:List cL->V
 |[]=>.bZ
 |e::_=>aV (sgn e)
inductive Yh(C:Addr)(vs:List V)(H:ax)(Q:c9)(asq:lM):Prop
 |mk (r aq:Addr) (h0:vs=[.ref r]) (ag:H r=U (.ins C aq [])) (ai:∀(ae:ax)(aX:Addr),H aX=af->e2 C aX r ae [] af->(∀b o,H b=U o->b≠r->ae b=U o)->Q .bZ ae)
theorem akr(T:Txt K ap A):a0 P w K ap base a8 1 A.uU A.yd ["self"] (Yh A.c7):=by
 refine T.QW.F.ok amI (λvs H Q E h=>?_) (λb9 cV outer s H vs Q E aL h=>?_)
 ·obtain⟨r,aq,rfl,_⟩:=h;rfl
 ·obtain⟨r,aq,rfl,dW,k⟩:=h;refine⟨_,a3 (hn (aj 0) (du aJ) I) (bb (hn (aj 0) gk I)),?_⟩;refine⟨ec _,λp aO=>?_⟩;have Ln:r≠p:=bj dW aO;refine⟨_,I,r,_,aq,_,I,(by rw[aY Ln];exact dW),T.eR,T.od,Ab,?_⟩;refine⟨_,I,r,_,aq,_,I,aW,T.eR,T.l6,?_,?_⟩
  ·exact k7 (gX _ _ _) Aa
  ·refine k _ p aO ⟨aq,.bZ,[],?_,?_,trivial,I⟩ (λb o e n=>?_)
   ·rw[aW];rfl
   ·rw[aY (bQ Ln),aY (bQ Ln),aW];rfl
   ·rw[aY n,aY n,aY (bj e aO)];exact e
inductive z2(C:Addr)(vs:List V)(H:ax)(Q:c9)(asq:lM):Prop
 |mk (r:Addr) (h0:vs=[.ref r]) (ag:∃(aX:Addr)(s:List cL)(p:Option gq),e2 C aX r H s p/\Q (kY s) H)
theorem Cw(T:Txt K ap A):a0 P w K ap base a8 1 A.oP A.pY ["self"] (z2 A.c7):=by
 refine T.uy.F.ok amJ (λvs H Q E h=>?_) (λb9 cV outer s H vs Q E aL h=>?_)
 ·obtain⟨r,rfl,_⟩:=h;rfl
 ·obtain⟨r,rfl,aX,st,p,⟨aq,v,as,ag,ai,aN,bD⟩,k⟩:=h;refine⟨_,bb (bE (zQ (Xf (bH (aj 0) I) (λ_=>I)) (eo o9 (eo gi (bH (aj 0) I) (F6 G9 dt) (λ_ _=>I)) dt (λ_ _=>I)) gk)),?_⟩;refine⟨_,I,r,_,aq,_,_,I,ag,T.eR,T.od,rE _ _,_,.inl ⟨_,aI.of ai,I⟩,?_⟩;match as,st,ai,aN,k with
  |[],[],ai,aN,k=>exact k
  |a::as,e::st,ai,⟨⟨fa,n,aS,aQ⟩,_⟩,k=>have ki:(a::as).reverse.map V.ref=as.reverse.map V.ref++[V.ref a]:=bl;rw[ki]at ai⊢;refine d5 (λ_=>?_) (λz=>aro bl z);refine⟨_,I,r,_,aq,_,_,I,ag,T.eR,T.od,rE _ _,_,I,aX,_,_,_,I,I,aI.of ai,acY _ _,a,_,_,_,I,I,eQ.of aS,eI (j:=0) I,k⟩
inductive O7(C:Addr)(vs:List V)(H:ax)(Q:c9)(asq:lM):Prop
 |mk (r fa aX:Addr) (e:cL) (s:List cL) (p:Option gq) (h0:vs=[.ref r,aV (sgn e),.ref fa]) (ag:e2 C aX r H s p) (ai:fa≠aX) (aN:H fa=U (.lst ((pT e).map aV))) (bD:s.length<=100000) (cw:∀ae,e2 C aX r ae (e::s) af->da r aX H ae->Q (.bB (decide (s.length+1<=100))) ae)
theorem WN(T:Txt K ap A):a0 P w K ap base a8 1 A.sm A.vW ["self","sign","ahead"] (O7 A.c7):=by
 refine T.DM.F.ok amK (λvs H Q E h=>?_) (λb9 cV outer s H vs Q E aL h=>?_)
 ·obtain⟨r,fa,aX,e,st,p,rfl,_⟩:=h;rfl
 ·obtain⟨r,fa,aX,e,st,p,rfl,⟨aq,v,as,ag,ai,aN,bD⟩,nk,p9,hlen,k⟩:=h;refine⟨_,a3 (fE (iy PySem.F.plainAttrs_list PySem.F.slot_list_append PySem.F.type_list_append mI (bH (aj 0) I) (aB (tC (aB (aj 1) (aB (aj 2) aJ))) aJ))) (a3 (hn (aj 0) gk I) (bb (bE (tB MN (c4 eJ I T.dG PySem.boot_len (aB (bH (aj 0) I) aJ)) (c3 I T.LZ) (cY _))))),?_⟩;have hK:r≠aX:=cH ag ai df;have wd:=aN.len;refine⟨_,I,r,_,aq,_,_,I,ag,T.eR,T.od,rE _ _,.inl ⟨I,_,aI.of ai⟩,_,I,_,I,iC,λq aK=>?_⟩;have UT:aX≠q:=bj ai aK;have U7:r≠q:=bj ag aK;have aqD:fa≠q:=bj p9 aK;have zk:fa≠r:=cH p9 ag df;refine⟨aX,_,_,I,I,(by rw[aY UT];exact ai),?_,?_⟩
  ·rw[aU,t2,wd];exact k7 hlen a5
  ·refine⟨_,I,r,_,aq,_,I,(by rw[aY hK,aY U7];exact ag),T.eR,T.l6,Gj _ _,?_⟩;rw[Gk];generalize hZ:upd (upd (upd H q (.tup [aV (sgn e),.ref fa])) aX (.lst (as.reverse.map V.ref++[V.ref q]))) r (.ins A.c7 aq (jZ (.ref aX) .bZ))=aZ;have bJ:da r aX H aZ:=by rw[<-hZ];exact((da.refl r aX H).new aK).x6.A3
   have b0:aZ r=U (.ins A.c7 aq (jZ (.ref aX) .bZ)):=by rw[<-hZ];exact aW
   have eW:aZ aX=U (.lst ((q::as).reverse.map V.ref)):=by rw[<-hZ,aY (bQ hK),aW];simp
   have gT:aZ q=U (.tup [aV (sgn e),.ref fa]):=by rw[<-hZ,aY (bQ U7),aY (bQ UT),aW]
   have ij:aZ fa=U (.lst ((pT e).map aV)):=bJ _ _ p9 zk nk;refine⟨_,I,r,_,aq,_,_,I,b0,T.eR,T.od,rE _ _,aX,_,I,.inl (aI.of eW),_,_,I,I,?_⟩;have kf:decide ((((q::as).reverse.map V.ref).length:Int)<=100)=decide (st.length+1<=100):=by rw[aU,t2,cW,wd];congr 1;simp;omega
   show Q (V.bB (decide ((((q::as).reverse.map V.ref).length:Int)<=100))) aZ;rw[kf];exact k aZ ⟨aq,.bZ,q::as,b0,eW,⟨⟨fa,nk,gT,ij⟩,aN.keep bJ ag ai⟩,I⟩ bJ
theorem e2.top{C aX r:Addr}{H:ax}{e:cL}{s:List cL}{p:Option gq}(h:e2 C aX r H (e::s) p):asA λ(aq:Addr)(v:V)(a:Addr)(as:List Addr)(fa:Addr)=>H r=U (.ins C aq (jZ (.ref aX) v))/\H aX=U (.lst (as.reverse.map V.ref++[V.ref a]))/\fa≠aX/\H a=U (.tup [aV (sgn e),.ref fa])/\H fa=U (.lst ((pT e).map aV))/\oK aX H as s/\xX aX H v p:=by
 obtain⟨aq,v,as,ag,ai,aN,bD⟩:=h;match as,ai,aN with
 |a::as,ai,⟨⟨fa,n,aS,aQ⟩,aN⟩=>have ki:(a::as).reverse.map V.ref=as.reverse.map V.ref++[V.ref a]:=bl;rw[ki]at ai;exact⟨aq,v,a,as,fa,ag,ai,n,aS,aQ,aN,bD⟩
theorem zw(as:List Addr)(a:Addr):(as.reverse.map V.ref++[V.ref a])[(as.reverse.map V.ref++[V.ref a]).length-1]? =U (V.ref a):=by rw[cA];simp
theorem JZ(as:List Addr)(a:Addr):(as.reverse.map V.ref++[V.ref a]).dropLast=as.reverse.map V.ref:=bl
def eA(aX:Addr)(H:ax):Nat:=match H aX with
 |some (.lst xs)=>xs.length
 |_=>0
theorem e2.eA{C aX r:Addr}{H:ax}{s:List cL}{p:Option gq}(h:e2 C aX r H s p):eA aX H=s.length:=by obtain⟨aq,v,as,ag,ai,aN,bD⟩:=h;unfold ck.eA;rw[ai];show(as.reverse.map V.ref).length=_;rw[aU,t2,aN.len]
theorem e2.ins{C aX r:Addr}{H:ax}{s:List cL}{p:Option gq}(h:e2 C aX r H s p):∃aq v,H r=U (.ins C aq (jZ (.ref aX) v))/\∃xs,H aX=U (.lst xs):=by obtain⟨aq,v,as,ag,ai,_,_⟩:=h;exact⟨aq,v,ag,_,ai⟩
theorem e2.part{C aX r aq:Addr}{H:ax}{s:List cL}{p:Option gq}{v:V}{g9:Addr}{B:gq}(h:e2 C aX r H s p)(aL:H r=U (.ins C aq (jZ (.ref aX) v)))(aC:g9≠aX)(ak:H g9=U (.lst ((flat B).map aV))):e2 C aX r (upd H r (.ins C aq (jZ (.ref aX) (.ref g9)))) s (U B):=by obtain⟨lQ,v',as,ag,ai,aN,bD⟩:=h;have hK:r≠aX:=cH aL ai df;have KW:g9≠r:=cH ak aL df;have k:da r aX H (upd H r (.ins C aq (jZ (.ref aX) (.ref g9)))):=(da.refl r aX H).A3;exact⟨aq,_,as,aW,by rw[aY (bQ hK)];exact ai,aN.keep k ag ai,g9,aC,I,by rw[aY KW];exact ak⟩
theorem e2.popped{C aX r aq a fa:Addr}{as:List Addr}{H:ax}{s:List cL}{p:Option gq}{v:V}(ag:H r=U (.ins C aq (jZ (.ref aX) v)))(ai:H aX=U (.lst (as.reverse.map V.ref++[V.ref a])))(aN:oK aX H as s)(bD:xX aX H v p):e2 C aX r (upd H aX (.lst (as.reverse.map V.ref++[V.ref a]).dropLast)) s p:=by have hK:r≠aX:=cH ag ai df;have k:da r aX H (upd H aX (.lst (as.reverse.map V.ref++[V.ref a]).dropLast)):=(da.refl r aX H).x6;exact⟨aq,v,as,by rw[aY hK];exact ag,by rw[aW,JZ],aN.keep k ag ai,bD.keep k ag⟩
theorem GG{e:cL}(g:EE e):(sgn e=[126]↔e=.turn)/\(sgn e=[40]↔e=.gy)/\(sgn e=[45,111]↔∃B,e=.arr B)/\((sgn e=[42]\/sgn e=[124])↔∃c B,e=.bin c B):=by
 match e,g with
 | .turn,_=>simp[sgn]
 | .gy,_=>simp[sgn]
 | .arr B,_=>simp[sgn]
 | .bin c B,g=>rcases g.1 with rfl|rfl<;>simp[sgn]
theorem GD(s:List cL)(l:List Nat):GC (kY s) (aV l)=ah:=by cases s<;>rfl
theorem aeF(s:List cL):oT (kY s)=ah:=by cases s<;>rfl
theorem ls_eq{s:List cL}{l:List Nat}:kY s=aV l↔∃e t,s=e::t/\sgn e=l:=by
 cases s with
 |nil=>exact⟨(λh=>nomatch h),(λ⟨_,_,h,_⟩=>nomatch h)⟩
 |cons e t=>exact⟨λh=>⟨e,t,I,xc h⟩,λ⟨e',t',h,q⟩=>by cases h;rw[<-q];rfl⟩
theorem VU{s:List cL}(g:hs s):iM (kY s) [aV [42],aV [124]]=ah↔∃c B t,s=.bin c B::t:=by
 cases s with
 |nil=>exact⟨(λh=>nomatch h),(λ⟨_,_,_,h⟩=>nomatch h)⟩
 |cons e t=>
  have q:=(GG (g e (eB _))).2.2.2;show iM (aV (sgn e)) _=ah↔_;rw[zt,pz,decide_eq_true_iff,decide_eq_true_iff,q];constructor
  ·rintro⟨c,B,rfl⟩;exact⟨c,B,t,I⟩
  ·rintro⟨c,B,t',h⟩;cases h;exact⟨c,B,I⟩
inductive O3(C:Addr)(vs:List V)(H:ax)(Q:c9)(asq:lM):Prop
 |mk (r fa aX:Addr) (B:gq) (s:List cL) (p:Option gq) (h0:vs=[.ref r,.ref fa]) (ag:e2 C aX r H s p) (ai:fa≠aX) (aN:H fa=U (.lst ((flat B).map aV))) (bD:dJ B) (cw:hs s) (e_:(flat B).length<=100000) (iW:∀ae,e2 C aX r ae (mM s B).1 (U (mM s B).2)->da r aX H ae->Q .bZ ae)
theorem WI(T:Txt K ap A):a0 P w K ap base a8 3 A.sl A.vV ["self","formula"] (O3 A.c7):=by
 have cv:a0 P w K ap base a8 1 A.oP A.pY ["self"] (z2 A.c7):=Cw T;have dB:a0 P w K ap base a8 2 A.pP A.q8 ["formula"] (CQ (K:=K)):=FU T;refine T.Iu.F.ok X3 (λvs H Q E h=>?_) (λb9 cV outer s H vs Q E aL h=>?_)
 ·obtain⟨r,fa,aX,B,s,p,rfl,_⟩:=h;rfl
 ·obtain⟨r,fa,aX,B,st,p,rfl,dN,nk,p9,gU,kT,a9,k⟩:=h;have dW:de 1 _:=aL.mono a5;refine⟨_,a3 (qr gD (cJ gY (hl (aj 0) T.eR T.zA cv dW T.uy.b .nil bG) (c3 I T.GY) (cY _)) (a3 (fE (qq PySem.F.plainAttrs_list PySem.F.slot_list_pop PySem.F.type_list_pop wI (bH (aj 0) I))) (bb (cQ (i:=1) X3.ba I (bA I) (c2 dB aL I T.EA T.qQ.F.bJ T.qQ.b .nil bG (aB (aj 1) aJ)))))) (bb (hn (aj 0) (aj 1) I)),?_⟩;refine xk (λσ ae=>asy λ(g9:Addr)(dU:gq)(eG:List cL)(p':Option gq)=>σ=[U (.ref r),U (.ref g9)]/\e2 A.c7 aX r ae eG p'/\g9≠aX/\ae g9=U (.lst ((flat dU).map aV))/\dJ dU/\hs eG/\(flat dU).length<=100000/\mM eG dU=mM st B/\da r aX H ae) (λ_ ae=>eA aX ae) ⟨fa,B,st,p,I,dN,nk,p9,gU,kT,a9,I,da.refl _ _ _⟩ ?_ ?_
  ·rintro σ H1 ⟨g9,dU,eG,p',rfl,il,UC,ze,sI,oX,nu,he,bJ⟩;obtain⟨jS,tU,ci,tY,cU⟩:=il.ins;refine⟨_,I,r,jS,_,I,ci,ju _ _ aD aD,r,I,aX,eG,p',il,GD _ _,_,I,?_⟩;refine d5 (λq=>?_) (λq=>?_)
   ·obtain⟨e,t,rfl,es⟩:=ls_eq.mp (aru q);have Bg:e=.turn:=((GG (oX e (eB _))).1).mp es;subst Bg;obtain⟨aq,v,a,as,mq,ag,ai,n,aS,aQ,aN,bD⟩:=il.top;refine⟨_,I,r,_,aq,_,_,I,ag,T.eR,T.od,rE _ _,.inl ⟨I,_,aI.of ai⟩,aX,_,_,I,I,ai,zw _ _,?_⟩;have io:=e2.popped (fa:=mq) ag ai aN bD;generalize jo:upd H1 aX (.lst (as.reverse.map V.ref++[V.ref a]).dropLast)=az at io;have fD:da r aX H1 az:=by rw[<-jo];exact(da.refl r aX H1).x6
    have KW:g9≠r:=cH ze ag df;have BD:az g9=U (.lst ((flat dU).map aV)):=fD _ _ ze KW UC;refine⟨_,I,g9,flat dU,I,aI.of BD,b3 nu a5,λl au=>b3 (m9 dU sI l au).1 a5,λaZ c_ s3 hJ b0=>?_⟩;rw[rc dU sI]at b0;obtain⟨jm,v2,dP,aoV,eE⟩:=io.ins;refine⟨⟨c_,dg dU,t,p',I,io.grow s3,(bj eE hJ).symm,b0,oY dU sI,sL oX,by rw[rd sI];exact nu,he,(bJ.trans fD).trans (da.same s3)⟩,?_⟩;rw[(io.grow s3).eA,il.eA,cW];omega
   ·have BR:ql eG:=by
     match eG,q with
     |[],_=>trivial
     | .turn::_,q=>exact aro (arq I) q
     | .gy::_,_=>trivial
     | .bin _ _::_,_=>trivial
     | .arr _::_,_=>trivial
    rw[Xb BR]at he;rw[<-he]at k;refine⟨_,I,_,I,r,_,jS,_,I,ci,T.eR,T.l6,Gj _ _,?_⟩;rw[Gk];exact k _ (il.part ci UC ze) bJ.A3
  ·rintro σ ae AX h9 aK ⟨v,e,a,aq,bk,aS,aQ,b0,r',eW,Ci,s',p',wc,sc,co,gT,q⟩;exact⟨v,e,a,aq,bk,aS,aQ,b0,r',eW,Ci,s',p',wc,sc,co,gT,aK _ _ q⟩
inductive O1(C:Addr)(vs:List V)(H:ax)(Q:c9)(asq:lM):Prop
 |mk (r aX:Addr) (B:gq) (s:List cL) (h0:vs=[.ref r]) (ag:e2 C aX r H s (U B)) (ai:dJ B) (aN:hs s) (bD:wS s+(flat B).length<=100000) (cw:∀ae,e2 C aX r ae (gH s B).1 (U (gH s B).2)->da r aX H ae->Q .bZ ae)
theorem WG(T:Txt K ap A):a0 P w K ap base a8 2 A.sj A.vT ["self"] (O1 A.c7):=by
 have cv:a0 P w K ap base a8 1 A.oP A.pY ["self"] (z2 A.c7):=Cw T;refine T.Iq.F.ok OJ (λvs H Q E h=>?_) (λb9 cV outer s H vs Q E aL h=>?_)
 ·obtain⟨r,aX,B,s,rfl,_⟩:=h;rfl
 ·obtain⟨r,aX,B,st,rfl,dN,gU,kT,a9,k⟩:=h;refine⟨_,bb (qr gD (cJ tw (hl (aj 0) T.eR T.zA cv aL T.uy.b .nil bG) (tC (aB (c3 I T.qv) (aB (c3 I T.rJ) aJ))) me) (a3 (cQ (i:=1) OJ.ba I (bA I) (hl (aj 0) T.eR T.zA cv aL T.uy.b .nil bG)) (a3 (cQ (i:=2) OJ.ba I (bA I) (eo o9 (qq PySem.F.plainAttrs_list PySem.F.slot_list_pop PySem.F.type_list_pop wI (bH (aj 0) I)) dt (λ_ _=>I))) (bb (hn (aj 0) (fj kx (fj kx (du (aB (aj 1) aJ)) (aj 2)) (bH (aj 0) I)) I))))),?_⟩;refine xk (λσ ae=>asy λ(v1 v2:Option V)(dU:gq)(eG:List cL)=>σ=[U (.ref r),v1,v2]/\e2 A.c7 aX r ae eG (U dU)/\dJ dU/\hs eG/\wS eG+(flat dU).length<=100000/\gH eG dU=gH st B/\da r aX H ae) (λ_ ae=>eA aX ae) ⟨af,af,B,st,I,dN,gU,kT,a9,I,da.refl _ _ _⟩ ?_ ?_
  ·rintro σ H1 ⟨v1,v2,dU,eG,rfl,il,sI,oX,nu,he,bJ⟩;obtain⟨jS,tU,ci,tY,cU⟩:=il.ins;refine⟨_,I,r,jS,_,I,ci,ju _ _ aD aD,r,I,aX,eG,U dU,il,iC,λiN iL=>?_⟩;refine⟨iN,_,I,.inr (eQ.of aW),aeF _,I,_,I,?_⟩;have s0:aw H1 (upd H1 iN (.tup [aV [42],aV [124]])):=aw.new iL;have il:=il.grow s0;have bJ:=bJ.trans (da.same s0);have ajw:eA aX (upd H1 iN (.tup [aV [42],aV [124]]))=eA aX H1:=by unfold eA;rw[aY (bj cU iL)]
   generalize upd H1 iN (.tup [aV [42],aV [124]])=az at*;obtain⟨jS,tU,ci,tY,cU⟩:=il.ins;show if iM (kY eG) [aV [42],aV [124]]=ah then _ else _
   refine d5 (λq=>?_) (λq=>?_)
   ·obtain⟨c,dX,t,rfl⟩:=(VU oX).mp q;have oW:=oX _ (eB _);obtain⟨aq,v,a,as,mq,ag,ai,n,aS,aQ,aN,bD⟩:=il.top;refine⟨_,I,r,aq,_,I,ag,ju _ _ aD aD,r,I,aX,_,_,il,?_⟩;refine⟨_,I,r,_,aq,_,_,I,ag,T.eR,T.od,rE _ _,.inl ⟨I,_,aI.of ai⟩,aX,_,_,I,I,ai,zw _ _,?_⟩;have io:=e2.popped (fa:=mq) ag ai aN bD;generalize ni:upd az aX (.lst (as.reverse.map V.ref++[V.ref a]).dropLast)=aZ at io;have fD:da r aX az aZ:=by rw[<-ni];exact(da.refl r aX az).x6
    have KR:a≠r:=cH aS ag df;have wd:a≠aX:=cH aS ai df;have K1:mq≠r:=cH aQ ag df;refine⟨a,_,_,_,I,I,eQ.of (fD _ _ aS KR wd),eI (j:=1) I,?_⟩;refine⟨_,I,eH,λa7 gW=>?_⟩;have En:=fD _ _ aQ K1 n;obtain⟨oR,eL,dP,ari,eE⟩:=io.ins;refine⟨_,I,a7,mq,_,_,I,I,aW,(by rw[aY (bj En gW)];exact En),?_,λbc i1=>?_⟩
    ·have nu:(1+(flat dX).length+wS t)+(flat dU).length<=100000:=nu;show 1+((flat dX).map aV).length<=_;rw[aU];exact b3 (show 1+(flat dX).length<=100000 by omega) a5
    have s1:aw aZ (upd aZ a7 (.lst [kY (.bin c dX::t)])):=aw.new gW;have s2:=s1.trans (aw.new (o:=.lst ([kY (.bin c dX::t)]++(pT (.bin c dX)).map aV)) i1);have aht:(upd (upd aZ a7 (.lst [kY (.bin c dX::t)])) bc (.lst ([kY (.bin c dX::t)]++(pT (.bin c dX)).map aV))) bc=_:=aW;have kU:=io.grow s2;generalize(upd (upd aZ a7 (.lst [kY (.bin c dX::t)])) bc (.lst ([kY (.bin c dX::t)]++(pT (.bin c dX)).map aV)))=bz at*;obtain⟨jT,v4,x5,gx,ku,mH,g9,i4,rfl,l3⟩:=kU;refine⟨_,I,r,_,jT,_,_,I,gx,T.eR,T.l6,tI _ _,bc,g9,_,_,I,I,aht,l3,?_,λc_ hJ=>?_⟩
    ·have nu:(1+(flat dX).length+wS t)+(flat dU).length<=100000:=nu;rw[cA,aU,aU];show(1+(flat dX).length)+(flat dU).length<=_;exact b3 (show 1+(flat dX).length+(flat dU).length<=100000 by omega) a5
    have kU:e2 A.c7 aX r bz t (U dU):=⟨jT,_,x5,gx,ku,mH,g9,i4,I,l3⟩;have n6:[kY (.bin c dX::t)]++(pT (.bin c dX)).map aV++(flat dU).map aV=(flat (xM c dX dU)).map aV:=by rw[Kh oW.1,dO,eU];rfl
    rw[n6];have s5:aw bz (upd bz c_ (.lst ((flat (xM c dX dU)).map aV))):=aw.new hJ;have KH:=kU.grow s5;have gT:(upd bz c_ (.lst ((flat (xM c dX dU)).map aV))) c_=U (.lst ((flat (xM c dX dU)).map aV)):=aW;have l5:c_≠aX:=(bj ku hJ).symm;have kp:da r aX az (upd bz c_ (.lst ((flat (xM c dX dU)).map aV))):=(fD.trans (da.same s2)).trans (da.same s5);have pg:=s5 _ _ gx;generalize upd bz c_ (.lst ((flat (xM c dX dU)).map aV))=cb at*;refine⟨_,I,r,_,jT,_,I,pg,T.eR,T.l6,Gj _ _,?_⟩;rw[Gk];have By:=KH.part pg l5 gT;refine⟨⟨_,_,xM c dX dU,t,I,By,Ub oW.1 oW.2 sI,sL oX,?_,he,(bJ.trans kp).A3⟩,?_⟩
    ·rw[Kh oW.1,cW,cA];have nu:(1+(flat dX).length+wS t)+(flat dU).length<=100000:=nu;omega
    ·rw[By.eA,<-ajw,il.eA,cW];omega
   ·have BP:nb eG:=by
     match eG,q with
     |[],_=>trivial
     | .bin c dX::t,q=>exact aro ((VU oX).mpr ⟨c,dX,t,I⟩) q
     | .turn::_,_=>trivial
     | .gy::_,_=>trivial
     | .arr _::_,_=>trivial
    rw[Ki BP]at he;rw[<-he]at k;exact k _ il bJ
  ·rintro σ ae AX h9 aK ⟨v,e,a,aq,bk,aS,aQ,b0,r',eW,Ci,s',p',wc,ma,f⟩;refine⟨v,e,a,aq,bk,aS,aQ,b0,r',eW,Ci,s',p',wc,ma,λiN iL=>?_⟩;obtain⟨dK,aoU,vN,Bd,JT,JU,co,JV,q⟩:=f iN iL;exact⟨dK,aoU,vN,Bd,JT,JU,co,JV,aK _ _ q⟩
inductive O2(C:Addr)(vs:List V)(H:ax)(Q:c9)(asq:lM):Prop
 |mk (r aX:Addr) (B:gq) (s:List cL) (h0:vs=[.ref r]) (ag:e2 C aX r H s (U B)) (ai:dJ B) (aN:hs s) (bD:wS s+(flat B).length<=100000) (cw:∀ae,e2 C aX r ae (fZ s B).1 (U (fZ s B).2)->da r aX H ae->Q .bZ ae)
theorem WH(T:Txt K ap A):a0 P w K ap base a8 3 A.sk A.vU ["self"] (O2 A.c7):=by
 have cv:a0 P w K ap base a8 1 A.oP A.pY ["self"] (z2 A.c7):=Cw T;have dB:a0 P w K ap base a8 2 A.pP A.q8 ["formula"] (CQ (K:=K)):=FU T;have fQ:a0 P w K ap base a8 2 A.sj A.vT ["self"] (O1 A.c7):=WG T;refine T.Ir.F.ok X2 (λvs H Q E h=>?_) (λb9 cV outer s H vs Q E aL h=>?_)
 ·obtain⟨r,aX,B,s,rfl,_⟩:=h;rfl
 ·obtain⟨r,aX,B,st,rfl,dN,gU,kT,a9,k⟩:=h;have dW:de 1 _:=aL.mono a5;refine⟨_,a3 (fE (hl (aj 0) T.eR T.V2 fQ aL T.Iq.b .nil bG)) (bb (qr gD (cJ gY (hl (aj 0) T.eR T.zA cv dW T.uy.b .nil bG) (c3 I T.GV) (cY _)) (a3 (cQ (i:=1) X2.ba I (bA I) (eo o9 (qq PySem.F.plainAttrs_list PySem.F.slot_list_pop PySem.F.type_list_pop wI (bH (aj 0) I)) dt (λ_ _=>I))) (bb (hn (aj 0) (fj kx (fj kx (du (aB (c3 I T.rJ) aJ)) (c2 dB aL I T.EA T.qQ.F.bJ T.qQ.b .nil bG (aB (aj 1) aJ))) (bH (aj 0) I)) I))))),?_⟩;obtain⟨J1,aoD,l1,aoW,nv⟩:=dN.ins;refine⟨_,I,r,J1,_,I,l1,ju _ _ aD aD,r,aX,B,st,I,dN,gU,kT,a9,λc8 o1 mE=>?_⟩;obtain⟨Bq,Ey,B6⟩:=Bn st B kT gU;refine xk (λσ ae=>∃(v1:Option V)(dU:gq)(eG:List cL),σ=[U (.ref r),v1]/\e2 A.c7 aX r ae eG (U dU)/\dJ dU/\hs eG/\wS eG+(flat dU).length<=100000/\oj eG dU=fZ st B/\da r aX H ae) (λ_ ae=>eA aX ae) ⟨af,(gH st B).2,(gH st B).1,I,o1,Ey,Bq,b3 B6 a9,I,mE⟩ ?_ ?_
  ·rintro σ H1 ⟨v1,dU,eG,rfl,il,sI,oX,nu,he,bJ⟩;obtain⟨jS,tU,ci,tY,cU⟩:=il.ins;refine⟨_,I,r,jS,_,I,ci,ju _ _ aD aD,r,I,aX,eG,U dU,il,GD _ _,_,I,?_⟩;refine d5 (λq=>?_) (λq=>?_)
   ·obtain⟨e,t,rfl,es⟩:=ls_eq.mp (aru q);obtain⟨dX,Bg⟩:=((GG (oX e (eB _))).2.2.1).mp es;subst Bg;have oW:dJ dX:=oX _ (eB _);have nu:(1+(flat dX).length+wS t)+(flat dU).length<=100000:=nu;obtain⟨aq,v,a,as,mq,ag,ai,n,aS,aQ,aN,bD⟩:=il.top;refine⟨_,I,r,_,aq,_,_,I,ag,T.eR,T.od,rE _ _,.inl ⟨I,_,aI.of ai⟩,aX,_,_,I,I,ai,zw _ _,?_⟩;have io:=e2.popped (fa:=mq) ag ai aN bD;generalize ni:upd H1 aX (.lst (as.reverse.map V.ref++[V.ref a]).dropLast)=aZ at io;have fD:da r aX H1 aZ:=by rw[<-ni];exact(da.refl r aX H1).x6
    have KR:a≠r:=cH aS ag df;have wd:a≠aX:=cH aS ai df;have K1:mq≠r:=cH aQ ag df;refine⟨a,_,_,_,I,I,eQ.of (fD _ _ aS KR wd),eI (j:=1) I,?_⟩;refine⟨eH,λa7 gW=>?_⟩;have En:aZ mq=U (.lst ((flat dX).map aV)):=fD _ _ aQ K1 n;have s1:aw aZ (upd aZ a7 (.lst [aV [124]])):=aw.new gW;refine⟨_,I,mq,flat dX,I,aI.of (s1 _ _ En),b3 (show(flat dX).length<=100000 by omega) a5,λl au=>b3 (m9 dX oW l au).1 a5,λbz bc s2 i1 eW=>?_⟩;rw[rc dX oW]at eW;have ahs:bz a7=U (.lst [aV [124]]):=s2 _ _ aW;refine⟨a7,bc,_,_,I,I,ahs,eW,?_,λc_ hJ=>?_⟩
    ·show 1+((flat (dg dX)).map aV).length<=_;rw[aU,rd oW];exact b3 (show 1+(flat dX).length<=100000 by omega) a5
    have s3:=(s1.trans s2).trans (aw.new (o:=.lst ([aV [124]]++(flat (dg dX)).map aV)) hJ);have ahu:(upd bz c_ (.lst ([aV [124]]++(flat (dg dX)).map aV))) c_=_:=aW;have kU:=io.grow s3;generalize(upd bz c_ (.lst ([aV [124]]++(flat (dg dX)).map aV)))=cb at*;obtain⟨jT,v4,x5,gx,ku,mH,g9,i4,rfl,l3⟩:=kU;refine⟨_,I,r,_,jT,_,_,I,gx,T.eR,T.l6,tI _ _,c_,g9,_,_,I,I,ahu,l3,?_,λgN s8=>?_⟩
    ·rw[cA,aU,aU,rd oW];show(1+(flat dX).length)+(flat dU).length<=_;exact b3 (show 1+(flat dX).length+(flat dU).length<=100000 by omega) a5
    have kU:e2 A.c7 aX r cb t (U dU):=⟨jT,_,x5,gx,ku,mH,g9,i4,I,l3⟩;have n6:[aV [124]]++(flat (dg dX)).map aV++(flat dU).map aV=(flat (.par (dg dX) dU)).map aV:=by show _=([124]::(flat (dg dX)++flat dU)).map aV;rw[dO,eU];rfl
    rw[n6];have s5:aw cb (upd cb gN (.lst ((flat (.par (dg dX) dU)).map aV))):=aw.new s8;have KH:=kU.grow s5;have gT:(upd cb gN (.lst ((flat (.par (dg dX) dU)).map aV))) gN=U (.lst ((flat (.par (dg dX) dU)).map aV)):=aW;have l5:gN≠aX:=(bj ku s8).symm;have kp:da r aX H1 (upd cb gN (.lst ((flat (.par (dg dX) dU)).map aV))):=(fD.trans (da.same s3)).trans (da.same s5);have pg:=s5 _ _ gx;generalize upd cb gN (.lst ((flat (.par (dg dX) dU)).map aV))=dj at*;refine⟨_,I,r,_,jT,_,I,pg,T.eR,T.l6,Gj _ _,?_⟩;rw[Gk];have By:=KH.part pg l5 gT;refine⟨⟨_,.par (dg dX) dU,t,I,By,⟨oY dX oW,sI⟩,sL oX,?_,he,(bJ.trans kp).A3⟩,?_⟩
    ·show wS t+([124]::(flat (dg dX)++flat dU)).length<=_;rw[cW,cA,rd oW];omega
    ·rw[By.eA,il.eA,cW];omega
   ·have ag5:oj eG dU=(eG,dU):=by
     match eG,q with
     |[],_=>rfl
     | .arr dX::t,q=>exact aro (arq I) q
     | .turn::_,_=>rfl
     | .gy::_,_=>rfl
     | .bin _ _::_,_=>rfl
    rw[ag5]at he;rw[<-he]at k;exact k _ il bJ
  ·rintro σ ae AX h9 aK ⟨v,e,a,aq,bk,aS,aQ,b0,r',eW,Ci,s',p',wc,sc,co,gT,q⟩;exact⟨v,e,a,aq,bk,aS,aQ,b0,r',eW,Ci,s',p',wc,sc,co,gT,aK _ _ q⟩
def Out(C aX r:Addr)(H:ax)(Q:c9)(o:Option Cfg):Prop:=(o=af->∀ae,da r aX H ae->Q (.bB aE) ae)/\∀c,o=U c->∀ae,e2 C aX r ae c.1 c.2->da r aX H ae->Q (.bB ah) ae
inductive YD(C:Addr)(vs:List V)(H:ax)(Q:c9)(asq:lM):Prop
 |mk (r aX:Addr) (B:gq) (s:List cL) (h0:vs=[.ref r]) (ag:e2 C aX r H s (U B)) (ai:dJ B) (aN:hs s) (bD:wS s+(flat B).length<=100000) (cw:Out C aX r H Q (h3 (s,U B) (.sign 41)))
theorem akP(T:Txt K ap A):a0 P w K ap base a8 4 A.uS A.yb ["self"] (YD A.c7):=by
 have cv:a0 P w K ap base a8 1 A.oP A.pY ["self"] (z2 A.c7):=Cw T;have dB:a0 P w K ap base a8 3 A.sl A.vV ["self","formula"] (O3 A.c7):=WI T;have fQ:a0 P w K ap base a8 3 A.sk A.vU ["self"] (O2 A.c7):=WH T;refine T.QU.F.ok amG (λvs H Q E h=>?_) (λb9 cV outer s H vs Q E aL h=>?_)
 ·obtain⟨r,aX,B,s,rfl,_⟩:=h;rfl
 ·obtain⟨r,aX,B,st,rfl,dN,gU,kT,a9,dS,co⟩:=h;have dW:de 1 _:=aL.mono a5;refine⟨_,a3 (fE (hl (aj 0) T.eR T.V3 fQ aL T.Ir.b .nil bG)) (a3 (c5 (cJ rv (hl (aj 0) T.eR T.zA cv dW T.uy.b .nil bG) gL (cY _)) (bb (bE rz)) dd) (a3 (fE (qq PySem.F.plainAttrs_list PySem.F.slot_list_pop PySem.F.type_list_pop wI (bH (aj 0) I))) (a3 (fE (kC (aj 0) T.eR T.V4 dB aL T.Iu.b .nil bG (aB (bH (aj 0) I) aJ))) (bb (bE rz))))),?_⟩;obtain⟨J1,aoD,l1,aoW,nv⟩:=dN.ins;refine⟨_,I,r,J1,_,I,l1,ju _ _ aD aD,r,aX,B,st,I,dN,gU,kT,a9,λc8 o1 mE=>?_⟩;obtain⟨Bq,Ey,B6⟩:=J_ st B kT gU;have em:h3 (st,U B) (.sign 41)=(match(fZ st B).1 with
   | .gy::s'=>U (p0 s' (fZ st B).2)
   |_=>af):=rfl
  generalize(fZ st B).1=s1,(fZ st B).2=ed at*;obtain⟨jS,tU,ci,tY,cU⟩:=o1.ins;have J5:V.str "("=aV [40]:=aD;refine⟨_,I,r,jS,_,I,ci,ju _ _ aD aD,r,I,aX,s1,U ed,o1,?_⟩;show GC (kY s1) (V.str "(")=ah/\_;rw[J5];refine⟨GD _ _,_,I,?_⟩;by_cases aA:kY s1=aV [40]
  ·refine wy aA ?_;obtain⟨e,t,rfl,es⟩:=ls_eq.mp aA;have Bg:e=.gy:=((GG (Bq e (eB _))).2.1).mp es;subst Bg;obtain⟨aq,v,a,as,mq,ag,ai,n,aS,aQ,aN,bD⟩:=o1.top;refine⟨_,I,r,_,aq,_,_,I,ag,T.eR,T.od,rE _ _,.inl ⟨I,_,aI.of ai⟩,aX,_,_,I,I,ai,zw _ _,?_⟩;have io:=e2.popped (fa:=mq) ag ai aN bD;generalize jo:upd c8 aX (.lst (as.reverse.map V.ref++[V.ref a]).dropLast)=az at io;have fD:da r aX c8 az:=by rw[<-jo];exact(da.refl r aX c8).x6
   obtain⟨jT,v4,x5,gx,ku,mH,g9,i4,rfl,l3⟩:=id io;have ahZ:(flat ed).length<=100000:=aG;refine⟨_,I,r,jT,_,I,gx,ju _ _ aD aD,_,I,r,_,jT,_,_,I,gx,T.eR,T.l6,tI _ _,r,g9,aX,ed,t,U ed,I,io,i4,l3,Ey,sL Bq,ahZ,λaZ kU wB=>?_⟩;exact co _ em aZ kU ((mE.trans fD).trans wB)
  ·have aC:(!decide (kY s1=aV [40]))=ah:=by rw[arp aA];rfl
   have cP:h3 (st,U B) (.sign 41)=af:=by
    rw[em];match s1,aA with
    |[],_=>rfl
    | .gy::_,aA=>exact aro I aA
    | .turn::_,_=>rfl
    | .bin _ _::_,_=>rfl
    | .arr _::_,_=>rfl
   refine d5 (λ_=>?_) (λz=>aro aC z);exact dS cP c8 mE
inductive YT(C:Addr)(vs:List V)(H:ax)(Q:c9)(asq:lM):Prop
 |mk (r aX:Addr) (t:g4) (s:List cL) (h0:vs=[.ref r,aV (hx t)]) (ag:kj t) (ai:e2 C aX r H s af) (aN:hs s) (bD:s.length<=100000) (cw:Out C aX r H Q (h3 (s,af) t))
theorem ak5(T:Txt K ap A):a0 P w K ap base a8 4 A.uV A.ye ["self","token"] (YT A.c7):=by
 have cv:a0 P w K ap base a8 1 A.sm A.vW ["self","sign","ahead"] (O7 A.c7):=WN T;have dB:a0 P w K ap base a8 3 A.sl A.vV ["self","formula"] (O3 A.c7):=WI T;have fQ:a0 P w K ap base a8 2 A.pR A.q_ ["text"] CT:=FX T;refine T.QX.F.ok amL (λvs H Q E h=>?_) (λb9 cV outer s H vs Q E aL h=>?_)
 ·obtain⟨r,aX,t,s,rfl,_⟩:=h;rfl
 ·obtain⟨r,aX,t,st,rfl,gt,dN,kT,hlen,dS,co⟩:=h;have dW:de 1 _:=aL.mono a5;have gK:de 2 _:=aL.mono a5;refine⟨_,a3 (c5 (cJ tw (aj 1) (tC (aB (c3 I T.GY) (aB gL aJ))) me) (bb (bE (kC (aj 0) T.eR T.Mj cv dW T.DM.b .nil bG (aB (aj 1) (aB (du aJ) aJ))))) dd) (a3 (c5 (rA (lz (c2 fQ gK I T.EC T.qS.F.bJ T.qS.b .nil bG (aB (aj 1) aJ)))) (bb (bE rz)) dd) (a3 (fE (kC (aj 0) T.eR T.V4 dB aL T.Iu.b .nil bG (aB (du (aB (aj 1) aJ)) aJ))) (bb (bE rz)))),?_⟩;have J5:V.str "("=aV [40]:=aD;refine⟨_,I,iC,λiN iL=>?_⟩;have s0:aw H (upd H iN (.tup [aV [126],V.str "("])):=aw.new iL;have o1:=dN.grow s0;have mE:da r aX H (upd H iN (.tup [aV [126],V.str "("])):=da.same s0;have aes:(upd H iN (.tup [aV [126],V.str "("])) iN=U (.tup [aV [126],aV [40]]):=by rw[aW,J5]
  generalize(upd H iN (.tup [aV [126],V.str "("]))=H1 at*;refine⟨iN,[aV [126],aV [40]],I,.inr (eQ.of aes),I,I,_,I,?_⟩;show if iM (aV (hx t)) [aV [126],aV [40]]=ah then _ else _
  rw[zt];obtain⟨jS,tU,ci,tY,cU⟩:=o1.ins;refine d5 (λq=>?_) (λq=>?_)
  ·have bV:∃e:cL,sgn e=hx t/\pT e=[]/\h3 (st,af) t=put st e:=by
    rcases C_.mp q with z|z
    ·have z:=aru z;match t,gt,z with
     | .sign c,gt,z=>
      have:c=126:=by have z:[c.toNat]=[126]:=z;exact xJ (fN z).1
      subst this;exact⟨.turn,I,I,I⟩
     | .name a,gt,z=>obtain⟨c,r',e,aP,_⟩:=mJ gt;have z:codes a=[126]:=z;rw[e]at z;exact aro (fN z).1 (w' aP).2.2
     | .arrow,_,z=>exact aro z a5
    ·have z:=aru z;match t,gt,z with
     | .sign c,gt,z=>
      have:c=40:=by have z:[c.toNat]=[40]:=z;exact xJ (fN z).1
      subst this;exact⟨.gy,I,I,I⟩
     | .name a,gt,z=>obtain⟨c,r',e,aP,_⟩:=mJ gt;have z:codes a=[40]:=z;rw[e]at z;have:=(fN z).1;subst this;exact aro aP a5
     | .arrow,_,z=>exact aro z a5
   obtain⟨e,es,kg,em⟩:=bV;refine⟨_,I,r,jS,_,I,ci,ju _ _ aD aD,_,I,ec _,λa7 gW=>?_⟩;have s1:aw H1 (upd H1 a7 (.lst [])):=aw.new gW;refine⟨r,a7,aX,e,st,af,(by rw[es];rfl),o1.grow s1,(bj cU gW).symm,(by rw[aW,kg];rfl),hlen,λaz io Mc=>?_⟩;have bJ:=(mE.trans (da.same s1)).trans Mc;rw[em]at dS co;by_cases au:st.length+1<=100
   ·rw[arq au];exact co (e::st,af) (by unfold put;rw[art au]) az io bJ
   ·rw[arp au];exact dS (by unfold put;rw[ars au]) az bJ
  ·have qc:hx t≠[126]/\hx t≠[40]:=by
    constructor
    ·intro z;exact q (by rw[z];rfl)
    ·intro z;exact q (by rw[z];rfl)
   have hsz:(bW (hx t)).length<=sizeLine:=by
    rw[e4];match t,gt with
    | .sign c,_=>exact(by decide:1<=sizeLine)
    | .arrow,_=>exact(by decide:2<=sizeLine)
    | .name a,gt=>obtain⟨_,_,_,_,aC⟩:=mJ gt;unfold nName at aC;simp at aC;exact b3 (show(codes a).length<=12 by omega) a5
   refine⟨_,I,bW (hx t),I,hsz,λaz s2=>⟨_,I,?_⟩⟩;have io:=o1.grow s2;have bJ:=mE.trans (da.same s2:da r aX H1 az);show if(!nName (hx t))=ah then _ else _
   match t,gt,qc,dS,co with
   | .sign c,gt,qc,dS,co=>
    have aS:nName (hx (.sign c))=aE:=by rcases gt with rfl|rfl|rfl|rfl|rfl<;>decide
    rw[aS];have cP:h3 (st,af) (.sign c)=af:=by show(if c=126 then put st .turn else if c=40 then put st .gy else af)=af;rw[ars (λz=>qc.1 (by rw[z];rfl)),ars (λz=>qc.2 (by rw[z];rfl))]
    exact dS cP az bJ
   | .arrow,gt,qc,dS,co=>exact dS I az bJ
   | .name a,gt,qc,dS,co=>obtain⟨_,_,_,_,aC⟩:=mJ gt;have aS:nName (hx (.name a))=ah:=aC;rw[aS];obtain⟨jm,v2,dP,aoV,eE⟩:=io.ins;refine⟨_,I,r,jm,_,I,dP,ju _ _ aD aD,_,I,eH,λa7 gW=>?_⟩;have s3:aw az (upd az a7 (.lst [aV (codes a)])):=aw.new gW;refine⟨r,a7,aX,.atom aE a,st,af,I,io.grow s3,(bj eE gW).symm,aW,gt,kT,(by show 1<=100000;decide),λaZ kU wB=>?_⟩;exact co _ I aZ kU ((bJ.trans (da.same s3)).trans wB)
theorem aoi{t:g4}(g:kj t)(h:hx t=[42]\/hx t=[124]):∃c:UInt8,t=.sign c/\(c=42\/c=124):=by
 match t,g,h with
 | .sign c,g,h=>
  refine⟨c,I,?_⟩;rcases h with h|h
  ·have h:[c.toNat]=[42]:=h;exact .inl (xJ (fN h).1)
  ·have h:[c.toNat]=[124]:=h;exact .inr (xJ (fN h).1)
 | .name a,g,h=>
  obtain⟨c,r,e,aP,_⟩:=mJ g;have h:codes a=[42]\/codes a=[124]:=h;rw[e]at h;rcases h with h|h
  ·exact aro (fN h).1 (w' aP).1
  ·exact aro (fN h).1 (w' aP).2.1
 | .arrow,_,h=>exact aro h a5
theorem RE{s:List cL}(g:hs s){c:UInt8}(h:c=42\/c=124):kY s=aV (fY [c.toNat])↔oQ s c=ah:=by
 match s,g with
 |[],_=>exact⟨(λh=>nomatch h),(λh=>nomatch h)⟩
 | .bin cp B::t,g=>have g1:=(g _ (eB _)).1;show aV [cp.toNat]=_↔(cp !=c)=ah;rcases g1 with rfl|rfl<;>rcases h with rfl|rfl<;>decide
 | .turn::t,_=>rcases h with rfl|rfl<;>exact⟨λz=>aro (xc z) a5,λz=>nomatch z⟩
 | .gy::t,_=>rcases h with rfl|rfl<;>exact⟨λz=>aro (xc z) a5,λz=>nomatch z⟩
 | .arr B::t,_=>
  have n:∀x:Nat,¬aV (sgn (.arr B))=aV [x]:=λx z=>by cases xc z
  rcases h with rfl|rfl<;>exact⟨λz=>aro z (n _),λz=>nomatch z⟩
inductive YI(C:Addr)(vs:List V)(H:ax)(Q:c9)(asq:lM):Prop
 |mk (r aX:Addr) (t:g4) (B:gq) (s:List cL) (h0:vs=[.ref r,aV (hx t)]) (ag:kj t) (ai:e2 C aX r H s (U B)) (aN:dJ B) (bD:hs s) (cw:wS s+(flat B).length<=100000) (e_:Out C aX r H Q (h3 (s,U B) t))
theorem Out.put{C aX r:Addr}{H:ax}{Q:c9}{s:List cL}{e:cL}{ae:ax}(o:Out C aX r H Q (put s e))(dN:e2 C aX r ae (e::s) af)(bJ:da r aX H ae):Q (.bB (decide (s.length+1<=100))) ae:=by
 by_cases au:s.length+1<=100
 ·rw[arq au];exact o.2 (e::s,af) (by unfold G.put;rw[art au]) ae dN bJ
 ·rw[arp au];exact o.1 (by unfold G.put;rw[ars au]) ae bJ
theorem akU(T:Txt K ap A):a0 P w K ap base a8 5 A.uT A.yc ["self","token"] (YI A.c7):=by
 have cv:a0 P w K ap base a8 1 A.oP A.pY ["self"] (z2 A.c7):=Cw T;have dB:a0 P w K ap base a8 1 A.sm A.vW ["self","sign","ahead"] (O7 A.c7):=WN T;have fQ:a0 P w K ap base a8 1 A.pQ A.q9 ["node"] CR:=FV T;have h8:a0 P w K ap base a8 2 A.sj A.vT ["self"] (O1 A.c7):=WG T;have oL:a0 P w K ap base a8 4 A.uS A.yb ["self"] (YD A.c7):=akP T;refine T.QV.F.ok amH (λvs H Q E h=>?_) (λb9 cV outer s H vs Q E aL h=>?_)
 ·obtain⟨r,aX,t,B,s,rfl,_⟩:=h;rfl
 ·obtain⟨r,aX,t,B,st,rfl,gt,dN,gU,kT,a9,aA⟩:=h;have dW:de 1 _:=aL.mono a5;have gK:de 2 _:=aL.mono a5;refine⟨_,a3 (c5 (cJ tw (aj 1) (tC (aB (c3 I T.qv) (aB (c3 I T.rJ) aJ))) me) (a3 (c5 (cJ gY (hl (aj 0) T.eR T.zA cv dW T.uy.b .nil bG) (c2 fQ dW I T.EB T.qR.F.bJ T.qR.b .nil bG (aB (aj 1) aJ)) (cY _)) (bb (bE rz)) dd) (bb (bE (kC (aj 0) T.eR T.Mj dB dW T.DM.b .nil bG (aB (aj 1) (aB (bH (aj 0) I) aJ)))))) dd) (a3 (c5 (cJ gY (aj 1) (c3 I T.GV) (cY _)) (a3 (fE (hl (aj 0) T.eR T.V2 h8 gK T.Iq.b .nil bG)) (bb (bE (kC (aj 0) T.eR T.Mj dB dW T.DM.b .nil bG (aB (aj 1) (aB (bH (aj 0) I) aJ)))))) dd) (a3 (c5 (cJ gY (aj 1) gL (cY _)) (bb (bE (hl (aj 0) T.eR T.ai4 oL aL T.QU.b .nil bG))) dd) (bb (bE rz)))),?_⟩;refine⟨_,I,iC,λiN iL=>?_⟩;have s0:aw H (upd H iN (.tup [aV [42],aV [124]])):=aw.new iL;refine⟨iN,[aV [42],aV [124]],I,.inr (eQ.of aW),I,I,_,I,?_⟩;have dN:=dN.grow s0;have mE:da r aX H (upd H iN (.tup [aV [42],aV [124]])):=da.same s0;generalize(upd H iN (.tup [aV [42],aV [124]]))=H1 at*;show if iM (aV (hx t)) [aV [42],aV [124]]=ah then _ else _
  rw[zt];have hlen:st.length<=100000:=b3 (FD st) aG;have ad6:V.str ")"=aV [41]:=aD;obtain⟨jS,tU,ci,tY,cU⟩:=dN.ins;refine d5 (λq=>?_) (λq=>?_)
  ·obtain⟨c,rfl,aF⟩:=aoi gt (by
    rcases C_.mp q with z|z
    ·exact .inl (aru z)
    ·exact .inr (aru z))
   have em:h3 (st,U B) (.sign c)=if oQ st c=ah then af else put st (.bin c B):=by show(if c=42\/c=124 then _ else _)=_;rw[art aF]
   refine⟨_,I,r,jS,_,I,ci,ju _ _ aD aD,r,I,aX,st,U B,dN,_,I,[c.toNat],I,(by show 1<sizeLine;decide),GD _ _,_,I,?_⟩;refine d5 (λq=>?_) (λq=>?_)
   ·have q:=(RE kT aF).mp (aru q);rw[art q]at em;exact aA.1 em H1 mE
   ·have q:¬oQ st c=ah:=λz=>q (arq ((RE kT aF).mpr z));rw[ars q]at em;rw[em]at aA;obtain⟨jT,v4,x5,gx,ku,mH,g9,i4,rfl,l3⟩:=id dN;refine⟨_,I,r,jT,_,I,gx,ju _ _ aD aD,_,I,_,I,r,_,jT,_,_,I,gx,T.eR,T.l6,tI _ _,r,g9,aX,.bin c B,st,U B,I,dN,i4,l3,hlen,λaZ kU wB=>?_⟩;exact aA.put kU (mE.trans wB)
  ·have alX:hx t≠[42]:=λz=>q (by rw[z];rfl);have alV:hx t≠[124]:=λz=>q (by rw[z];rfl);refine⟨_,I,I,_,I,?_⟩;rw[rb];by_cases ay:hx t=[45,111]
   ·rw[arq ay];have hY:t=.arrow:=by
     match t,gt,ay with
     | .sign c,_,ay=>have ay:[c.toNat]=[45,111]:=ay;exact aro (fN ay).2 a5
     | .arrow,_,_=>rfl
     | .name a,g,ay=>obtain⟨c,r,e,aP,_⟩:=mJ g;have ay:codes a=[45,111]:=ay;rw[e]at ay;have:=(fN ay).1;subst this;exact aro aP a5
    subst hY;refine d6 ?_;refine⟨_,I,r,jS,_,I,ci,ju _ _ aD aD,r,aX,B,st,I,dN,gU,kT,a9,λaz io Mc=>?_⟩;obtain⟨Bq,Ey,B6⟩:=Bn st B kT gU;have aA:Out A.c7 aX r H Q (put (gH st B).1 (.arr (gH st B).2)):=aA;generalize(gH st B).1=s1,(gH st B).2=ed at*;obtain⟨jT,v4,x5,gx,ku,mH,g9,i4,rfl,l3⟩:=id io;refine⟨_,I,r,jT,_,I,gx,ju _ _ aD aD,_,I,_,I,r,_,jT,_,_,I,gx,T.eR,T.l6,tI _ _,r,g9,aX,.arr ed,s1,U ed,I,io,i4,l3,?_,λaZ kU wB=>?_⟩
    ·have:=FD s1;omega
    ·exact aA.put kU ((mE.trans Mc).trans wB)
   ·rw[arp ay];refine eD ?_;refine⟨_,I,I,_,I,?_⟩;rw[ad6,rb];by_cases ak:hx t=[41]
    ·rw[arq ak];have hY:t=.sign 41:=by
      match t,gt,ak with
      | .sign c,_,ay=>have ay:[c.toNat]=[41]:=ay;rw[show c=41 from xJ (fN ay).1]
      | .arrow,_,ay=>exact aro ay a5
      | .name a,g,ay=>obtain⟨c,r,e,aP,_⟩:=mJ g;have ay:codes a=[41]:=ay;rw[e]at ay;have:=(fN ay).1;subst this;exact aro aP a5
     subst hY;refine d6 ?_;refine⟨_,I,r,jS,_,I,ci,ju _ _ aD aD,r,aX,B,st,I,dN,gU,kT,a9,?_,?_⟩
     ·exactλe ae k=>aA.1 e ae (mE.trans k)
     ·exactλc e ae wc k=>aA.2 c e ae wc (mE.trans k)
    ·rw[arp ak];refine eD ?_;refine aA.1 ?_ H1 mE;match t,gt with
     | .sign c,gt=>show(if c=42\/c=124 then _ else _)=_;rw[ars (λz=>z.elim (λz=>alX (by rw[z];rfl)) (λz=>alV (by rw[z];rfl))),ars (λz=>ak (by rw[z];rfl))]
     | .arrow,_=>exact aro I ay
     | .name a,_=>rfl
inductive YV(C:Addr)(vs:List V)(H:ax)(Q:c9)(asq:lM):Prop
 |mk (r aX:Addr) (t:g4) (c:Cfg) (h0:vs=[.ref r,aV (hx t)]) (ag:kj t) (ai:e2 C aX r H c.1 c.2) (aN:sJ c) (bD:rN c<=100000) (cw:Out C aX r H Q (h3 c t))
theorem ak7(T:Txt K ap A):a0 P w K ap base a8 6 A.uW A.yf ["self","token"] (YV A.c7):=by
 have cv:a0 P w K ap base a8 4 A.uV A.ye ["self","token"] (YT A.c7):=ak5 T;have dB:a0 P w K ap base a8 5 A.uT A.yc ["self","token"] (YI A.c7):=akU T;refine T.QY.F.ok amM (λvs H Q E h=>?_) (λb9 cV outer s H vs Q E aL h=>?_)
 ·obtain⟨r,aX,t,c,rfl,_⟩:=h;rfl
 ·obtain⟨r,aX,t,⟨st,p⟩,rfl,gt,dN,kS,a9,aA⟩:=h;have dW:de 4 _:=aL.mono a5;refine⟨_,a3 (c5 (cJ l_ (bH (aj 0) I) gk (cY _)) (bb (bE (kC (aj 0) T.eR T.ai6 cv dW T.QX.b .nil bG (aB (aj 1) aJ)))) dd) (bb (bE (kC (aj 0) T.eR T.ai5 dB aL T.QV.b .nil bG (aB (aj 1) aJ)))),?_⟩;obtain⟨aq,v,as,gx,ku,mH,i4⟩:=id dN;refine⟨_,I,r,_,aq,_,_,I,gx,T.eR,T.l6,tI _ _,I,_,I,?_⟩;match p,dN,kS,a9,i4,aA with
  |none,dN,kS,a9,i4,aA=>have e:v=.bZ:=i4;subst e;refine d6 ?_;refine⟨_,I,r,aq,_,I,gx,ju _ _ aD aD,_,I,r,aX,t,st,I,gt,dN,kS.1,?_,aA⟩;have:=FD st;have a9:wS st+0<=100000:=a9;omega
  |some B,dN,kS,a9,i4,aA=>obtain⟨g9,n,rfl,l3⟩:=i4;refine eD ?_;exact⟨_,I,r,aq,_,I,gx,ju _ _ aD aD,_,I,r,aX,t,B,st,I,gt,dN,kS.2 B I,kS.1,a9,aA⟩
inductive Y2(C:Addr)(vs:List V)(H:ax)(Q:c9)(asq:lM):Prop
 |mk (r aX:Addr) (c:Cfg) (h0:vs=[.ref r]) (ag:e2 C aX r H c.1 c.2) (ai:sJ c) (aN:rN c<=100000) (bD:(fin c=af->∀ae,da r aX H ae->Q .bZ ae)) (cw:∀B,fin c=U B->∀ae fa,da r aX H ae->fa≠aX->ae fa=U (.lst ((flat B).map aV))->Q (.ref fa) ae)
theorem ale(T:Txt K ap A):a0 P w K ap base a8 4 A.uX A.yg ["self"] (Y2 A.c7):=by
 have cv:a0 P w K ap base a8 3 A.sk A.vU ["self"] (O2 A.c7):=WH T;refine T.QZ.F.ok amN (λvs H Q E h=>?_) (λb9 cV outer s H vs Q E aL h=>?_)
 ·obtain⟨r,aX,c,rfl,_⟩:=h;rfl
 ·obtain⟨r,aX,⟨st,p⟩,rfl,dN,kS,a9,dS,co⟩:=h;refine⟨_,a3 (c5 (cJ l_ (bH (aj 0) I) gk (cY _)) (bb (bE gk)) dd) (a3 (fE (hl (aj 0) T.eR T.V3 cv aL T.Ir.b .nil bG)) (bb (bE (zQ (Xf (bH (aj 0) I) (λ_=>I)) gk (bH (aj 0) I))))),?_⟩;obtain⟨aq,v,as,gx,ku,mH,i4⟩:=id dN;refine⟨_,I,r,_,aq,_,_,I,gx,T.eR,T.l6,tI _ _,I,_,I,?_⟩;match p,dN,kS,a9,i4,dS,co with
  |none,dN,kS,a9,i4,dS,co=>have e:v=.bZ:=i4;subst e;refine d6 ?_;exact dS I H (da.refl _ _ _)
  |some B,dN,kS,a9,i4,dS,co=>
   obtain⟨g9,n,rfl,l3⟩:=i4;refine eD ?_;refine⟨_,I,r,aq,_,I,gx,ju _ _ aD aD,r,aX,B,st,I,dN,kS.2 B I,kS.1,a9,λH1 il VB=>?_⟩;have g8:fin (st,U B)=(match(fZ st B).1 with
    |[]=>U (fZ st B).2
    |_=>af):=rfl
   generalize(fZ st B).1=s1,(fZ st B).2=ed at*;obtain⟨R1,v1,Ra,dP,eE,LI,mq,ais,rfl,ait⟩:=id il;refine⟨_,I,r,_,R1,_,_,I,dP,T.eR,T.od,rE _ _,_,.inl ⟨_,aI.of eE,I⟩,?_⟩;match s1,Ra,eE,LI,g8 with
   |[],[],eE,LI,g8=>refine d5 (λz=>aro z a5) (λ_=>?_);exact⟨_,I,r,_,R1,_,_,I,dP,T.eR,T.l6,tI _ _,co ed g8 H1 mq VB ais ait⟩
   |e::s1,a::Ra,eE,LI,g8=>refine d5 (λz=>?_) (λz=>aro bl z);exact dS g8 H1 VB
end
end ck
namespace G
theorem XJ:∀(br:List g4)(c:Cfg)(B:gq),sJ c->(∀t∈br,kj t)->res c br=U B->dJ B/\(flat B).length<=rN c+br.length
 |[],c,B,aF,_,h=>aeA aF h
 |t::r,c,B,aF,bM,h=>by
  have h:(h3 c t).bind (λcp=>res cp r)=U B:=h;cases e:h3 c t with
  |none=>rw[e]at h;cases h
  |some cp=>rw[e]at h;obtain⟨g1,g2⟩:=Y8 aF (bM t (eB _)) e;obtain⟨g3,y9⟩:=XJ r cp B g1 (λx ao=>bM x (fe _ ao)) h;exact⟨g3,by rw[cW];omega⟩
theorem Ud{t:dT}{br:List g4}(h:mv t=U br):br.length<=t.length:=by have e:=Xi (t.length+1) t;rw[show kk (t.length+1) t=U br from h]at e;have:=alU _ _ _ e;simpa using this
theorem Xz{t:dT}{B:gq}(h:nC t=U B):dJ B/\(flat B).length<=2000:=by
 unfold nC at h;by_cases au:2000<t.length
 ·rw[art au]at h;cases h
 ·rw[ars au]at h;cases e:mv t with
  |none=>rw[e]at h;cases h
  |some br=>rw[e]at h;obtain⟨g1,g2⟩:=XJ br ([],af) B ⟨(λ_ ao=>nomatch ao),(λ_ ao=>nomatch ao)⟩ (KD e) h;have:=Ud e;have cZ:rN ([],af)=0:=rfl;exact⟨g1,aG⟩
end G
namespace ck
open PySem PySem.Spec PyProof.Rows bL G
section
variable{P:b6}{w:bX}{K:PySem.W.Frag}{ap:Str->Option ar}{base:Heap}{A:cu}
inductive YQ(vs:List V)(H:ax)(Q:c9)(asq:lM):Prop
 |mk (t:dT) (h0:vs=[aV (t.map cm)]) (ag:t.length+2<=sizeLine) (ai:(nC t=af->∀ae,aw H ae->Q .bZ ae)) (aN:∀B,nC t=U B->∀ae fa,aw H ae->ae fa=U (.lst ((flat B).map aV))->Q (.ref fa) ae)
theorem ak2(T:Txt K ap A):a0 P w K ap base a8 7 A.vu A.yP ["text"] YQ:=by
 have cv:a0 P w K ap base a8 4 A.vB A.yW ["text"] YZ:=alb T;have dB:a0 P w K ap base a8 1 A.uU A.yd ["self"] (Yh A.c7):=akr T;have fQ:a0 P w K ap base a8 6 A.uW A.yf ["self","token"] (YV A.c7):=ak7 T;have h8:a0 P w K ap base a8 4 A.uX A.yg ["self"] (Y2 A.c7):=ale T;refine T.I2.F.ok GB (λvs H Q E h=>?_) (λb9 cV outer s H vs Q E aL h=>?_)
 ·obtain⟨t,rfl,_⟩:=h;rfl
 ·obtain⟨t,rfl,au,dS,co⟩:=h;have gK:de 2 _:=aL.mono a5;have U4:de 4 _:=aL.mono a5;refine⟨_,a3 (c5 (cJ nB (c4 sz I T.dG PySem.boot_len (aB (aj 0) aJ)) (c3 I T.LR) (cY _)) (bb (bE gk)) dd) (a3 (cQ (i:=1) GB.ba I (bA I) (c2 cv U4 I T.afr T.I7.F.bJ T.I7.b .nil bG (aB (aj 0) aJ))) (a3 (c5 (cJ l_ (aj 1) gk (cY _)) (bb (bE gk)) dd) (a3 (cQ (i:=2) GB.ba I (bA I) (W0 T.ajm dB gK I T.Kp T.QW.b .nil bG)) (a3 (i6 gD I (gm (aj 1)) (d9 (i:=3) GB.ba I (bA I)) (bb (c5 (rA (lz (kC (aj 2) T.eR T.ai7 fQ aL T.QY.b .nil bG (aB (aj 3) aJ)))) (bb (bE gk)) dd))) (bb (bE (hl (aj 2) T.eR T.ai8 h8 U4 T.QZ.b .nil bG))))))),?_⟩;refine⟨_,I,bW (t.map cm),I,(by rw[e4,aU];omega),_,_,I,I,_,I,?_⟩;rw[e4,aU];unfold nC at dS co;refine d5 (λag=>?_) (λag=>?_)
  ·have ag:(2000:Int)<(t.length:Int):=aru ag;rw[art (show 2000<t.length by omega)]at dS;exact dS I H (aw.refl H)
  have ag:¬(2000:Int)<(t.length:Int):=λz=>ag (arq z);rw[ars (show¬2000<t.length by omega)]at dS co;have ep:=Xi (t.length+1) t;have Bh:kk (t.length+1) t=mv t:=rfl;rw[Bh]at ep;refine⟨_,I,t.map cm,I,(by rw[aU];exact au),?_,?_⟩
  ·intro e H1 s1;rw[aU,ep]at e;refine⟨_,I,I,_,I,d6 ?_⟩;refine dS ?_ H1 s1;cases q:mv t with
   |none=>rfl
   |some br=>rw[q]at e;cases e
  ·intro hQ e H1 tk s1 _ s_;rw[aU,ep]at e;obtain⟨br,eq,rfl⟩:∃br,mv t=U br/\br.map hx=hQ:=by
    cases q:mv t with
    |none=>rw[q]at e;cases e
    |some br=>rw[q]at e;exact⟨br,I,bS e⟩
   rw[eq]at dS co;have dS:res ([],af) br=af->∀ae,aw H ae->Q .bZ ae:=dS;have co:∀B,res ([],af) br=U B->∀ae fa,aw H ae->ae fa=U (.lst ((flat B).map aV))->Q (.ref fa) ae:=co;have bM:=KD eq;have hlen:=Ud eq;refine⟨_,I,I,_,I,eD ?_⟩;intro r aq Wu nA wO;refine⟨r,aq,I,aW,λaz aX sZ o1 aH=>⟨I,?_⟩⟩;have aj7:H1 aX=af:=by
    have agX:aX≠r:=λz=>by rw[z,aW]at sZ;cases sZ
    have sX:aX≠aq:=λz=>by rw[z,aY wO,aW]at sZ;cases sZ
    rw[aY agX,aY sX]at sZ;exact sZ
   have s2:aw H1 az:=λb o e=>by have ak:=bj e Wu;refine aH b o ?_ ak;rw[aY ak,aY (bj e nA)];exact e
   have Fu:∀aZ,da r aX az aZ->aw H1 aZ:=λaZ k b o e=>k b o (s2 b o e) (bj e Wu) (bj e aj7);refine⟨_,I,tk,I,⟨_,aI.of (s2 _ _ s_)⟩,mr (K:=K) (a:=tk) (xs:=(br.map hx).map aV) (λi σ ae=>∃(v:Option V)(c:Cfg),σ=[U (aV (t.map cm)),U (.ref tk),U (.ref r),v]/\e2 A.c7 aX r ae c.1 c.2/\sJ c/\rN c<=i/\res c (br.drop i)=res ([],af) br/\da r aX az ae) ⟨af,([],af),I,o1,⟨(λ_ ao=>nomatch ao),(λ_ ao=>nomatch ao)⟩,bR _,I,da.refl _ _ _⟩ (λi σ ae _ h=>?_) ?_ ?_⟩
   ·obtain⟨v,c,_,_,_,_,_,bJ⟩:=h;exact aI.of (Fu _ bJ _ _ s_)
   ·rintro i x σ ae av ⟨v,c,rfl,dN,kS,hw,he,bJ⟩;rw[dn,dI]at av;cases q:br[i]? with
    |none=>rw[q]at av;cases av
    |some tok=>
     rw[q]at av;have av:aV (hx tok)=x:=bS av;subst av;obtain⟨h1,Bi⟩:=ej.mp q;have hd:br.drop i=tok::br.drop (i+1):=by rw[kK h1,Bi]
     rw[hd]at he;have he:(h3 c tok).bind (λcp=>res cp (br.drop (i+1)))=res ([],af) br:=he;have gt:kj tok:=bM tok (eN q);obtain⟨jS,tU,ci,tY,cU⟩:=dN.ins;refine⟨_,I,r,jS,_,I,ci,ju _ _ aD aD,_,I,r,aX,tok,c,I,gt,dN,kS,aG,?_,?_⟩
     ·intro e aZ f7;rw[e]at he;exact⟨_,I,d6 (dS he.symm aZ (s1.trans (Fu _ (bJ.trans f7))))⟩
     ·intro cp e aZ kU f7;rw[e]at he;obtain⟨g1,g2⟩:=Y8 kS gt e;exact⟨_,I,eD ⟨_,cp,I,kU,g1,aG,he,bJ.trans f7⟩⟩
   ·rintro σ ae ⟨v,c,rfl,dN,kS,hw,he,bJ⟩;have hd:br.drop ((br.map hx).map aV).length=[]:=by rw[aU,aU];exact xq
    rw[hd]at he;have he:fin c=res ([],af) br:=he;obtain⟨jS,tU,ci,tY,cU⟩:=dN.ins;rw[aU,aU]at hw;refine⟨_,I,r,jS,_,I,ci,ju _ _ aD aD,r,aX,c,I,dN,kS,aG,?_,?_⟩
    ·intro e aZ f7;exact dS (he.symm.trans e) aZ (s1.trans (Fu _ (bJ.trans f7)))
    ·intro B e aZ fa f7 _ nk;exact co B (he.symm.trans e) aZ fa (s1.trans (Fu _ (bJ.trans f7))) nk
inductive YW(vs:List V)(H:ax)(Q:c9)(asq:lM):Prop
 |mk (a:Addr) (dx:List (List Nat)) (h0:vs=[.ref a]) (ag:aI K H a (dx.map aV)) (ai:dx.length<=sizeLine) (aN:(∀l∈dx,l.length<=1000)) (bD:(fw dx=af->∀ae,aw H ae->Q .bZ ae)) (cw:∀ns,fw dx=U ns->uH H Q ns)
theorem ak8(T:Txt K ap A):a0 P w K ap base a8 3 A.vy A.yT ["formula"] (YW (K:=K)):=by
 have cv:a0 P w K ap base a8 2 A.pR A.q_ ["text"] CT:=FX T;refine T.AR.F.ok CM (λvs H Q E h=>?_) (λb9 cV outer s H vs Q E aL h=>?_)
 ·obtain⟨a,dx,rfl,_⟩:=h;rfl
 ·obtain⟨a,dx,rfl,d1,au,aP,dS,co⟩:=h;refine⟨_,a3 (Cz (i:=1) I CM.ba I I (CY I I I I) (gm (aj 0)) (ic (own:=[("node",2)]) I) (λ_ _ _ _ _=>d9 (i:=2) CM.ba I (bA I)) (λ_ _ _ _ _=>Gb (cJ rv (aj 2) (c3 I T.qv) (cY _))) (λ_ _ _ _ _=>aj 2)) (a3 (c5 (lz (c4 (vL I) I T.q4 vJ (aB (kB I CM.ba (gm (aj 1)) (ic (own:=[("name",3)]) I) (λ_ _ _ _ _=>d9 (i:=3) CM.ba I (bA I)) (λ_ _ _ _ _=>jY) (λ_ _ _ _ _=>c2 cv aL I T.EC T.qS.F.bJ T.qS.b .nil bG (aB (aj 3) aJ))) aJ))) (bb (bE (aj 1))) dd) (bb (bE gk))),?_⟩;refine⟨_,I,a,I,⟨_,d1⟩,λD cg=>VE (λx=>!decide (x=aV [42])) d1 cg (by rw[aU];exact au) ?_ ?_ λaz s2 ai=>?_⟩
  ·intro x ao az s2 h9 bc;obtain⟨l,sW,rfl⟩:=fq.mp ao;exact⟨_,I,I,_,I,bc az (aw.refl az)⟩
  ·intro x ao az s2 h9 bc;exact⟨_,I,bc az (aw.refl az)⟩
  have g8:(dx.map aV).filter (λx=>!decide (x=aV [42]))=(dx.filter λx=>decide (x≠[42])).map aV:=by rw[aaj];congr 1;refine Ho λl _=>?_;show(!decide (aV l=aV [42]))=_;rw[rb];simp
  rw[g8]at ai;unfold fw at dS co;have ahq:∀l∈dx.filter (λx=>decide (x≠[42])),l.length<=1000:=λl au=>aP l (j8.mp au).1;have f5:(dx.filter (λx=>decide (x≠[42]))).length<=sizeLine:=b3 (tZ _ _) au;generalize(dx.filter λx=>decide (x≠[42]))=ps at*;refine⟨_,I,D,I,⟨_,aI.of ai⟩,λfH Bv=>zx (λx=>match x with| .str y=>.bB (nName (bf.a6 y))|_=>.bZ) (aI.of ai) Bv (by rw[aU];exact f5) ?_ λaZ s3 aN=>?_⟩
  ·intro x ao aZ s3 h9 bc;obtain⟨l,au,rfl⟩:=fq.mp ao;refine⟨_,I,bW l,I,?_,λaZ s3=>bc aZ s3⟩;rw[e4];exact b3 (ahq l au) a5
  ·have ij:(ps.map aV).map (λx=>match x with| .str y=>V.bB (nName (bf.a6 y))|_=>.bZ)=(ps.map nName).map V.bB:=by rw[dn,dn];rfl
   rw[ij]at aN;refine⟨fH,ps.map nName,I,aI.of aN,_,I,?_⟩;have kf:(ps.map nName).all id=ps.all nName:=by rw[ow];rfl
   rw[kf];refine d5 (λbD=>?_) (λbD=>?_)
   ·rw[art bD]at co;refine⟨_,I,?_⟩;exact co ps I aZ D (s2.trans s3) cg (s3 _ _ ai)
   ·rw[ars bD]at dS;exact dS I aZ (s2.trans s3)
abbrev nm(a:dq):V:=aV (codes a)
def w4(t g:V):List (Str×V):=bY "gives" g (bY "takes" t [])
theorem ol(t g:V):(w4 t g).lookup ("takes":Str)=U t:=by unfold w4;rw[el,ars aD,el,art I]
theorem tH(t g:V):(w4 t g).lookup ("gives":Str)=U g:=by unfold w4;rw[el,art I]
inductive RecAt(C:Addr)(H:ax)(p:Addr)(bu:jG):Prop
 |mk (aq bt ga) (h0:H p=U (.ins C aq (w4 (.ref bt) (.ref ga)))) (ag:H bt=U (.lst (bu.takes.map nm))) (ai:H ga=U (.lst (bu.gives.map nm)))
theorem RecAt.same{C:Addr}{H ae:ax}{p:Addr}{bu:jG}(h:RecAt C H p bu)(s:aw H ae):RecAt C ae p bu:=by obtain⟨aq,bt,ga,ag,ai,aN⟩:=h;exact⟨aq,bt,ga,s _ _ ag,s _ _ ai,s _ _ aN⟩
inductive Yg(C:Addr)(vs:List V)(H:ax)(Q:c9)(asq:lM):Prop
 |mk (r aq:Addr) (t g:V) (h0:vs=[.ref r,t,g]) (ag:H r=U (.ins C aq [])) (ai:Q .bZ (upd H r (.ins C aq (w4 t g))))
theorem tR{H:ax}{a:Addr}{o u:dE}:upd (upd H a o) a u=upd H a u:=by
 funext b;unfold upd;by_cases h:b=a
 ·rw[art h,art h]
 ·rw[ars h,ars h,ars h]
theorem aks(T:Txt K ap A):a0 P w K ap base a8 1 A.uY A.yh ["self","takes","gives"] (Yg A.gE):=by
 refine T.Q0.F.ok amO (λvs H Q E h=>?_) (λb9 cV outer s H vs Q E aL h=>?_)
 ·obtain⟨r,aq,t,g,rfl,_⟩:=h;rfl
 ·obtain⟨r,aq,t,g,rfl,ag,k⟩:=h;refine⟨_,a3 (hn (aj 0) (aj 1) I) (bb (hn (aj 0) (aj 2) I)),?_⟩;refine⟨_,I,_,I,r,_,aq,_,I,ag,T.jR,T.oe,Ab,?_⟩;refine⟨_,I,_,I,r,_,aq,_,I,aW,T.jR,T.pb,?_,?_⟩
  ·exact k7 (gX _ _ _) Aa
  ·rw[tR];exact k
theorem RR(dx:List (List Nat))(lo av:Option Int):iJ (dx.map aV) lo av=((dx.drop (cG.dM dx.length 0 lo)).take (cG.dM dx.length dx.length av-cG.dM dx.length 0 lo)).map aV:=by unfold iJ;rw[aU,Ai,Ht]
inductive YR(C:Addr)(vs:List V)(H:ax)(Q:c9)(asq:lM):Prop
 |mk (t:dT) (h0:vs=[aV (t.map cm)]) (ag:t.length+2<=sizeLine) (ai:((nC t).bind uu=af->∀ae,aw H ae->Q .bZ ae)) (aN:∀bu,(nC t).bind uu=U bu->∀ae p,aw H ae->H p=af->RecAt C ae p bu->Q (.ref p) ae)
theorem ak3(T:Txt K ap A):a0 P w K ap base a8 8 A.vv A.yQ ["text"] (YR A.gE):=by
 have cv:a0 P w K ap base a8 7 A.vu A.yP ["text"] YQ:=ak2 T;have dB:a0 P w K ap base a8 1 A.vj A.yF ["nodes","at"] (YE (K:=K)):=akQ T;have fQ:a0 P w K ap base a8 3 A.vy A.yT ["formula"] (YW (K:=K)):=ak8 T;have h8:a0 P w K ap base a8 2 A.pP A.q8 ["formula"] (CQ (K:=K)):=FU T;have oL:a0 P w K ap base a8 1 A.uY A.yh ["self","takes","gives"] (Yg A.gE):=aks T;refine T.I3.F.ok CL (λvs H Q E h=>?_) (λb9 cV outer s H vs Q E aL h=>?_)
 ·obtain⟨t,rfl,_⟩:=h;rfl
 ·obtain⟨t,rfl,au,dS,co⟩:=h;have dW:de 1 _:=aL.mono a5;have gK:de 2 _:=aL.mono a5;have E8:de 3 _:=aL.mono a5;refine⟨_,a3 (cQ (i:=1) CL.ba I (bA I) (c2 cv aL I T.afm T.I2.F.bJ T.I2.b .nil bG (aB (aj 0) aJ))) (a3 (c5 (ji.pt (rB (cJ l_ (aj 1) gk (cY _)) (rC (cJ rv (eo gi (aj 1) dt (λ_ _=>I)) (c3 I T.rJ) (cY _))))) (bb (bE gk)) dd) (a3 (cQ (i:=2) CL.ba I (bA I) (c2 dB dW I T.afd T.IT.F.bJ T.IT.b .nil bG (aB (aj 1) (aB dt aJ)))) (a3 (cQ (i:=3) CL.ba I (bA I) (c2 fQ E8 I T.T_ T.AR.F.bJ T.AR.b .nil bG (aB (c2 h8 gK I T.EA T.qQ.F.bJ T.qQ.b .nil bG (aB (pf tM (aj 1) (ly dt) (ly (aj 2))) aJ)) aJ))) (a3 (cQ (i:=4) CL.ba I (bA I) (c2 fQ E8 I T.T_ T.AR.F.bJ T.AR.b .nil bG (aB (pf tM (aj 1) (ly (aj 2)) zT) aJ))) (a3 (c5 (ji.pt (rB (cJ l_ (aj 3) gk (cY _)) (rC (cJ l_ (aj 4) gk (cY _))))) (bb (bE gk)) dd) (bb (bE (wY T.ajn oL gK I T.Kq T.Q0.b .nil bG (aB (aj 3) (aB (aj 4) aJ)))))))))),?_⟩;refine⟨_,I,t,I,au,?_,?_⟩
  ·intro e H1 s1;rw[e]at dS;exact⟨_,I,I,_,I,d6 (dS I H1 s1)⟩
  ·intro B e H1 fa s1 nk;obtain⟨gU,f3⟩:=Xz e;rw[e]at dS co;have dS:uu B=af->∀ae,aw H ae->Q .bZ ae:=dS;have co:∀bu,uu B=U bu->∀ae p,aw H ae->H p=af->RecAt A.gE ae p bu->Q (.ref p) ae:=co;refine⟨_,I,I,_,I,eD ?_⟩;obtain⟨x,xs,ex⟩:∃x xs,flat B=x::xs:=by
    have:=TV B gU;cases q:flat B with
    |nil=>rw[q]at this;exact aro this a5
    |cons x xs=>exact⟨x,xs,I⟩
   refine⟨_,I,fa,_,_,_,I,I,aI.of nk,eI (j:=0) (by rw[ex];rfl),I,_,I,?_⟩;by_cases aO:x=[124]
   ·subst aO;refine wy I ?_;obtain⟨ed,fP,rfl⟩:∃ed fP,B=.par ed fP:=by
     match B,gU,ex with
     | .par ed fP,_,_=>exact⟨ed,fP,I⟩
     | .tensor ed fP,_,ex=>exact aro (fN ex).1 a5
     | .atom aE a,g,ex=>obtain⟨c,r,e,aP,_⟩:=mJ g;have ex:=(fN ex).1;rw[e]at ex;exact aro (fN ex).1 (w' aP).2.1
     | .atom ah a,g,ex=>have ex:(126::codes a)=[124]:=(fN ex).1;exact aro (fN ex).1 a5
    have g8:flat (.par ed fP)=[124]::(flat ed++flat fP):=rfl;rw[g8]at nk f3 ex;rw[cW,cA]at f3;refine⟨_,I,fa,_,1,ed,flat fP,I,aI.of nk,I,gU.1,λaz s2=>?_⟩;have K5:=s2 _ _ nk;refine⟨_,I,1,I,_,I,_,I,fa,_,I,aI.of K5,λdK mz=>?_⟩;have cq:iJ (([124]::(flat ed++flat fP)).map aV) (U 1) (U ((1+(flat ed).length:Nat):Int))=(flat ed).map aV:=by rw[RR];congr 1;rw[show(1:Int)=((1:Nat):Int)from I,cG.oo,cG.oo,cW,cA];rw[show min 1 ((flat ed).length+(flat fP).length+1)=1 by omega,show min (1+(flat ed).length) ((flat ed).length+(flat fP).length+1)-1=(flat ed).length by omega];show(flat ed++flat fP).take _=_;rw[List.take_left]
    rw[cq];refine⟨dK,flat ed,I,aI.of aW,b3 (show(flat ed).length<=2000 by omega) a5,λl au=>b3 (m9 ed gU.1 l au).1 a5,λaZ dc s3 _ aN=>?_⟩;rw[rc ed gU.1]at aN;have T':=oY ed gU.1;have rF:aw az aZ:=(aw.new mz).trans s3;have ES:(flat (dg ed)).length<=2000:=by rw[rd gU.1];omega
    have t1:=G4 (dg ed) T';have k4:=G4 fP gU.2;have ki:uu (.par ed fP)=(fy (dg ed)).bind λl=>(fy fP).map λr=>{takes:=l,gives:=r}:=rfl;have cF:iJ (([124]::(flat ed++flat fP)).map aV) (U ((1+(flat ed).length:Nat):Int)) af=(flat fP).map aV:=by rw[RR];congr 1;rw[cG.oo,cG.CE,cW,cA];rw[show min (1+(flat ed).length) ((flat ed).length+(flat fP).length+1)=1+(flat ed).length by omega];rw[show 1+(flat ed).length=(flat ed).length+1 by omega,List.drop_succ_cons,List.drop_left,pE aG]
    refine⟨dc,_,I,aI.of aN,b3 ES a5,λl au=>b3 (m9 _ T' l au).1 a5,?_,?_⟩
    ·intro cP bz s4;have K6:=s4 _ _ (rF _ _ K5);refine⟨_,I,_,I,_,I,fa,_,I,aI.of K6,λlx BS=>?_⟩;rw[cF];have s5:aw bz (upd bz lx (.lst ((flat fP).map aV))):=aw.new BS;have aH:∀dj,aw (upd bz lx (.lst ((flat fP).map aV))) dj->Q .bZ dj:=λdj c6=>dS (by
      rw[ki];cases q:fy (dg ed)with
      |none=>rfl
      |some l=>rw[q,cP]at t1;cases t1) dj ((s1.trans (s2.trans (rF.trans s4))).trans (s5.trans c6))
     refine⟨lx,flat fP,I,aI.of aW,b3 (show(flat fP).length<=2000 by omega) a5,λl au=>b3 (m9 fP gU.2 l au).1 a5,?_,?_⟩
     ·intro _ dj c6;exact⟨_,I,I,_,I,d6 (aH dj c6)⟩
     ·intro ns _ dj MT c6 _ _;exact⟨_,I,I,_,I,d6 (aH dj c6)⟩
    ·intro ns cP bz lu s4 _ qf;obtain⟨a6,Sl,rfl⟩:∃a6,fy (dg ed)=U a6/\a6.map codes=ns:=by
      rw[t1]at cP;cases q:fy (dg ed)with
      |none=>rw[q]at cP;cases cP
      |some l=>rw[q]at cP;exact⟨l,I,bS cP⟩
     have K6:=s4 _ _ (rF _ _ K5);refine⟨_,I,_,I,_,I,fa,_,I,aI.of K6,λlx BS=>?_⟩;rw[cF];have s5:aw bz (upd bz lx (.lst ((flat fP).map aV))):=aw.new BS;refine⟨lx,flat fP,I,aI.of aW,b3 (show(flat fP).length<=2000 by omega) a5,λl au=>b3 (m9 fP gU.2 l au).1 a5,?_,?_⟩
     ·intro v5 dj c6;refine⟨_,I,I,_,I,eD ⟨_,I,I,_,I,d6 (dS ?_ dj ((s1.trans (s2.trans (rF.trans s4))).trans (s5.trans c6)))⟩⟩;rw[ki,Sl];show(fy fP).map _=af;cases q:fy fP with
      |none=>rfl
      |some l=>rw[q,v5]at k4;cases k4
     ·intro aj9 v5 dj MT c6 _ ahj;obtain⟨gl,aek,rfl⟩:∃gl,fy fP=U gl/\gl.map codes=aj9:=by
       rw[k4]at v5;cases q:fy fP with
       |none=>rw[q]at v5;cases v5
       |some l=>rw[q]at v5;exact⟨l,I,bS v5⟩
      refine⟨_,I,I,_,I,eD ⟨_,I,I,_,I,eD ?_⟩⟩;refine⟨_,I,_,I,?_⟩;intro x aq cN nA wO;have dp:aw dj (upd (upd dj aq (.own x)) x (.ins A.gE aq (w4 (.ref lu) (.ref MT)))):=λb o e=>by rw[aY (bj e cN),aY (bj e nA)];exact e
      have XW:aw H dj:=(s1.trans (s2.trans (rF.trans s4))).trans (s5.trans c6);refine⟨x,aq,_,_,I,aW,I,?_⟩;rw[tR];refine co ⟨a6,gl⟩ ?_ _ x (XW.trans dp) ?_ ⟨aq,lu,MT,aW,?_,?_⟩
      ·rw[ki,Sl,aek];rfl
      ·cases q:H x with
       |none=>rfl
       |some o=>rw[XW _ _ q]at cN;cases cN
      ·have:=dp _ _ (c6 _ _ (s5 _ _ qf));rw[this,dn];rfl
      ·have:=dp _ _ ahj;rw[this,dn];rfl
   ·have aC:(!decide (aV x=aV [124]))=ah:=by rw[rb,arp aO];rfl
    refine d5 (λ_=>?_) (λz=>aro aC z);refine dS ?_ H1 s1;match B,ex with
    | .par _ _,ex=>exact aro (fN ex).1.symm aO
    | .tensor _ _,_=>rfl
    | .atom _ _,_=>rfl
    | .wth _ _,_=>rfl
    | .plus _ _,_=>rfl
    | .ofc _,_=>rfl
    | .whn _,_=>rfl
end
end ck
namespace ck
open PySem PySem.Spec PyProof.Rows bL G
open Vanetm (State Use Recipe recipeAt given_ allNames stock nameOf firstUnit)
section
variable{P:b6}{w:bX}{K:PySem.W.Frag}{ap:Str->Option ar}{base:Heap}{A:cu}
abbrev aM(n:Nat):V:=.int (n:Nat)
def kH(n u:V):List (Str×V):=bY "units" u (bY "recipe_number" n [])
theorem xh(n u:V):(kH n u).lookup ("recipe_number":Str)=U n:=by unfold kH;rw[el,ars aD,el,art I]
theorem tS(n u:V):(kH n u).lookup ("units":Str)=U u:=by unfold kH;rw[el,art I]
inductive mi(C:Addr)(H:ax)(p:Addr)(u:Use):Prop
 |mk (aq bx) (h0:H p=U (.ins C aq (kH (aM u.recipe) (.ref bx)))) (ag:H bx=U (.lst (u.units.map aM)))
def fx(r b u:V):List (Str×V):=bY "uses" u (bY "beginning" b (bY "recipes" r []))
theorem mc(r b u:V):(fx r b u).lookup ("recipes":Str)=U r:=by unfold fx;rw[el,ars aD,el,ars aD,el,art I]
theorem tX(r b u:V):(fx r b u).lookup ("beginning":Str)=U b:=by unfold fx;rw[el,ars aD,el,art I]
theorem jc(r b u:V):(fx r b u).lookup ("uses":Str)=U u:=by unfold fx;rw[el,art I]
theorem jy(r b u:V){m:Str}(ag:¬m="recipes")(ai:¬m="beginning")(aN:¬m="uses"):(fx r b u).lookup m=af:=by unfold fx;rw[el,ars aN,el,ars ai,el,ars ag];rfl
theorem Hc(r b u x:V):bY "uses" x (fx r b u)=fx r b x:=M5 _ _ _ _
theorem aoS(r b u x:V):bY "beginning" x (fx r b u)=fx r x u:=by
 unfold fx;have ag:¬("beginning":Str)="recipes":=aD;have ai:¬("uses":Str)="beginning":=aD;have aN:¬("recipes":Str)="uses":=aD;have bD:¬("recipes":Str)="beginning":=aD;have cw:¬("beginning":Str)="uses":=aD;have e:∀r b u:V,bY "uses" u (bY "beginning" b (bY "recipes" r []))=[(("recipes":Str),r),(("beginning":Str),b),(("uses":Str),u)]:=λr b u=>by simp only[bY,ag,ai,aN,bD,cw,if_false]
 rw[e,e];simp only[bY,bD,if_false,if_true]
theorem C7(r b u:V):(fx r b u).length<1000:=by unfold fx;have ag:=gX "uses" u (bY "beginning" b (bY "recipes" r []));have ai:=gX "beginning" b (bY "recipes" r []);have aN:=gX "recipes" r [];rw[j4]at aN;omega
inductive dF(A:cu)(H:ax)(w r u:Addr)(s:State):Prop
 |mk (aq b:Addr) (cI bx:List Addr) (h0:H w=U (.ins A.e1 aq (fx (.ref r) (.ref b) (.ref u)))) (ag:H r=U (.lst (cI.map V.ref))) (ai:Paired (RecAt A.gE H) cI s.recipes) (aN:H b=U (.lst (s.first.map nm))) (bD:H u=U (.lst (bx.map V.ref))) (cw:Paired (mi A.fg H) bx s.uses) (e_:b≠r/\b≠u/\r≠u)
theorem mi.same{C:Addr}{H ae:ax}{p:Addr}{u:Use}(h:mi C H p u)(s:aw H ae):mi C ae p u:=by obtain⟨aq,bx,ag,ai⟩:=h;exact⟨aq,bx,s _ _ ag,s _ _ ai⟩
theorem dF.grow{H ae:ax}{w r u:Addr}{s:State}(h:dF A H w r u s)(e:aw H ae):dF A ae w r u s:=by obtain⟨aq,b,cI,bx,ag,ai,aN,bD,cw,e_,iW⟩:=h;exact⟨aq,b,cI,bx,e _ _ ag,e _ _ ai,Paired.imp aN λa b _ h=>h.same e,e _ _ bD,e _ _ cw,Paired.imp e_ λa b _ h=>h.same e,iW⟩
theorem VX{α:Type}{l:List α}{i:Nat}(h:i<l.length):∃x,l[i]? =U x:=⟨l[i],gB h⟩
theorem dF.recipe{H:ax}{cI:List Addr}{s:State}(h:Paired (RecAt A.gE H) cI s.recipes){n:Nat}(aC:n<s.recipes.length):∃p,cI[n]? =U p/\RecAt A.gE H p (dw s n):=by obtain⟨bu,e⟩:=VX aC;obtain⟨p,ag,ai⟩:=Paired.wa h e;exact⟨p,ag,by rw[XG e];exact ai⟩
theorem l4{cI:List Addr}{n:Nat}{p:Addr}(h:cI[n]? =U p):(cI.map V.ref)[n]? =U (V.ref p):=by rw[dI,h];rfl
inductive GI(C:Addr)(vs:List V)(H:ax)(Q:c9)(asq:lM):Prop
 |mk (r aq:Addr) (t g:V) (h0:vs=[.ref r,t,g]) (ag:H r=U (.ins C aq [])) (ai:Q .bZ (upd H r (.ins C aq (kH t g))))
theorem MG(T:Txt K ap A):a0 P w K ap base a8 1 A.qZ A.sA ["self","recipe_number","units"] (GI A.fg):=by
 refine T.DN.F.ok amP (λvs H Q E h=>?_) (λb9 cV outer s H vs Q E aL h=>?_)
 ·obtain⟨r,aq,t,g,rfl,_⟩:=h;rfl
 ·obtain⟨r,aq,t,g,rfl,ag,k⟩:=h;refine⟨_,a3 (hn (aj 0) (aj 1) I) (bb (hn (aj 0) (aj 2) I)),?_⟩;refine⟨_,I,_,I,r,_,aq,_,I,ag,T.mm,T.tp,Ab,?_⟩;refine⟨_,I,_,I,r,_,aq,_,I,aW,T.mm,T.qj,?_,?_⟩
  ·exact k7 (gX _ _ _) Aa
  ·rw[tR];exact k
inductive Yi(A:cu)(vs:List V)(H:ax)(Q:c9)(asq:lM):Prop
 |mk (w aq:Addr) (h0:vs=[.ref w]) (ag:H w=U (.ins A.e1 aq [])) (ai:∀(ae:ax)(r u:Addr),(∀b o,H b=U o->b≠w->ae b=U o)->H r=af->H u=af->dF A ae w r u QO->Q .bZ ae)
theorem akt(T:Txt K ap A):a0 P w K ap base a8 1 A.uZ A.yi ["self"] (Yi A):=by
 refine T.Q1.F.ok amR (λvs H Q E h=>?_) (λb9 cV outer s H vs Q E aL h=>?_)
 ·obtain⟨r,aq,rfl,_⟩:=h;rfl
 ·obtain⟨aR,aq,rfl,ag,k⟩:=h;refine⟨_,a3 (hn (aj 0) (du aJ) I) (a3 (hn (aj 0) (du aJ) I) (bb (hn (aj 0) (du aJ) I))),?_⟩;refine⟨ec _,λdK mz=>?_⟩;have b':aR≠dK:=bj ag mz;refine⟨_,I,aR,_,aq,_,I,(by rw[aY b'];exact ag),T.dr,T.lq,Ab,?_⟩;refine⟨ec _,λdc fb=>?_⟩;have cB:aR≠dc:=λz=>by rw[<-z,aW]at fb;cases fb
  have FH:dK≠dc:=λz=>by rw[<-z,aY (bQ b'),aW]at fb;cases fb
  refine⟨_,I,aR,_,aq,_,I,(by rw[aY cB,aW]),T.dr,T.qk,?_,?_⟩
  ·exact k7 (gX _ _ _) Aa
  refine⟨ec _,λlu qf=>?_⟩;have en:aR≠lu:=λz=>by rw[<-z,aW]at qf;cases qf
  have Mu:dc≠lu:=λz=>by rw[<-z,aY (bQ cB),aW]at qf;cases qf
  have Mt:dK≠lu:=λz=>by rw[<-z,aY (bQ b'),aY FH,aY (bQ b'),aW]at qf;cases qf
  refine⟨_,I,aR,_,aq,_,I,(by rw[aY en,aW]),T.dr,T.ha,?_,?_⟩
  ·have a1:=gX "beginning" (.ref dc) (bY "recipes" (.ref dK) []);have a2:=gX "recipes" (.ref dK) [];rw[j4]at a2;omega
  have bc:H dc=af:=by rw[aY (bQ cB),aY (bQ FH)]at fb;exact fb
  have c_:H lu=af:=by rw[aY (bQ en),aY (bQ Mu),aY (bQ en),aY (bQ Mt)]at qf;exact qf
  refine k _ dK lu (λb o e n=>?_) mz c_ ⟨aq,dc,[],[],aW,?_,.nil,?_,?_,.nil,bQ FH,Mu,Mt⟩
  ·rw[aY n,aY (bj e c_),aY n,aY (bj e bc),aY n,aY (bj e mz)];exact e
  ·rw[aY (bQ b'),aY Mt,aY (bQ b'),aY FH,aY (bQ b'),aW];rfl
  ·rw[aY (bQ cB),aY Mu,aY (bQ cB),aW];rfl
  ·rw[aY (bQ en),aW];rfl
inductive CS(A:cu)(vs:List V)(H:ax)(Q:c9)(asq:lM):Prop
 |mk (w r u:Addr) (s:State) (i:Int) (h0:vs=[.ref w,.int i]) (ag:dF A H w r u s) (ai:Q (.bB (jI i s.recipes.length)) H)
theorem FW(T:Txt K ap A):a0 P w K ap base a8 1 A.pO A.q7 ["self","number"] (CS A):=by
 refine T.AO.F.ok amQ (λvs H Q E h=>?_) (λb9 cV outer s H vs Q E aL h=>?_)
 ·obtain⟨_,_,_,_,_,rfl,_⟩:=h;rfl
 ·obtain⟨aR,r,u,st,i,rfl,⟨aq,b,cI,bx,ag,ai,aN,bD⟩,k⟩:=h;refine⟨_,bb (bE (alr MN tx dt (aj 1) (c4 eJ I T.dG PySem.boot_len (aB (bH (aj 0) I) aJ)))),?_⟩;have au:(cI.map V.ref).length=st.recipes.length:=by rw[aU,Paired.length aN]
  unfold jI at k;refine⟨_,I,_,_,I,I,_,I,?_⟩;by_cases q:(0:Int)<=i
  ·rw[arq q]at k;rw[arq q];refine d6 ⟨_,I,aR,_,aq,_,_,I,ag,T.dr,T.lq,mc _ _ _,r,_,I,.inl (aI.of ai),_,_,I,I,?_⟩;rw[au];exact k
  ·rw[arp q]at k;rw[arp q];exact eD k
inductive O8(A:cu)(vs:List V)(H:ax)(Q:c9)(asq:lM):Prop
 |mk (w r u:Addr) (s:State) (h0:vs=[.ref w]) (ag:dF A H w r u s) (ai:Good s) (aN:uH H Q ((allNames s).map codes))
theorem WO(T:Txt K ap A):a0 P w K ap base a8 1 A.sq A.vX ["self"] (O8 A):=by
 refine T.Iv.F.ok OK (λvs H Q E h=>?_) (λb9 cV outer s H vs Q E aL h=>?_)
 ·obtain⟨_,_,_,_,rfl,_⟩:=h;rfl
 ·obtain⟨aR,r,u,st,rfl,bF,g,k⟩:=h;refine⟨_,a3 (cQ (i:=1) OK.ba I (bA I) (i5 JJ I T.lN m5 (aB (bH (aj 0) I) aJ))) (a3 (i6 gD I (gm (bH (aj 0) I)) (d9 (i:=2) OK.ba I (bA I)) (bb (fE (iy PySem.F.plainAttrs_list PySem.F.slot_list_extend PySem.F.type_list_extend zC (aj 1) (aB (bH (eo gi (bH (aj 0) I) (bH (aj 2) I) (λ_ _=>I)) I) aJ))))) (bb (bE (aj 1)))),?_⟩;obtain⟨aq,b,cI,bx,ag,ai,aN,bD,cw,e_,iW⟩:=id bF;refine⟨_,I,aR,_,aq,_,_,I,ag,T.dr,T.qk,tX _ _ _,b,_,I,.inl (aI.of bD),λl au=>?_⟩;have s0:aw H (upd H l (.lst (st.first.map nm))):=aw.new au;refine⟨_,I,aR,_,aq,_,_,I,s0 _ _ ag,T.dr,T.ha,jc _ _ _,u,I,⟨_,aI.of (s0 _ _ cw)⟩,mr (K:=K) (a:=u) (xs:=bx.map V.ref) (λi σ ae=>∃v:Option V,σ=[U (.ref aR),U (.ref l),v]/\aw H ae/\ae l=U (.lst ((st.first++(st.uses.take i).flatMap (hC st)).map nm))) ⟨af,I,s0,by rw[aW];simp⟩ (λi σ ae _ h=>?_) ?_ ?_⟩
  ·obtain⟨v,_,s1,_⟩:=h;exact aI.of (s1 _ _ cw)
  ·rintro i x σ ae av ⟨v,rfl,s1,ft⟩;obtain⟨dk,nr,rfl⟩:∃dk,bx[i]? =U dk/\V.ref dk=x:=by
    rw[dI]at av;cases q:bx[i]? with
    |none=>rw[q]at av;cases av
    |some dk=>rw[q]at av;exact⟨dk,I,bS av⟩
   obtain⟨us,fC,hH,eY,aS,aQ⟩:=Paired.getL e_ nr;have hm:us∈st.uses:=eN fC;obtain⟨pr,lY,ii,bt,ga,bK,cS,hv⟩:=dF.recipe aN (g.gP us hm).1;refine⟨_,I,.inl ⟨I,_,aI.of ft⟩,_,I,aR,_,aq,_,_,I,s1 _ _ ag,T.dr,T.lq,mc _ _ _,_,I,dk,_,hH,_,_,I,s1 _ _ aS,T.mm,T.tp,xh _ _,r,_,_,_,I,I,aI.of (s1 _ _ ai),eI (l4 lY),?_⟩;refine⟨pr,_,ii,_,_,I,s1 _ _ bK,T.jR,T.pb,tH _ _,l,ga,_,_,I,I,ft,s1 _ _ hv,?_,?_⟩
   ·rw[aU,aU,cA];have a1:=g.fst;have a2:=lT (f:=hC st) (m:=6) (l:=st.uses.take i) λu a4=>g.given (rV a4);have hi:=(g.recAt (g.gP us hm).1).oV;have qY:=g.use;rw[fo]at a2;exact b3 (show _<=1000 by omega) a5
   ·refine⟨_,I,s1.put au,?_⟩;rw[aW];have e:=xf (f:=id) fC;rw[j6,j6]at e;rw[e,k6,<-j2,eU (l₁:=_++_)];simp[hC]
  ·rintro σ ae ⟨v,rfl,s1,ft⟩;refine⟨_,I,?_⟩;refine k ae l s1 au ?_;rw[ft,aU,Paired.length e_,hA,dn];rfl
theorem A7:jD "range"=U (.type "range"):=aD
theorem O_(f n:Nat):k3 (f:Int) n=(e0 f n).map aM:=by unfold k3 e0;rw[dn];refine jB λi _=>?_;show V.int ((f:Int)+(i:Int))=V.int (((f+i:Nat)):Int);congr 1
def Q2(H:ax)(d8:List Addr)(s:State):Prop:=Paired (λ(p:Addr)(k:Nat)=>H p=U (.lst ((spanOf s k).map aM))) d8 (cf s.uses.length)
inductive GL(A:cu)(vs:List V)(H:ax)(Q:c9)(asq:lM):Prop
 |mk (w r u:Addr) (s:State) (h0:vs=[.ref w]) (ag:dF A H w r u s) (ai:Good s) (aN:∀(ae:ax)(b_:Addr)(d8:List Addr),aw H ae->H b_=af->ae b_=U (.lst (d8.map V.ref))->Q2 ae d8 s->(∀p∈d8,H p=af)->Q (.ref b_) ae)
theorem MJ(T:Txt K ap A):a0 P w K ap base a8 1 A.q0 A.sC ["self"] (GL A):=by
 refine T.DO.F.ok zX (λvs H Q E h=>?_) (λb9 cV outer s H vs Q E aL h=>?_)
 ·obtain⟨_,_,_,_,rfl,_⟩:=h;rfl
 ·obtain⟨aR,r,u,st,rfl,bF,g,k⟩:=h;refine⟨_,a3 (cQ (i:=1) zX.ba I (bA I) (du aJ)) (a3 (cQ (i:=2) zX.ba I (bA I) (c4 eJ I T.dG PySem.boot_len (aB (bH (aj 0) I) aJ))) (a3 (i6 gD I (gm (bH (aj 0) I)) (d9 (i:=3) zX.ba I (bA I)) (a3 (cQ (i:=4) zX.ba I (bA I) (fj pd (aj 2) (c4 eJ I T.dG PySem.boot_len (aB (bH (eo gi (bH (aj 0) I) (bH (aj 3) I) (λ_ _=>I)) I) aJ)))) (a3 (fE (iy PySem.F.plainAttrs_list PySem.F.slot_list_append PySem.F.type_list_append mI (aj 1) (aB (i5 (A9 I) I T.lN m5 (aB (i5 adl I T.vH A7 (aB (aj 2) (aB (aj 4) aJ))) aJ)) aJ))) (bb (cQ (i:=2) zX.ba I (bA I) (aj 4)))))) (bb (bE (aj 1))))),?_⟩;obtain⟨aq,b,cI,bx,ag,ai,aN,bD,cw,e_,iW⟩:=id bF;refine⟨ec _,λb_ sU=>?_⟩;have s0:aw H (upd H b_ (.lst [])):=aw.new sU;refine⟨_,I,aR,_,aq,_,_,I,s0 _ _ ag,T.dr,T.qk,tX _ _ _,b,_,I,.inl (aI.of (s0 _ _ bD)),?_⟩;have g8:(st.first.map nm).length=cn st 0:=by unfold cn;simp
  refine⟨_,I,aR,_,aq,_,_,I,s0 _ _ ag,T.dr,T.ha,jc _ _ _,u,I,⟨_,aI.of (s0 _ _ cw)⟩,mr (K:=K) (a:=u) (xs:=bx.map V.ref) (λi σ ae=>∃(v v':Option V)(d8:List Addr),σ=[U (.ref aR),U (.ref b_),U (aM (cn st i)),v,v']/\aw H ae/\ae b_=U (.lst (d8.map V.ref))/\(∀p∈d8,H p=af/\p≠b_)/\Paired (λ(p:Addr)(k:Nat)=>ae p=U (.lst ((spanOf st k).map aM))) d8 (cf i)) ⟨af,af,[],?_,s0,aW,(λ_ h=>nomatch h),.nil⟩ (λi σ ae _ h=>?_) ?_ ?_⟩
  ·show[U (V.ref aR),U (V.ref b_),U (V.int ((st.first.map nm).length:Nat)),af,af]=_;rw[g8]
  ·obtain⟨_,_,_,_,s1,_⟩:=h;exact aI.of (s1 _ _ cw)
  ·rintro i x σ ae av ⟨v,v',d8,rfl,s1,BJ,ri,cX⟩;obtain⟨dk,nr,rfl⟩:∃dk,bx[i]? =U dk/\V.ref dk=x:=by
    rw[dI]at av;cases q:bx[i]? with
    |none=>rw[q]at av;cases av
    |some dk=>rw[q]at av;exact⟨dk,I,bS av⟩
   obtain⟨us,fC,hH,eY,aS,aQ⟩:=Paired.getL e_ nr;have hm:us∈st.uses:=eN fC;obtain⟨pr,lY,ii,bt,ga,bK,cS,hv⟩:=dF.recipe aN (g.gP us hm).1;refine⟨_,I,_,I,aR,_,aq,_,_,I,s1 _ _ ag,T.dr,T.lq,mc _ _ _,_,I,dk,_,hH,_,_,I,s1 _ _ aS,T.mm,T.tp,xh _ _,r,_,_,_,I,I,aI.of (s1 _ _ ai),eI (l4 lY),?_⟩;refine⟨pr,_,ii,_,_,I,s1 _ _ bK,T.jR,T.pb,tH _ _,ga,_,I,.inl (aI.of (s1 _ _ hv)),_,_,I,I,?_⟩;have es:=Kf fC;have e9:(V.int ((cn st i:Nat)+(((dw st us.recipe).gives.map nm).length:Nat):Int))=aM (cn st (i+1)):=by rw[aU,es];congr 1
   have aqw:=Ke g i;have BD:=Ke g (i+1);show mu 4 (V.int ((cn st i:Nat)+(((dw st us.recipe).gives.map nm).length:Nat):Int)) _ _ _;rw[e9];refine⟨_,I,.inl ⟨I,_,aI.of BJ⟩,_,I,_,I,_,_,I,λdK mz=>?_⟩;refine⟨dK,_,_,I,aW,aG,aG,aG,aG,aG,λl au=>?_⟩;have sZ:l≠dK:=λz=>by rw[z,aW]at au;cases au
   have gv:ae l=af:=by rw[aY sZ]at au;exact au
   have cP:(((cn st (i+1):Nat):Int)-((cn st i:Nat):Int)).toNat=gI st i:=by rw[es,p3 fC];omega
   rw[cP,O_];have s2:aw ae (upd (upd ae dK (.i8 (cn st i:Nat) (cn st (i+1):Nat))) l (.lst ((e0 (cn st i) (gI st i)).map aM))):=λc o e=>by rw[aY (bj e gv),aY (bj e mz)];exact e
   have i0:(upd (upd ae dK (.i8 (cn st i:Nat) (cn st (i+1):Nat))) l (.lst ((e0 (cn st i) (gI st i)).map aM))) l=U (.lst ((spanOf st i).map aM)):=aW;generalize(upd (upd ae dK (.i8 (cn st i:Nat) (cn st (i+1):Nat))) l (.lst ((e0 (cn st i) (gI st i)).map aM)))=az at*;have BK:b_≠l:=bj BJ gv;have hZ:H l=af:=by
    cases q:H l with
    |none=>rfl
    |some o=>rw[s1 _ _ q]at gv;cases gv
   refine⟨b_,_,_,I,I,s2 _ _ BJ,?_,?_⟩
   ·rw[aU,Paired.length cX,e8];have qY:=g.use;have oO:=(ej.mp fC).1;exact jw aG
   refine⟨_,I,_,_,d8++[l],I,(s1.trans s2).put sU,by rw[aW,eU];rfl,λp aO=>?_,?_⟩
   ·rcases gn.mp aO with h|h
    ·exact ri p h
    ·rw[gp.mp h];exact⟨hZ,bQ BK⟩
   ·rw[pD];refine Paired.app ?_ (.cons (by rw[aY (bQ BK)];exact i0) .nil);refine Paired.LA cX λp k aO e=>?_;rw[aY (ri p aO).2];exact s2 _ _ e
  ·rintro σ ae ⟨v,v',d8,rfl,s1,BJ,ri,cX⟩;refine⟨_,I,?_⟩;refine k ae b_ d8 s1 sU BJ ?_ λp aO=>(ri p aO).1;rw[aU,Paired.length e_]at cX;exact cX
abbrev dH(n:Nat):Key:=h6 (n:Int)
def mF(s:State)(l:List Nat):List (Key×V):=l.map λn=>(dH n,nm (dh s n))
def gA(s:State):List (Key×V):=mF s (cE s)
theorem xi{α:Type}{f:α->Key}{g:α->V}(hf:∀a b,f a=f b->a=b):∀{l:List α}{a:α},a∈l->eb (l.map λx=>(f x,g x)) (f a)=U (g a)
 |x::r,a,h=>by
  rw[dO];by_cases e:x=a
  ·subst e;exact nI I
  ·rw[mb (λz=>e (hf _ _ z))];exact xi hf ((ek.mp h).resolve_left (bQ e))
theorem G'{α:Type}{f:α->Key}{g:α->V}{k:Key}:∀{l:List α},(∀a∈l,f a≠k)->eb (l.map λx=>(f x,g x)) k=af
 |[],_=>rfl
 |x::r,h=>by rw[dO,mb (h x (eB _))];exact G' λa ay=>h a (fe _ ay)
theorem tb{a b:Nat}(h:dH a=dH b):a=b:=by have:=DG h;omega
def A0(kvs:List (Key×V))(l:List Nat):Prop:=kvs.length<=l.length/\∀n:Nat,(eb kvs (dH n)).isSome=l.contains n
theorem A0.put{kvs:List (Key×V)}{l:List Nat}(h:A0 kvs l)(m:Nat)(v:V):A0 (putK kvs (dH m) v) (l++[m]):=by
 refine⟨?_,λn=>?_⟩
 ·have:=zy kvs (dH m) v;rw[cA,j5];have:=h.1;omega
 ·rw[C4];by_cases e:n=m
  ·subst e;simp
  ·rw[ars (λz=>e (tb z)),h.2 n,mf];simp[e]
inductive rG(A:cu)(vs:List V)(H:ax)(Q:c9)(asq:lM):Prop
 |mk (w r u:Addr) (s:State) (h0:vs=[.ref w]) (ag:dF A H w r u s) (ai:Good s) (aN:∀(ae:ax)(d:Addr),aw H ae->H d=af->ae d=U (.cC (gA s))->Q (.ref d) ae)
theorem tu(T:Txt K ap A):a0 P w K ap base a8 2 A.mj A.m7 ["self"] (rG A):=by
 have cv:a0 P w K ap base a8 1 A.sq A.vX ["self"] (O8 A):=WO T;refine T.qP.F.ok w9 (λvs H Q E h=>?_) (λb9 cV outer s H vs Q E aL h=>?_)
 ·obtain⟨_,_,_,_,rfl,_⟩:=h;rfl
 ·obtain⟨aR,r,u,st,rfl,bF,g,k⟩:=h;have a4:=n9 aL;refine⟨_,a3 (cQ (i:=1) w9.ba I (bA I) zP) (a3 (i6 gD I (gm (bH (aj 0) I)) (d9 (i:=2) w9.ba I (bA I)) (bb (i6 gD I (gm (bH (aj 2) I)) (d9 (i:=3) w9.ba I (bA I)) (bb (w2 a4 (aj 1) (aj 3) rz I))))) (a3 (cQ (i:=4) w9.ba I (bA I) zP) (a3 (i6 gD I (F7 I T.x7 (aB (hl (aj 0) T.dr T.V5 cv aL T.Iv.b .nil bG) aJ)) (wZ I (mK (d9 (i:=5) w9.ba I (bA I)) (mK (d9 (i:=6) w9.ba I (bA I)) w0))) (bb (c5 (M4 (alo a4 (aj 5) (aj 1))) (bb (w2 a4 (aj 4) (aj 5) (aj 6) I)) dd))) (bb (bE (aj 4)))))),?_⟩;obtain⟨aq,b,cI,bx,ag,ai,aN,bD,cw,e_,iW⟩:=id bF;intro tk s_;have s0:aw H (upd H tk (.cC [])):=aw.new s_;refine⟨_,I,aR,_,aq,_,_,I,s0 _ _ ag,T.dr,T.ha,jc _ _ _,u,I,⟨_,aI.of (s0 _ _ cw)⟩,mr (K:=K) (a:=u) (xs:=bx.map V.ref) (λi σ ae=>∃(v2 eL:Option V)(kvs:List (Key×V)),σ=[U (.ref aR),U (.ref tk),v2,eL,af,af,af]/\aw H ae/\ae tk=U (.cC kvs)/\A0 kvs ((st.uses.take i).flatMap (·.units))) ⟨af,af,[],I,s0,aW,ec _,λn=>I⟩ (λi σ ae _ h=>?_) ?_ ?_⟩
  ·obtain⟨_,_,_,_,s1,_⟩:=h;exact aI.of (s1 _ _ cw)
  ·rintro i x σ H1 av ⟨v2,eL,kvs,rfl,s1,E',wl⟩;obtain⟨dk,nr,rfl⟩:∃dk,bx[i]? =U dk/\V.ref dk=x:=by
    rw[dI]at av;cases q:bx[i]? with
    |none=>rw[q]at av;cases av
    |some dk=>rw[q]at av;exact⟨dk,I,bS av⟩
   obtain⟨us,fC,hH,eY,aS,aQ⟩:=Paired.getL e_ nr;have hm:us∈st.uses:=eN fC;have aqy:=g.taken;have bV:=j1 fC;refine⟨_,I,dk,_,hH,_,_,I,s1 _ _ aS,T.mm,T.qj,tS _ _,eY,I,⟨_,aI.of (s1 _ _ aQ)⟩,mr (K:=K) (a:=eY) (xs:=us.units.map aM) (λj σ ae=>∃(eL:Option V)(kvs:List (Key×V)),σ=[U (.ref aR),U (.ref tk),U (.ref dk),eL,af,af,af]/\aw H ae/\ae tk=U (.cC kvs)/\A0 kvs ((st.uses.take i).flatMap (·.units)++us.units.take j)) ⟨eL,kvs,I,s1,E',by rw[qG,iP];exact wl⟩ (λj σ ae _ h=>?_) ?_ ?_⟩
   ·obtain⟨_,_,_,s2,_⟩:=h;exact aI.of (s2 _ _ aQ)
   ·rintro j y σ az bw ⟨aoC,Md,rfl,s2,Lr,wm⟩;obtain⟨n,aC,rfl⟩:∃n,us.units[j]? =U n/\aM n=y:=by
     rw[dI]at bw;cases q:us.units[j]? with
     |none=>rw[q]at bw;cases bw
     |some n=>rw[q]at bw;exact⟨n,I,bS bw⟩
    have hlen:Md.length<sizeLine:=by have a1:=wm.1;rw[cA,fo]at a1;have a2:=lT (f:=(·.units)) (m:=6) (l:=st.uses.take i) λu a4=>(g.gP u (rV a4)).2.2;rw[fo]at a2;have hi:=g.use;have qY:=(g.gP us hm).2.2;exact jw aG
    refine⟨_,I,_,I,tk,_,I,mW.k (k:=dH n) Lr hlen,?_⟩;refine⟨_,_,I,s2.put s_,aW,?_⟩;rw[j1 aC,<-j2];exact wm.put n _
   ·rintro σ az ⟨aoC,Md,rfl,s2,Lr,wm⟩;refine⟨_,_,Md,I,s2,Lr,?_⟩;rw[aU,hA]at wm;rw[bV,k6];simpa using wm
  ·rintro σ H1 ⟨v2,eL,kvs,rfl,s1,E',wl⟩;rw[aU,Paired.length e_,hA]at wl;intro ld sX;have UR:H ld=af:=by
    cases q:H ld with
    |none=>rfl
    |some o=>rw[s1 _ _ q]at sX;cases sX
   have s2:aw H1 (upd H1 ld (.cC [])):=aw.new sX;have Nf:=s1.trans s2;refine⟨_,I,aR,aq,_,I,Nf _ _ ag,jy _ _ _ aD aD aD,aR,r,u,st,I,bF.grow Nf,g,λaZ np s3 _ qd=>?_⟩;have ahK:=s3 _ _ (s2 _ _ E');have wq:=s3 _ _ (aW (H:=H1) (a:=ld) (o:=.cC []));have l0:tk≠ld:=bj E' sX;have hlen:((allNames st).map codes).map aV=(allNames st).map nm:=by rw[dn];rfl
   rw[hlen]at qd;have ip:np≠ld:=cH qd wq df;refine⟨np,_,I,aI.of qd,Kk (K:=K) (a:=np) (xs:=(allNames st).map nm) (λi σ ae=>∃ho v6:Option V,σ=[U (.ref aR),U (.ref tk),v2,eL,U (.ref ld),ho,v6]/\ff ld aZ ae/\ae ld=U (.cC (mF st ((cf i).filter λn=>!kG st n)))) ⟨af,af,I,λb o _ e=>e,by rw[wq];rfl⟩ (λi σ ae _ h=>?_) ?_ ?_⟩
   ·obtain⟨_,_,_,kb,_⟩:=h;exact aI.of (kb _ _ ip qd)
   ·rintro i x σ bz f9 av ⟨ho,v6,rfl,kR,qa⟩ mC;obtain⟨a,ay,rfl⟩:∃a,(allNames st)[i]? =U a/\nm a=x:=by
     rw[dI]at av;cases q:(allNames st)[i]? with
     |none=>rw[q]at av;cases av
     |some a=>rw[q]at av;exact⟨a,I,bS av⟩
    have h1:=(ej.mp ay).1;have jV:=g.all;have Vc:bz tk=U (.cC kvs):=kR _ _ l0 ahK;have b':tk≠f9:=bj Vc mC;have cB:ld≠f9:=bj qa mC;refine⟨f9,_,I,eQ.of aW,I,_,_,I,_,_,I,I,?_⟩;refine⟨_,I,_,I,tk,_,I,gd.k (k:=dH i) (by rw[aY b'];exact Vc),_,I,?_⟩;rw[wl.2 i];have ki:(cf (i+1)).filter (λn=>!kG st n)=(cf i).filter (λn=>!kG st n)++(if kG st i=ah then[]else[i]):=by rw[pD,Dd];congr 1;cases q:kG st i<;>simp[q]
    have hY:(st.uses.flatMap (·.units)).contains i=kG st i:=rfl;rw[hY];have A5:ff ld aZ (upd bz f9 (.tup [aM i,nm a])):=λc o n e=>by have:=kR c o n e;rw[aY (bj this mC)];exact this
    have UN:(upd bz f9 (.tup [aM i,nm a])) ld=U (.cC (mF st ((cf i).filter λn=>!kG st n))):=by rw[aY cB];exact qa
    cases q:kG st i with
    |true=>refine eD ⟨_,_,I,A5,?_⟩;rw[UN,ki,q,art I,iP]
    |false=>
     refine d6 ⟨_,I,_,I,_,I,ld,_,I,mW.k (k:=dH i) UN ?_,?_⟩
     ·unfold mF;rw[aU];have:=tZ (λn=>!kG st n) (cf i);rw[e8]at this;exact jw aG
     ·refine⟨_,_,I,λc o n e=>by rw[aY n];exact A5 c o n e,?_⟩;rw[aW,ki,q,CC]
      ·unfold mF;rw[eU];show U (dE.cC (_++[(dH i,nm a)]))=U (dE.cC (_++[(dH i,nm (dh st i))]));rw[V_ ay]
      ·unfold mF;refine G' λn aC=>λz=>?_;have:=gC.mp (j8.mp aC).1;have:=tb z;omega
   ·rintro σ bz ⟨ho,v6,rfl,kR,qa⟩;refine⟨_,I,?_⟩;refine k bz ld (λc o e=>kR c o (bj e UR) (s3 _ _ (Nf _ _ e))) UR ?_;rw[qa,aU,<-tN];rfl
end
theorem alQ(c:UInt8):jX (cm c)=ab5 c:=eq_of_beq (qx (P:=λc=>jX (cm c)==ab5 c) aD c)
theorem W_(c:UInt8):(cm c==32)=(c==32):=eq_of_beq (qx (P:=λc=>(cm c==32)==(c==32)) aD c)
theorem alO(a:dT):nName (a.map cm)=gb a:=by
 unfold nName gb;rw[List.head?_map,aU,ow];congr 1
 ·cases a with
  |nil=>rfl
  |cons c r=>exact alQ c
 ·congr 1;induction a with
  |nil=>rfl
  |cons c r ih=>rw[nK,nK,ih];congr 1;exact M2 c
theorem alN{a:dT}(h:gb a=ah):a.map cm=codes a:=by unfold codes;refine jB λc aF=>M1 ?_;unfold gb at h;simp only[e7,jA]at h;exact h.2.2 c aF
theorem JR(b:UInt8):∀t:dT,∃w ws,H9 b t=w::ws
 |[]=>⟨[],[],I⟩
 |c::r=>by
  obtain⟨w,ws,e⟩:=JR b r;unfold H9;by_cases h:c=b
  ·rw[art h];exact⟨_,_,I⟩
  ·rw[ars h,e];exact⟨_,_,I⟩
theorem Pa:∀(t:dT)(acc:List Nat)(w:dT)(ws:List dT),H9 32 t=w::ws->bf.fk [32] 0 acc (t.map cm)=(acc++w.map cm)::ws.map (·.map cm)
 |[],acc,w,ws,h=>by have h:[[]]=w::ws:=h;cases h;rw[t5,bf.z4];simp
 |c::r,acc,w,ws,h=>by
  obtain⟨fc,aoR,e⟩:=JR 32 r;have aO:bf.pre [32] (cm c::r.map cm)=(cm c==32):=by simp[bf.pre]
  unfold H9 at h;rw[dO];by_cases aF:c=32
  ·rw[art aF,e]at h;cases h;rw[bf.Y3 (by rw[aO,W_];simp[aF])];show acc::bf.fk [32] 0 [] (r.map cm)=_;rw[Pa r [] fc aoR e];simp
  ·rw[ars aF,e]at h;cases h;rw[bf.Y4 (by rw[aO,W_];simp[aF]),Pa r _ fc ws e];simp
theorem wN(t:dT):pNames (t.map cm)=(jF t).map λl=>l.map codes:=by
 unfold pNames jF;cases t with
 |nil=>rfl
 |cons c r=>
  rw[ars (show¬(c::r).map cm=[]by simp),ars (show¬(c::r).isEmpty=ah by simp)];obtain⟨w,ws,e⟩:=JR 32 (c::r);rw[Pa _ [] w ws e,e];have em:([]++w.map cm)::ws.map (·.map cm)=(w::ws).map (·.map cm):=bl;rw[em];have kg:((w::ws).map (·.map cm)).all nName=(w::ws).all gb:=by rw[ow];congr 1;funext a;exact alO a
  rw[kg];by_cases h:(w::ws).all gb=ah
  ·rw[art h,art h];show U _=U _;congr 1;refine jB λa ay=>alN (jA.mp h a ay)
  ·rw[ars h,ars h];rfl
def jk(t:dT):List Int:=t.map λb=>(b.toNat:Int)
theorem Eb(t:dT):(jk t).map oh=t.map cm:=by
 unfold jk;rw[dn];refine jB λb _=>?_;show oh (b.toNat:Int)=cm b;unfold oh cm;by_cases h:known b.toNat=ah
 ·rw[art ⟨aG,by simpa using h⟩,art h];simp
 ·rw[ars (λz=>h (by simpa using z.2)),ars h]
theorem ajA{t:dT}{l:List dq}(h:jF t=U l):∀a∈l,gb a=ah:=by
 unfold jF at h;split at h
 ·cases h;intro a ay;cases ay
 ·split at h
  ·rename_i ai;cases h;exactλa ay=>jA.mp ai a ay
  ·cases h
section
variable{P:b6}{w:bX}{K:PySem.W.Frag}{ap:Str->Option ar}{base:Heap}{A:cu}
def h7(w r u:Addr)(H ae:ax):Prop:=∀a o,H a=U o->a≠w->a≠r->a≠u->ae a=U o
theorem h7.of{w r u:Addr}{H ae:ax}(s:aw H ae):h7 w r u H ae:=λa o h _ _ _=>s a o h
def pe(s:State):xN->State
 | .ok x=>x.1
 | .error _=>s
def ky:xN->List Int
 | .ok x=>x.2
 | .error n=>[-(n:Int)]
def uw(A:cu)(w r u:Addr)(H:ax)(Q:c9)(s':State)(vE:List Int):Prop:=∀ae p hR,h7 w r u H ae->dF A ae w r hR s'->(hR=u\/H hR=af)->H p=af->ae p=U (.lst (vE.map V.int))->Q (.ref p) ae
abbrev jh(A:cu)(w r u:Addr)(H:ax)(Q:c9)(s:State)(o:xN):Prop:=uw A w r u H Q (pe s o) (ky o)
theorem uw.new{aR r u:Addr}{H H1:ax}{Q:c9}{s:State}{vE:List Int}(a:uw A aR r u H Q s vE)(bF:dF A H aR r u s)(s1:aw H H1){l:Addr}(au:H1 l=af){xs:List V}(e:xs=vE.map V.int):Q (.ref l) (upd H1 l (.lst xs)):=by subst e;exact a _ l u (h7.of (s1.trans (aw.new au))) (bF.grow (s1.trans (aw.new au))) (.inl I) (s1.free au) aW
theorem uw.at{aR r u:Addr}{H H1:ax}{Q:c9}{s:State}{vE:List Int}(a:uw A aR r u H Q s vE)(bF:dF A H aR r u s)(s1:aw H H1){l:Addr}(aC:H l=af)(au:H1 l=U (.lst (vE.map V.int))):Q (.ref l) H1:=a _ l u (h7.of s1) (bF.grow s1) (.inl I) aC au
theorem rq{C acd aq lQ:Addr}{bk ms:List (Str×V)}{f:Str}{v:V}(ag:bk.lookup f=U v)(ai:ms.lookup f=af):dE.ins C aq bk≠dE.ins acd lQ ms:=λz=>by have z:=(dE.ins.inj z).2.2;rw[z,ai]at ag;cases ag
theorem wG{α:Type}{l:List α}{f:α->V}(hf:∀a p,f a≠V.ref p)(au:l≠[])(cI:List Addr):dE.lst (l.map f)≠dE.lst (cI.map V.ref):=λz=>by
 have z:=dE.lst.inj z;cases l with
 |nil=>exact au I
 |cons a r=>
  cases cI with
  |nil=>cases z
  |cons p ps=>exact hf a p (fN z).1
theorem kZ{α:Type}{l:List α}(h:1<=l.length):l≠[]:=λz=>by rw[z,j4]at h;omega
theorem Cp(a:dq)(p:Addr):nm a≠V.ref p:=df
theorem Vg(a:Nat)(p:Addr):aM a≠V.ref p:=df
theorem w5{H ae:ax}{aR r u aq b:Addr}{cI bx Xw:List Addr}{hN:List jG}(h:Paired (RecAt A.gE H) Xw hN)(g:∀bu∈hN,GoodR bu)(ag:H aR=U (.ins A.e1 aq (fx (.ref r) (.ref b) (.ref u))))(ai:H r=U (.lst (cI.map V.ref)))(aN:H u=U (.lst (bx.map V.ref)))(k:h7 aR r u H ae):Paired (RecAt A.gE ae) Xw hN:=Paired.imp h λp bu n7⟨lQ,bt,ga,a1,a2,hi⟩=>⟨lQ,bt,ga,k _ _ a1 (cH a1 ag (rq (ol _ _) (jy _ _ _ aD aD aD))) (cH a1 ai df) (cH a1 aN df),k _ _ a2 (cH a2 ag df) (cH a2 ai (wG Cp (kZ (g bu n7).t1) _)) (cH a2 aN (wG Cp (kZ (g bu n7).t1) _)),k _ _ hi (cH hi ag df) (cH hi ai (wG Cp (kZ (g bu n7).g1) _)) (cH hi aN (wG Cp (kZ (g bu n7).g1) _))⟩
theorem z9{H ae:ax}{aR r u aq b:Addr}{cI bx rK:List Addr}{us:List Use}(h:Paired (mi A.fg H) rK us)(g:∀x∈us,1<=x.units.length)(ag:H aR=U (.ins A.e1 aq (fx (.ref r) (.ref b) (.ref u))))(ai:H r=U (.lst (cI.map V.ref)))(aN:H u=U (.lst (bx.map V.ref)))(k:h7 aR r u H ae):Paired (mi A.fg ae) rK us:=Paired.imp h λp x ao⟨lQ,eY,a1,a2⟩=>⟨lQ,eY,k _ _ a1 (cH a1 ag (rq (tS _ _) (jy _ _ _ aD aD aD))) (cH a1 ai df) (cH a1 aN df),k _ _ a2 (cH a2 ag df) (cH a2 ai (wG Vg (kZ (g x ao)) _)) (cH a2 aN (wG Vg (kZ (g x ao)) _))⟩
inductive Yk(A:cu)(vs:List V)(H:ax)(Q:c9)(asq:lM):Prop
 |mk (w r u c:Addr) (s:State) (t:dT) (h0:vs=[.ref w,.ref c]) (ag:dF A H w r u s) (ai:Good s) (aN:H c=U (.lst ((jk t).map V.int))) (bD:t.length<=4000) (cw:jh A w r u H Q s (eC s (.begin t)))
theorem akv(T:Txt K ap A):a0 P w K ap base a8 4 A.u1 A.yk ["workshop","codes"] (Yk A):=by
 have cv:a0 P w K ap base a8 3 A.q3 A.sF ["text"] GO:=(MK T).mono a5;have dB:a0 P w K ap base a8 1 A.pS A.q' ["codes"] (CU (K:=K)):=FY T;refine T.Iy.F.ok X4 (λvs H Q E h=>?_) (λb9 cV outer s H vs Q E aL h=>?_)
 ·obtain⟨_,_,_,_,_,_,rfl,_⟩:=h;rfl
 ·obtain⟨aR,r,u,c,st,t,rfl,bF,g,aF,bV,ay⟩:=h;have dW:de 1 _:=aL.mono a5;refine⟨_,a3 (cQ (i:=2) X4.ba I (bA I) (c2 cv aL I T.Ku T.uB.F.bJ T.uB.b .nil bG (aB (c2 dB dW I T.ED T.qT.F.bJ T.qT.b .nil bG (aB (aj 1) aJ)) aJ))) (a3 (c5 (cJ l_ (aj 2) gk (cY _)) (bb (bE (du (aB (c3 I T.zv) aJ)))) dd) (a3 (c5 (cJ nB (c4 eJ I T.dG PySem.boot_len (aB (aj 2) aJ)) (c3 I T.LV) (cY _)) (bb (bE (du (aB (c3 I T.tg) aJ)))) dd) (a3 (hn (aj 0) (aj 2) I) (a3 (hn (aj 0) (du aJ) I) (bb (bE (du (aB (c4 eJ I T.dG PySem.boot_len (aB (aj 2) aJ)) aJ)))))))),?_⟩;have au:(jk t).length=t.length:=by simp[jk]
  refine⟨_,I,c,jk t,I,aI.of aF,aG,λH1 s1=>?_⟩;rw[Eb];have a9:(bW (t.map cm)).length+2<=sizeLine:=by rw[e4,aU];exact b3 (show _<=5000 by omega) a5
  have cZ:eC st (.begin t)=oJ (jF t) 1 λl=>ab8 l (.ok ({st with first:=l,uses:=[]},hg [l.length])):=rfl;have tP:bf.a6 (bW (t.map cm))=t.map cm:=rfl;refine⟨bW (t.map cm),I,a9,λcP az s2=>?_,λns cP az p s2 aO fb=>?_⟩
  ·rw[tP,wN]at cP;have cP:jF t=af:=by
    cases q:jF t with
    |none=>rfl
    |some l=>rw[q]at cP;cases cP
   rw[cZ,cP]at ay;exact⟨_,I,I,_,I,d6 ⟨eH,λl au=>ay.new bF (s1.trans s2) au I⟩⟩
  ·rw[tP,wN]at cP;obtain⟨l,kh,rfl⟩:∃l,jF t=U l/\l.map codes=ns:=by
    cases q:jF t with
    |none=>rw[q]at cP;cases cP
    |some l=>rw[q]at cP;exact⟨l,I,bS cP⟩
   rw[cZ,kh]at ay;have fb:az p=U (.lst (l.map nm)):=by rw[fb,dn];rfl
   refine⟨_,I,I,_,I,eD ?_⟩;refine⟨_,I,p,_,I,.inl (aI.of fb),_,_,I,I,_,I,?_⟩;rw[aU];have eh:=s1.trans s2;have ay:jh A aR r u H Q st (fl (decide (l.length<=10)) 5 (.ok ({st with first:=l,uses:=[]},hg [l.length]))):=ay;unfold fl at ay;refine d5 (λag=>?_) (λag=>?_)
   ·have ag:(10:Int)<(l.length:Int):=aru ag;rw[ars (show¬decide (l.length<=10)=ah by simp;omega)]at ay;exact⟨eH,λq aK=>ay.new bF eh aK I⟩
   ·have ag:¬(10:Int)<(l.length:Int):=λz=>ag (arq z);rw[art (show decide (l.length<=10)=ah by simp;omega)]at ay;obtain⟨aq,b,cI,bx,b5,dv,ei,fM,dm,eT,hy⟩:=bF.grow eh;refine⟨_,I,_,I,aR,_,aq,_,I,b5,T.dr,T.qk,C7 _ _ _,?_⟩;rw[aoS];refine⟨ec _,λup nt=>?_⟩;have b':aR≠up:=λz=>by rw[<-z,aW]at nt;cases nt
    have Fc:az up=af:=by rw[aY (bQ b')]at nt;exact nt
    refine⟨_,I,aR,_,aq,_,I,(by rw[aY b',aW]),T.dr,T.ha,C7 _ _ _,?_⟩;rw[Hc];generalize ni:upd (upd (upd az aR (.ins A.e1 aq (fx (.ref r) (.ref p) (.ref u)))) up (.lst [])) aR (.ins A.e1 aq (fx (.ref r) (.ref p) (.ref up)))=aZ;have f7:∀x o,az x=U o->x≠aR->aZ x=U o:=λx o e n=>by rw[<-ni,aY n,aY (bj e Fc),aY n];exact e
    have FP:p≠aR:=cH fb b5 df;have FQ:r≠aR:=cH dv b5 df;have aj8:p≠r:=λz=>by obtain⟨_,_,_,_,_,x2,_⟩:=bF;rw[<-z]at x2;have:=s1 _ _ x2;rw[this]at aO;cases aO
    refine⟨_,I,p,_,I,.inl (aI.of (f7 _ _ fb FP)),eH,λq aK=>?_⟩;have o_:∀x o,az x=U o->x≠aR->(upd aZ q (.lst [.int ((l.map nm).length:Nat)])) x=U o:=λx o e n=>by rw[aY (bj (f7 x o e n) aK)];exact f7 x o e n
    have J4:aZ aR=U (.ins A.e1 aq (fx (.ref r) (.ref p) (.ref up))):=by rw[<-ni,aW]
    have R8:aZ up=U (.lst []):=by rw[<-ni,aY (bQ b'),aW]
    refine ay _ q up (λx o e n _ _=>o_ x o (eh _ _ e) n) ⟨aq,p,cI,[],?_,o_ _ _ dv FQ,w5 ei g.hN b5 dv dm (λx o e n _ _=>o_ x o e n),o_ _ _ fb FP,?_,.nil,aj8,?_,?_⟩ (.inr ?_) ?_ ?_
    ·rw[aY (bj J4 aK)];exact J4
    ·rw[aY (bj R8 aK)];exact R8
    ·exact bj fb Fc
    ·exact bj dv Fc
    ·exact eh.free Fc
    ·have:aZ q=af:=aK;cases z:H q with
     |none=>rfl
     |some o=>
      by_cases n:q=aR
      ·rw[n,J4]at aK;cases aK
      ·rw[f7 q o (eh _ _ z) n]at aK;cases aK
    ·rw[aW,aU];rfl
theorem XH{t:dT}{bu:jG}(h:(nC t).bind uu=U bu):1<=bu.takes.length/\1<=bu.gives.length/\(∀a∈bu.takes,gb a=ah)/\∀a∈bu.gives,gb a=ah:=by
 cases e:nC t with
 |none=>rw[e]at h;cases h
 |some B=>
  rw[e]at h;obtain⟨gU,_⟩:=Xz e;match B,gU,h with
  | .par ed fP,gU,h=>
   have h:((fy (dg ed)).bind λl=>(fy fP).map λr=>({takes:=l,gives:=r}:jG))=U bu:=h;cases aS:fy (dg ed)with
   |none=>rw[aS]at h;cases h
   |some l=>
    cases aQ:fy fP with
    |none=>rw[aS,aQ]at h;cases h
    |some r=>rw[aS,aQ]at h;have h:({takes:=l,gives:=r}:jG)=bu:=bS h;subst h;exact⟨Mw _ _ aS,Mw _ _ aQ,FJ _ (oY ed gU.1) _ aS,FJ _ gU.2 _ aQ⟩
  | .tensor _ _,_,h=>cases h
  | .atom _ _,_,h=>cases h
inductive Ys(A:cu)(vs:List V)(H:ax)(Q:c9)(asq:lM):Prop
 |mk (w r u c:Addr) (s:State) (t:dT) (h0:vs=[.ref w,.ref c]) (ag:dF A H w r u s) (ai:Good s) (aN:H c=U (.lst ((jk t).map V.int))) (bD:t.length<=4000) (cw:jh A w r u H Q s (eC s (.recipe t)))
theorem akD(T:Txt K ap A):a0 P w K ap base a8 9 A.u9 A.yt ["workshop","codes"] (Ys A):=by
 have cv:a0 P w K ap base a8 8 A.vv A.yQ ["text"] (YR A.gE):=ak3 T;have dB:a0 P w K ap base a8 1 A.pS A.q' ["codes"] (CU (K:=K)):=FY T;refine T.IG.F.ok X5 (λvs H Q E h=>?_) (λb9 cV outer s H vs Q E aL h=>?_)
 ·obtain⟨_,_,_,_,_,_,rfl,_⟩:=h;rfl
 ·obtain⟨aR,r,u,c,st,t,rfl,bF,g,aF,bV,ay⟩:=h;have dW:de 1 _:=aL.mono a5;refine⟨_,a3 (cQ (i:=2) X5.ba I (bA I) (c2 cv aL I T.afn T.I3.F.bJ T.I3.b .nil bG (aB (c2 dB dW I T.ED T.qT.F.bJ T.qT.b .nil bG (aB (aj 1) aJ)) aJ))) (a3 (c5 (cJ l_ (aj 2) gk (cY _)) (bb (bE (du (aB (c3 I T.zv) aJ)))) dd) (a3 (c5 (ji.pt (rB (cJ nB (c4 eJ I T.dG PySem.boot_len (aB (bH (aj 2) I) aJ)) (c3 I T.Fs) (cY _)) (rC (cJ nB (c4 eJ I T.dG PySem.boot_len (aB (bH (aj 2) I) aJ)) (c3 I T.Fs) (cY _))))) (bb (bE (du (aB (c3 I T.tg) aJ)))) dd) (a3 (c5 (cJ WS (c4 eJ I T.dG PySem.boot_len (aB (bH (aj 0) I) aJ)) (c3 I T.L0) (cY _)) (bb (bE (du (aB (c3 I T.L4) aJ)))) dd) (a3 (fE (iy PySem.F.plainAttrs_list PySem.F.slot_list_append PySem.F.type_list_append mI (bH (aj 0) I) (aB (aj 2) aJ))) (bb (bE (du (aB (fj WU (c4 eJ I T.dG PySem.boot_len (aB (bH (aj 0) I) aJ)) dt) aJ)))))))),?_⟩;have au:(jk t).length=t.length:=by simp[jk]
  refine⟨_,I,c,jk t,I,aI.of aF,aG,λH1 s1=>?_⟩;rw[Eb];have cZ:eC st (.recipe t)=oJ ((nC t).bind uu) 1 λr=>fl (decide (r.takes.length<=6)&&decide (r.gives.length<=6)) 5 (fl (decide (st.recipes.length<12)) 6 (.ok ({st with recipes:=st.recipes++[r]},hg [st.recipes.length]))):=by rw[<-XA];rfl
  rw[cZ]at ay;refine⟨t,I,b3 (show _<=5000 by omega) a5,λcP az s2=>?_,λbu cP az p s2 aO fb=>?_⟩
  ·rw[cP]at ay;exact⟨_,I,I,_,I,d6 ⟨eH,λl au=>ay.new bF (s1.trans s2) au I⟩⟩
  ·rw[cP]at ay;have ay:jh A aR r u H Q st (fl (decide (bu.takes.length<=6)&&decide (bu.gives.length<=6)) 5 (fl (decide (st.recipes.length<12)) 6 (.ok ({st with recipes:=st.recipes++[bu]},hg [st.recipes.length])))):=ay;unfold fl at ay;have eh:=s1.trans s2;obtain⟨ii,bt,ga,a1,a2,hi⟩:=id fb;refine⟨_,I,I,_,I,eD ?_⟩;refine⟨_,I,p,_,ii,_,_,I,a1,T.jR,T.oe,ol _ _,bt,_,I,.inl (aI.of a2),_,_,I,I,_,I,?_⟩;rw[aU];have TO:¬(decide (bu.takes.length<=6)&&decide (bu.gives.length<=6))=ah->∀l,az l=af->Q (.ref l) (upd az l (.lst [.int (-5)])):=λn l au=>by rw[ars n]at ay;exact ay.new bF eh au I
   refine d5 (λag=>?_) (λag=>?_)
   ·have ag:(6:Int)<(bu.takes.length:Int):=aru ag;exact d6 ⟨eH,λl au=>TO (by simp;omega) l au⟩
   have ag:¬(6:Int)<(bu.takes.length:Int):=λz=>ag (arq z);refine⟨_,I,p,_,ii,_,_,I,a1,T.jR,T.pb,tH _ _,ga,_,I,.inl (aI.of hi),_,_,I,I,_,I,?_⟩;rw[aU];refine d5 (λai=>?_) (λai=>?_)
   ·have ai:(6:Int)<(bu.gives.length:Int):=aru ai;exact⟨eH,λl au=>TO (by simp;omega) l au⟩
   have ai:¬(6:Int)<(bu.gives.length:Int):=λz=>ai (arq z);rw[art (show(decide (bu.takes.length<=6)&&decide (bu.gives.length<=6))=ah by simp;omega)]at ay;obtain⟨aq,b,cI,bx,b5,dv,ei,fM,dm,eT,hy,jx,ja⟩:=bF.grow eh;have BW:(cI.map V.ref).length=st.recipes.length:=by rw[aU,Paired.length ei]
   refine⟨_,I,aR,_,aq,_,_,I,b5,T.dr,T.lq,mc _ _ _,r,_,I,.inl (aI.of dv),_,_,I,I,_,I,?_⟩;rw[BW];refine d5 (λaN=>?_) (λaN=>?_)
   ·have aN:(12:Int)<=(st.recipes.length:Int):=aru aN;rw[ars (show¬decide (st.recipes.length<12)=ah by simp;omega)]at ay;exact⟨eH,λl au=>ay.new bF eh au I⟩
   have aN:¬(12:Int)<=(st.recipes.length:Int):=λz=>aN (arq z);rw[art (show decide (st.recipes.length<12)=ah by simp;omega)]at ay;refine⟨_,I,aR,_,aq,_,_,I,b5,T.dr,T.lq,mc _ _ _,.inl ⟨I,_,aI.of dv⟩,_,I,r,_,_,I,I,dv,?_,?_⟩
   ·rw[BW];exact jw aG
   have b':r≠aR:=cH dv b5 df;have f7:h7 aR r u az (upd az r (.lst (cI.map V.ref++[V.ref p]))):=λx o e _ n _=>by rw[aY n];exact e
   have Ca:∀x o,az x=U o->x≠r->(upd az r (.lst (cI.map V.ref++[V.ref p]))) x=U o:=λx o e n=>by rw[aY n];exact e
   refine⟨_,I,aR,_,aq,_,_,I,Ca _ _ b5 (bQ b'),T.dr,T.lq,mc _ _ _,r,_,I,.inl (aI.of aW),_,_,I,I,eH,λq aK=>?_⟩;obtain⟨a7,bc,c_,gN⟩:=XH cP;have ami:GoodR bu:=⟨a7,aG,bc,aG,c_,gN⟩;generalize ni:upd az r (.lst (cI.map V.ref++[V.ref p]))=aZ at*;have R7:aZ r=U (.lst ((cI++[p]).map V.ref)):=by rw[<-ni,aW,eU];rfl
   have s4:aw aZ (upd aZ q (.lst [.int (((cI.map V.ref++[V.ref p]).length:Nat)-1)])):=aw.new aK;refine ay _ q u (λx o e b' cB en=>s4 _ _ (f7 x o (eh _ _ e) b' cB en)) ⟨aq,b,cI++[p],bx,s4 _ _ (Ca _ _ b5 (bQ b')),s4 _ _ R7,?_,s4 _ _ (Ca _ _ fM hy),s4 _ _ (Ca _ _ dm (bQ ja)),?_,hy,jx,ja⟩ (.inl I) ?_ ?_
   ·refine Paired.app (Paired.imp (w5 ei g.hN b5 dv dm f7) λ_ _ _ h=>h.same s4) (.cons ?_ .nil);have:=w5 (.cons fb .nil:Paired (RecAt A.gE az) [p] [bu]) (λx ao=>by rw[gp.mp ao];exact ami) b5 dv dm f7;cases this with
    |cons h _=>exact h.same s4
   ·exact Paired.imp (z9 eT (λx ao=>(g.gP x ao).2.1) b5 dv dm f7) λ_ _ _ h=>h.same s4
   ·cases z:H q with
    |none=>rfl
    |some o=>
     by_cases n:q=r
     ·rw[n,R7]at aK;cases aK
     ·rw[Ca q o (eh _ _ z) n]at aK;cases aK
   ·rw[aW,cA,BW];show U (dE.lst [V.int (((st.recipes.length+1:Nat):Int)-1)])=U (dE.lst [V.int ((st.recipes.length:Nat):Int)]);rw[show((st.recipes.length+1:Nat):Int)-1=((st.recipes.length:Nat):Int)by omega]
end
theorem MC:∀(l acc:List Key),(l.foldl (λacc k=>if lj k acc=ah then acc else acc++[k]) acc).length<=acc.length+l.length/\((l.foldl (λacc k=>if lj k acc=ah then acc else acc++[k]) acc).length=acc.length+l.length↔(∀k∈l,k∉acc)/\l.Nodup)
 |[],acc=>bl
 |k::r,acc=>by
  rw[rS];by_cases h:lj k acc=ah
  ·rw[art h];obtain⟨ag,_⟩:=MC r acc;have hm:=Fk.mp h;refine⟨by rw[cW];omega,?_⟩;constructor
   ·intro e;rw[cW]at e;omega
   ·rintro⟨e,_⟩;exact aro hm (e k (eB _))
  ·rw[ars h];have hm:k∉acc:=λz=>h (Fk.mpr z);obtain⟨ag,ai⟩:=MC r (acc++[k]);rw[cA,j5]at ag ai;refine⟨by rw[cW];omega,?_⟩;rw[cW,show acc.length+(r.length+1)=acc.length+1+r.length by omega,ai,hz];constructor
   ·rintro⟨e,n⟩;refine⟨λj bw=>?_,λz=>e k z bl,n⟩;rcases ek.mp bw with rfl|bw
    ·exact hm
    ·exactλz=>e j bw (Hu _ z)
   ·rintro⟨e,b',cB⟩;refine⟨λj bw z=>?_,cB⟩;rcases gn.mp z with z|z
    ·exact e j (fe _ bw) z
    ·rw[gp.mp z]at bw;exact b' bw
theorem Wv(l:List Key):(gj l).length=l.length↔l.Nodup:=by have:=(MC l []).2;rw[j4,Am]at this;unfold gj;rw[this];simp
theorem Jl:∀l:List Nat,Ib l=ah↔l.Nodup
 |[]=>by simp[Ib]
 |a::r=>by unfold Ib;rw[e7,Jl r,hz];simp
theorem FN{α β:Type}{f:α->β}:∀{l:List α},(∀a∈l,∀b∈l,f a=f b->a=b)->((l.map f).Nodup↔l.Nodup)
 |[],_=>bl
 |a::r,h=>by
  rw[dO,hz,hz,FN λx ao y a_=>h x (fe _ ao) y (fe _ a_)];constructor
  ·rintro⟨b',cB⟩;exact⟨λz=>b' (fq.mpr ⟨a,z,I⟩),cB⟩
  ·rintro⟨b',cB⟩;refine⟨λz=>?_,cB⟩;obtain⟨b,ak,e⟩:=fq.mp z;rw[h b (fe _ ak) a (eB _) e]at ak;exact b' ak
def kn(s:State)(i:Int):Bool:=decide (0<=i)&&(cE s).contains i.toNat
theorem TR(s:State)(bu:jG)(l:List Int):xO s bu l=(decide (l.length=bu.takes.length)&&(decide ((gj (l.map h6)).length=l.length)&&l.all (kn s))):=by
 unfold xO;have aS:(l.length==bu.takes.length)=decide (l.length=bu.takes.length):=by
  by_cases h:l.length=bu.takes.length
  ·rw[arq h];simp[h]
  ·rw[arp h];simp[h]
 rw[aS];congr 1;have aQ:(l.all λn=>decide (0<=n)&&(cE s).contains n.toNat)=l.all (kn s):=rfl;rw[aQ,Z7];cases q:l.all (kn s)with
 |false=>rw[Hh,Hh]
 |true=>
  rw[PH,PH];have aO:∀i∈l,(0:Int)<=i:=λi av=>by have:=jA.mp q i av;unfold kn at this;simp only[e7,decide_eq_true_eq]at this;exact this.1
  have ci:Ib (l.map λn=>n.toNat)=ah↔l.Nodup:=by rw[Jl,FN];intro a ay b ak e;have:=aO a ay;have:=aO b ak;omega
  have cU:(gj (l.map h6)).length=l.length↔l.Nodup:=by have:=Wv (l.map h6);rw[aU]at this;rw[this,FN];intro a _ b _ e;exact DG e
  rw[mf,ci,decide_eq_true_iff,cU]
theorem Za(s:State)(i:Int):eb (gA s) (.inl i)=if kn s i=ah then U (nm (dh s i.toNat))else af:=by
 unfold gA mF;by_cases h:kn s i=ah
 ·rw[art h];unfold kn at h;simp only[e7,decide_eq_true_eq,aac]at h;have e:(h6 i:Key)=dH i.toNat:=by show _=h6 ((i.toNat:Nat):Int);congr 1;omega
  rw[e];exact xi (f:=dH) (λa b z=>tb z) h.2
 ·rw[ars h];refine G' (f:=dH) λn aC z=>h ?_;have z:((n:Nat):Int)=i:=DG z;subst z;unfold kn;simp;exact aC
section
variable{P:b6}{w:bX}{K:PySem.W.Frag}{ap:Str->Option ar}{base:Heap}{A:cu}
theorem aiH(l:List Int):(l.map (h6:Int->Key)).map cc=l.map V.int:=by rw[dn];rfl
inductive Y1(vs:List V)(H:ax)(Q:c9)(asq:lM):Prop
 |mk (d bt bx:Addr) (s:State) (bu:jG) (l:List Int) (h0:vs=[.ref d,.ref bt,.ref bx]) (ag:H d=U (.cC (gA s))) (ai:H bt=U (.lst (bu.takes.map nm))) (aN:H bx=U (.lst (l.map V.int))) (bD:l.length<=100) (cw:∀ae,aw H ae->Q (.bB (xO s bu l)) ae)
theorem ald(T:Txt K ap A):a0 P w K ap base a8 1 A.vD A.yY ["stock","takes","units"] Y1:=by
 refine T.I9.F.ok OU (λvs H Q E h=>?_) (λb9 cV outer s H vs Q E aL h=>?_)
 ·obtain⟨_,_,_,_,_,_,rfl,_⟩:=h;rfl
 ·obtain⟨d,bt,bx,st,bu,l,rfl,hd,BZ,iq,au,k⟩:=h;have a4:=n9 aL;refine⟨_,a3 (c5 (ji.pt (rB (cJ rv (c4 eJ I T.dG PySem.boot_len (aB (aj 2) aJ)) (c4 eJ I T.dG PySem.boot_len (aB (aj 1) aJ)) (cY _)) (rC (cJ rv (c4 Ry I T.dG PySem.boot_len (aB (i5 (RA I) I T.D8 Ru (aB (aj 2) aJ)) aJ)) (c4 eJ I T.dG PySem.boot_len (aB (aj 2) aJ)) (cY _))))) (bb (bE rz)) dd) (bb (bE (c4 (vL I) I T.q4 vJ (aB (kB I OU.ba (gm (aj 2)) (ic (own:=[("unit",3)]) I) (λ_ _ _ _ _=>d9 (i:=3) OU.ba I (bA I)) (λ_ _ _ _ _=>jY) (λ_ _ _ _ _=>WY (F5 a4 (aj 3) (aj 0)))) aJ)))),?_⟩;rw[TR]at k;refine⟨_,I,bx,_,I,.inl (aI.of iq),_,I,bt,_,I,.inl (aI.of BZ),I,_,I,?_⟩;rw[aU,aU];by_cases ag:l.length=bu.takes.length
  ·rw[arq ag]at k;refine wy (by rw[ag]) ?_;refine⟨_,I,bx,l.map h6,I,by rw[aiH];exact aI.of iq,by rw[aU];omega,λp aO=>?_⟩;have s1:aw H (upd H p (uM p (gj (l.map h6)).length)):=aw.new aO;refine⟨p,_,I,aW,_,I,bx,_,I,.inl (aI.of (s1 _ _ iq)),I,_,I,?_⟩;rw[aU];by_cases ai:(gj (l.map h6)).length=l.length
   ·rw[arq ai]at k;refine wy (by rw[ai]) ?_;refine⟨_,I,bx,I,⟨_,aI.of (s1 _ _ iq)⟩,λD cg=>zx (λx=>match x with| .int i=>.bB (kn st i)|_=>.bZ) (aI.of (s1 _ _ iq)) cg (by rw[aU];exact b3 au a5) ?_ λaz s2 cw=>?_⟩
    ·intro x ao az s2 h9 bc;obtain⟨i,av,rfl⟩:=fq.mp ao;refine⟨_,I,_,I,d,_,I,gd.k (k:=h6 i) (s2 _ _ (s1 _ _ hd)),?_⟩;have e:V.bB (eb (gA st) (h6 i)).isSome=V.bB (kn st i):=by rw[Za];cases kn st i<;>rfl
     rw[e];exact bc az (aw.refl az)
    ·refine⟨D,l.map (kn st),I,?_,?_⟩
     ·have ij:(l.map V.int).map (λx=>match x with| .int i=>V.bB (kn st i)|_=>.bZ)=(l.map (kn st)).map V.bB:=by rw[dn,dn];rfl
      rw[ij]at cw;exact aI.of cw
     ·have kf:(l.map (kn st)).all id=l.all (kn st):=by rw[ow];rfl
      rw[kf];exact k az (s1.trans s2)
   ·rw[arp ai]at k;have aC:(!decide (V.int ((gj (l.map h6)).length:Nat)=V.int (l.length:Nat)))=ah:=by rw[arp (λz=>ai (by have:=V.int.inj z;omega))];rfl
    refine d5 (λ_=>?_) (λz=>aro aC z);exact k _ s1
  ·rw[arp ag]at k;have aC:(!decide (V.int (l.length:Nat)=V.int (bu.takes.length:Nat)))=ah:=by rw[arp (λz=>ag (by have:=V.int.inj z;omega))];rfl
   refine d5 (λ_=>?_) (λz=>aro aC z);exact d6 (k H (aw.refl H))
def ke(a:dq):PyData:=.str (bW (codes a))
theorem JY{H:ax}:∀l:List dq,uE K H (l.map nm) (l.map ke)
 |[]=>.nil
 |a::r=>.cons (.str _) (JY r)
theorem Si:∀a b:List dq,abd (a.map ke) (b.map ke)=decide (a=b)
 |[],[]=>rfl
 |[],_::_=>rfl
 |_::_,[]=>rfl
 |x::a,y::b=>by
  show((bW (codes x)==bW (codes y))&&abd (a.map ke) (b.map ke))=_;rw[Si a b];by_cases h:x=y
  ·subst h;simp
  ·rw[beq_eq_false_iff_ne.mpr (λz=>h (Bb (Cm z))),arp (λz=>h (fN z).1)];rfl
theorem X8(l:List dq):HM (.list (l.map ke))=ah:=by
 have ag:Qd (l.map ke)=ah:=by
  induction l with
  |nil=>rfl
  |cons a r ih=>show(PyData.canLay0 (ke a)&&Qd (r.map ke))=ah;rw[ih,PH];show abe (bW (codes a))=ah;unfold abe;rw[Array.all_eq_true];intro i av;simp[codes]at av⊢;have:=(a[i]).toNat_lt;omega
 have ai:Qe (l.map ke)=0:=by
  clear ag;induction l with
  |nil=>rfl
  |cons a r ih=>show max (PyData.depth (ke a)) (Qe (r.map ke))=0;rw[ih];rfl
 unfold HM;show(Qd (l.map ke)&&decide (Qe (l.map ke)+1<=64))=ah;rw[ag,ai];decide
theorem vI{i:Int}{n:Nat}(h:jI i n=ah):∃m:Nat,i=(m:Int)/\m<n:=by unfold jI at h;simp only[e7,decide_eq_true_eq]at h;exact⟨i.toNat,aG,aG⟩
theorem Jx{i:Int}{n:Nat}(h:¬jI i n=ah):jI i n=aE:=by simpa using h
inductive Yw(A:cu)(vs:List V)(H:ax)(Q:c9)(asq:lM):Prop
 |mk (w r u c:Addr) (s:State) (i:Int) (l:List Int) (h0:vs=[.ref w,.int i,.ref c]) (ag:dF A H w r u s) (ai:Good s) (aN:H c=U (.lst (l.map V.int))) (bD:l.length<=100) (cw:jh A w r u H Q s (eC s (.use i l)))
theorem akH(T:Txt K ap A):a0 P w K ap base a8 3 A.vb A.yx ["workshop","number","units"] (Yw A):=by
 have cv:a0 P w K ap base a8 1 A.pO A.q7 ["self","number"] (CS A):=FW T;have dB:a0 P w K ap base a8 2 A.mj A.m7 ["self"] (rG A):=tu T;have fQ:a0 P w K ap base a8 1 A.vD A.yY ["stock","takes","units"] Y1:=ald T;have h8:a0 P w K ap base a8 1 A.sq A.vX ["self"] (O8 A):=WO T;have oL:a0 P w K ap base a8 1 A.qZ A.sA ["self","recipe_number","units"] (GI A.fg):=MG T;refine T.IK.F.ok zZ (λvs H Q E h=>?_) (λb9 cV outer s H vs Q E aL h=>?_)
 ·obtain⟨_,_,_,_,_,_,_,rfl,_⟩:=h;rfl
 ·obtain⟨aR,r,u,c,st,i,l,rfl,bF,g,aF,au,ay⟩:=h;have a4:=n9 aL;have ahR:=aL.units;have dW:de 1 _:=aL.mono a5;refine⟨_,a3 (c5 (rA (lz (kC (aj 0) T.dr T.FE cv dW T.AO.b .nil bG (aB (aj 1) aJ)))) (bb (bE (du (aB (c3 I T.tf) aJ)))) dd) (a3 (c5 (cJ WS (c4 eJ I T.dG PySem.boot_len (aB (bH (aj 0) I) aJ)) (c3 I T.Ft) (cY _)) (bb (bE (du (aB (c3 I T.tg) aJ)))) dd) (a3 (cQ (i:=3) zZ.ba I (bA I) (eo gi (bH (aj 0) I) (aj 1) (λ_ _=>I))) (a3 (cQ (i:=4) zZ.ba I (qH I) (hl (aj 0) T.dr T.tl dB aL T.qP.b .nil bG)) (a3 (c5 (rA (lz (c2 fQ dW I T.aft T.I9.F.bJ T.I9.b .nil bG (aB (aj 4) (aB (bH (aj 3) I) (aB (aj 2) aJ)))))) (bb (bE (du (aB (c3 I T.L') aJ)))) dd) (a3 (c5 (cJ (alh ahR) (kB I zZ.ba (gm (aj 2)) (ic (own:=[("unit",6)]) I) (λ_ _ _ _ _=>d9 (i:=6) zZ.ba I (bA I)) (λ_ _ _ _ _=>jY) (λ_ _ _ _ _=>zO a4 (aj 4) (aj 6) (λ_ _=>I))) (bH (aj 3) I) (cY _)) (bb (bE (du (aB (c3 I T.L_) aJ)))) dd) (a3 (cQ (i:=5) zZ.ba I (bA I) (c4 eJ I T.dG PySem.boot_len (aB (hl (aj 0) T.dr T.V5 h8 dW T.Iv.b .nil bG) aJ))) (a3 (fE (iy PySem.F.plainAttrs_list PySem.F.slot_list_append PySem.F.type_list_append mI (bH (aj 0) I) (aB (wY T.Mp oL aL I T.Br T.DN.b .nil bG (aB (aj 1) (aB (aj 2) aJ))) aJ))) (bb (bE (du (aB (aj 5) (aB (c4 eJ I T.dG PySem.boot_len (aB (bH (aj 3) I) aJ)) aJ)))))))))))),?_⟩;have tW:∀{m:Str}(iO b tT:Addr),¬m="recipes"->¬m="beginning"->¬m="uses"->(fx (.ref iO) (.ref b) (.ref tT)).lookup m=af:=λiO b tT ag ai aN=>jy _ _ _ ag ai aN;obtain⟨aq,b,cI,bx,b5,dv,ei,fM,dm,eT,hy,jx,ja⟩:=id bF;have cZ:eC st (.use i l)=fl (jI i st.recipes.length) 2 (fl (decide (st.uses.length<10)) 5 (fl (xO st (dw st i.toNat) l) 3 (fl ((l.map λn=>n.toNat).map (dh st)==(dw st i.toNat).takes) 4 (.ok (AH st {recipe:=i.toNat,units:=l.map λn=>n.toNat},hg [(allNames st).length,(dw st i.toNat).gives.length]))))):=rfl;rw[cZ]at ay;unfold fl at ay;refine⟨_,I,aR,aq,_,I,b5,tW _ _ _ aD aD aD,_,I,aR,r,u,st,i,I,bF,_,I,?_⟩;by_cases ak:jI i st.recipes.length=ah
  ·rw[ak];rw[art ak]at ay;refine eD ?_;obtain⟨n,rfl,aC⟩:=vI ak;rw[show((n:Nat):Int).toNat=n by omega]at ay;obtain⟨pr,lY,ii,bt,ga,bK,cS,hv⟩:=dF.recipe ei aC;have iq:(bx.map V.ref).length=st.uses.length:=by rw[aU,Paired.length eT]
   refine⟨_,I,aR,_,aq,_,_,I,b5,T.dr,T.ha,jc _ _ _,u,_,I,.inl (aI.of dm),_,_,I,I,_,I,?_⟩;rw[iq];refine d5 (λai=>?_) (λai=>?_)
   ·have ai:(10:Int)<=(st.uses.length:Int):=aru ai;rw[ars (show¬decide (st.uses.length<10)=ah by simp;omega)]at ay;exact⟨eH,λq aK=>ay.new bF (aw.refl H) aK I⟩
   have ai:¬(10:Int)<=(st.uses.length:Int):=λz=>ai (arq z);rw[art (show decide (st.uses.length<10)=ah by simp;omega)]at ay;refine⟨_,I,aR,_,aq,_,_,I,b5,T.dr,T.lq,mc _ _ _,_,I,r,_,_,_,I,I,aI.of dv,eI (l4 lY),?_⟩;refine⟨_,I,aR,aq,_,I,b5,tW _ _ _ aD aD aD,aR,r,u,st,I,bF,g,λH1 d s1 hd nj=>?_⟩;refine⟨_,I,_,I,pr,_,ii,_,_,I,s1 _ _ bK,T.jR,T.oe,ol _ _,_,I,d,bt,c,st,dw st n,l,I,nj,s1 _ _ cS,s1 _ _ aF,au,λaz s2=>⟨_,I,?_⟩⟩;have eh:=s1.trans s2;by_cases hf:xO st (dw st n) l=ah
   ·rw[hf];rw[art hf]at ay;refine eD ?_;have BH:=hf;rw[TR]at BH;simp only[e7,decide_eq_true_eq]at BH;obtain⟨f1,f2,ew⟩:=BH;have fU:∀x∈l,kn st x=ah:=λx ao=>jA.mp ew x ao;have nq:∀x∈l,(0:Int)<=x:=λx ao=>by have:=fU x ao;unfold kn at this;simp only[e7,decide_eq_true_eq]at this;exact this.1
    refine⟨_,I,c,I,⟨_,aI.of (eh _ _ aF)⟩,λD cg=>zx (λx=>match x with| .int i=>nm (dh st i.toNat)|_=>.bZ) (aI.of (eh _ _ aF)) cg (by rw[aU];exact b3 au a5) ?_ λaZ s3 cw=>?_⟩
    ·intro x ao aZ s3 h9 bc;obtain⟨j,bw,rfl⟩:=fq.mp ao;refine⟨_,I,_,I,d,nm (dh st j.toNat),I,?_,bc aZ (aw.refl aZ)⟩;have:=gd.k (k:=h6 j) (s3 _ _ (s2 _ _ nj));rw[Za,art (fU j bw)]at this;exact this
    ·have fv:=eh.trans s3;have ij:(l.map V.int).map (λx=>match x with| .int i=>nm (dh st i.toNat)|_=>.bZ)=((l.map λn=>n.toNat).map (dh st)).map nm:=by rw[dn,dn,dn];rfl
     rw[ij]at cw;refine⟨_,I,pr,_,ii,_,_,I,fv _ _ bK,T.jR,T.oe,ol _ _,.list (((l.map λn=>n.toNat).map (dh st)).map ke),.list ((dw st n).takes.map ke),.lst (aI.of cw) (JY _),.lst (aI.of (fv _ _ cS)) (JY _),X8 _,X8 _,_,I,?_⟩;have kf:abc (.list (((l.map λn=>n.toNat).map (dh st)).map ke)) (.list ((dw st n).takes.map ke))=decide ((l.map λn=>n.toNat).map (dh st)=(dw st n).takes):=Si _ _;rw[kf];by_cases E2:(l.map λn=>n.toNat).map (dh st)=(dw st n).takes
     ·rw[art (show((l.map λn=>n.toNat).map (dh st)==(dw st n).takes)=ah by rw[E2];simp)]at ay;refine wy E2 ?_;have sO:=bF.grow fv;refine⟨_,I,aR,aq,_,I,fv _ _ b5,tW _ _ _ aD aD aD,aR,r,u,st,I,sO,g,λbz np s4 _ qd=>?_⟩;have Nh:=fv.trans s4;refine⟨np,_,I,.inl (aI.of qd),?_⟩;rw[aU,aU];refine⟨_,I,aR,_,aq,_,_,I,Nh _ _ b5,T.dr,T.ha,jc _ _ _,.inl ⟨I,_,aI.of (Nh _ _ dm)⟩,_,I,_,I,?_⟩;intro x hX cN nA wO;refine⟨x,hX,_,_,I,aW,I,?_⟩;rw[tR];have s5:aw bz (upd (upd bz hX (.own x)) x (.ins A.fg hX (kH (aM n) (.ref c)))):=λy o e=>by rw[aY (bj e cN),aY (bj e nA)];exact e
      have aeu:(upd (upd bz hX (.own x)) x (.ins A.fg hX (kH (aM n) (.ref c)))) x=U (.ins A.fg hX (kH (aM n) (.ref c))):=aW;generalize(upd (upd bz hX (.own x)) x (.ins A.fg hX (kH (aM n) (.ref c))))=cb at*;have kF:=Nh.trans s5;refine⟨u,_,_,I,I,kF _ _ dm,?_,?_⟩
      ·rw[iq];exact jw aG
      have b':u≠aR:=cH dm b5 df;have i3:∀y o,cb y=U o->y≠u->(upd cb u (.lst (bx.map V.ref++[V.ref x]))) y=U o:=λy o e n=>by rw[aY n];exact e
      have i2:h7 aR r u cb (upd cb u (.lst (bx.map V.ref++[V.ref x]))):=λy o e _ _ n=>i3 y o e n;have aj4:pr≠u:=cH bK dm df;have fW:=g.recAt aC;have ajU:ga≠u:=cH hv dm (wG Cp (kZ fW.g1) _);refine⟨_,I,_,I,pr,_,ii,_,_,I,i3 _ _ (kF _ _ bK) aj4,T.jR,T.pb,tH _ _,ga,_,I,.inl (aI.of (i3 _ _ (kF _ _ hv) ajU)),iC,λq aK=>?_⟩;rw[aU];have y5:(upd cb u (.lst (bx.map V.ref++[V.ref x]))) u=U (.lst ((bx++[x]).map V.ref)):=by rw[aW,eU];rfl
      generalize p6:upd cb u (.lst (bx.map V.ref++[V.ref x]))=dj at*;have dp:aw dj (upd dj q (.lst [aM (allNames st).length,aM (dw st n).gives.length])):=aw.new aK;have BB:=bF.grow kF;obtain⟨_,_,_,_,v1,v2,eL,v4,ho,v6,_,_,_⟩:=BB;have aqY:l≠[]:=λz=>by rw[z,j4]at f1;have:=fW.t1;omega
      have aov:mi A.fg cb x {recipe:=n,units:=l.map λn=>n.toNat}:=by refine⟨hX,c,aeu,?_⟩;rw[kF _ _ aF,dn];congr 2;refine jB λy a_=>?_;have:=nq y a_;show V.int y=V.int ((y.toNat:Nat):Int);congr 1;omega
      refine ay _ q u (λy o e b' cB en=>dp _ _ (i2 y o (kF _ _ e) b' cB en)) ⟨aq,b,cI,bx++[x],dp _ _ (i3 _ _ (kF _ _ b5) (bQ b')),dp _ _ (i3 _ _ (kF _ _ dv) ja),?_,dp _ _ (i3 _ _ (kF _ _ fM) jx),dp _ _ y5,?_,hy,jx,ja⟩ (.inl I) ?_ ?_
      ·exact Paired.imp (w5 (Paired.imp ei λ_ _ _ h=>h.same kF) g.hN (kF _ _ b5) (kF _ _ dv) (kF _ _ dm) i2) λ_ _ _ h=>h.same dp
      ·refine Paired.imp (z9 (Paired.app (Paired.imp eT λ_ _ _ h=>h.same kF) (.cons aov .nil)) (λy a_=>?_) (kF _ _ b5) (kF _ _ dv) (kF _ _ dm) i2) λ_ _ _ h=>h.same dp;rcases gn.mp a_ with a_|a_
       ·exact(g.gP y a_).2.1
       ·rw[gp.mp a_];show 1<=(l.map _).length;rw[aU,f1];exact fW.t1
      ·cases z:H q with
       |none=>rfl
       |some o=>
        by_cases nn:q=u
        ·rw[nn,y5]at aK;cases aK
        ·rw[i3 q o (kF _ _ z) nn]at aK;cases aK
      ·rw[aW];rfl
     ·have s6:((l.map λn=>n.toNat).map (dh st)==(dw st n).takes)=aE:=beq_eq_false_iff_ne.mpr E2;rw[s6,ars eM]at ay;refine d5 (λ_=>?_) (λz=>aro (by rw[arp E2];rfl) z);exact⟨eH,λq aK=>ay.new bF fv aK I⟩
   ·have BH:xO st (dw st n) l=aE:=by simpa using hf
    rw[BH];rw[ars hf]at ay;exact d6 ⟨eH,λq aK=>ay.new bF eh aK I⟩
  ·rw[Jx ak];rw[ars ak]at ay;exact d6 ⟨eH,λq aK=>ay.new bF (aw.refl H) aK I⟩
end
theorem Fm(l:List Nat):(hg l).map V.int=l.map aM:=by unfold hg;rw[dn];rfl
section
variable{P:b6}{w:bX}{K:PySem.W.Frag}{ap:Str->Option ar}{base:Heap}{A:cu}
inductive Yj(A:cu)(vs:List V)(H:ax)(Q:c9)(asq:lM):Prop
 |mk (w r u:Addr) (s:State) (h0:vs=[.ref w]) (ag:dF A H w r u s) (ai:Good s) (aN:jh A w r u H Q s (eC s .back))
theorem aku(T:Txt K ap A):a0 P w K ap base a8 1 A.u0 A.yj ["workshop"] (Yj A):=by
 refine T.Iw.F.ok amS (λvs H Q E h=>?_) (λb9 cV outer s H vs Q E aL h=>?_)
 ·obtain⟨_,_,_,_,rfl,_⟩:=h;rfl
 ·obtain⟨aR,r,u,st,rfl,bF,g,ay⟩:=h;refine⟨_,a3 (c5 (cJ gY (c4 eJ I T.dG PySem.boot_len (aB (bH (aj 0) I) aJ)) dt (cY _)) (bb (bE (du (aB (c3 I T.L1) aJ)))) dd) (a3 (fE (qq PySem.F.plainAttrs_list PySem.F.slot_list_pop PySem.F.type_list_pop wI (bH (aj 0) I))) (bb (bE (du (aB (c4 eJ I T.dG PySem.boot_len (aB (bH (aj 0) I) aJ)) aJ))))),?_⟩;obtain⟨aq,b,cI,bx,b5,dv,ei,fM,dm,eT,hy,jx,ja⟩:=id bF;have iq:(bx.map V.ref).length=st.uses.length:=by rw[aU,Paired.length eT]
  have cZ:eC st .back=fl (!st.uses.isEmpty) 8 (.ok ({st with uses:=st.uses.dropLast},hg [st.uses.length-1])):=rfl;rw[cZ]at ay;unfold fl at ay;refine⟨_,I,aR,_,aq,_,_,I,b5,T.dr,T.ha,jc _ _ _,u,_,I,.inl (aI.of dm),I,_,I,?_⟩;rw[iq];cases aF:st.uses with
  |nil=>rw[aF]at ay;exact d6 ⟨eH,λq aK=>ay.new (s:=st) bF (aw.refl H) aK I⟩
  |cons x xs=>
   rw[<-aF];have hlen:0<st.uses.length:=by rw[aF];exact Dj _
   rw[art (show(!st.uses.isEmpty)=ah by rw[aF];rfl)]at ay;refine d5 (λz=>?_) (λ_=>?_)
   ·have:=V.int.inj (aru z);omega
   have ard:bx≠[]:=λz=>by rw[z]at iq;simp at iq;omega
   obtain⟨y,eu⟩:∃y,(bx.map V.ref)[(bx.map V.ref).length-1]? =U y:=VX aG;refine⟨_,I,aR,_,aq,_,_,I,b5,T.dr,T.ha,jc _ _ _,.inl ⟨I,_,aI.of dm⟩,u,_,y,I,I,dm,eu,?_⟩;have b':u≠aR:=cH dm b5 df;have i3:∀y o,H y=U o->y≠u->(upd H u (.lst (bx.map V.ref).dropLast)) y=U o:=λy o e n=>by rw[aY n];exact e
   have i2:h7 aR r u H (upd H u (.lst (bx.map V.ref).dropLast)):=λy o e _ _ n=>i3 y o e n;have y5:(upd H u (.lst (bx.map V.ref).dropLast)) u=U (.lst (bx.dropLast.map V.ref)):=by rw[aW,List.map_dropLast]
   generalize p6:upd H u (.lst (bx.map V.ref).dropLast)=dj at*;refine⟨_,I,aR,_,aq,_,_,I,i3 _ _ b5 (bQ b'),T.dr,T.ha,jc _ _ _,u,_,I,.inl (aI.of y5),eH,λq aK=>?_⟩;have dp:aw dj (upd dj q (.lst [aM (bx.dropLast.map V.ref).length])):=aw.new aK;refine ay _ q u (λy o e b' cB en=>dp _ _ (i2 y o e b' cB en)) ⟨aq,b,cI,bx.dropLast,dp _ _ (i3 _ _ b5 (bQ b')),dp _ _ (i3 _ _ dv ja),?_,dp _ _ (i3 _ _ fM jx),dp _ _ y5,?_,hy,jx,ja⟩ (.inl I) ?_ ?_
   ·exact Paired.imp (w5 ei g.hN b5 dv dm i2) λ_ _ _ h=>h.same dp
   ·exact Paired.imp (z9 (Paired.adV eT) (λy a_=>(g.gP y (List.dropLast_subset _ a_)).2.1) b5 dv dm i2) λ_ _ _ h=>h.same dp
   ·cases z:H q with
    |none=>rfl
    |some o=>
     by_cases nn:q=u
     ·rw[nn,y5]at aK;cases aK
     ·rw[i3 q o z nn]at aK;cases aK
   ·rw[aW,aU,Ah,<-Paired.length eT];rfl
def F'(us:List Use):List Nat:=us.flatMap λu=>u.recipe::lH u.units
inductive Yq(A:cu)(vs:List V)(H:ax)(Q:c9)(asq:lM):Prop
 |mk (w r u:Addr) (s:State) (h0:vs=[.ref w]) (ag:dF A H w r u s) (ai:Good s) (aN:jh A w r u H Q s (eC s .plan))
theorem akB(T:Txt K ap A):a0 P w K ap base a8 1 A.u6 A.yq ["workshop"] (Yq A):=by
 refine T.IE.F.ok OL (λvs H Q E h=>?_) (λb9 cV outer s H vs Q E aL h=>?_)
 ·obtain⟨_,_,_,_,rfl,_⟩:=h;rfl
 ·obtain⟨aR,r,u,st,rfl,bF,g,ay⟩:=h;refine⟨_,a3 (cQ (i:=1) OL.ba I (bA I) (du (aB (c4 eJ I T.dG PySem.boot_len (aB (bH (aj 0) I) aJ)) aJ))) (a3 (i6 gD I (gm (bH (aj 0) I)) (d9 (i:=2) OL.ba I (bA I)) (bb (fE (iy PySem.F.plainAttrs_list PySem.F.slot_list_extend PySem.F.type_list_extend zC (aj 1) (aB (fj kx (du (aB (bH (aj 2) I) (aB (c4 eJ I T.dG PySem.boot_len (aB (bH (aj 2) I) aJ)) aJ))) (bH (aj 2) I)) aJ))))) (bb (bE (aj 1)))),?_⟩;obtain⟨aq,b,cI,bx,b5,dv,ei,fM,dm,eT,hy,jx,ja⟩:=id bF;have iq:(bx.map V.ref).length=st.uses.length:=by rw[aU,Paired.length eT]
  refine⟨_,I,aR,_,aq,_,_,I,b5,T.dr,T.ha,jc _ _ _,u,_,I,.inl (aI.of dm),eH,λan sQ=>?_⟩;have s0:aw H (upd H an (.lst [aM (bx.map V.ref).length])):=aw.new sQ;refine⟨_,I,aR,_,aq,_,_,I,s0 _ _ b5,T.dr,T.ha,jc _ _ _,u,I,⟨_,aI.of (s0 _ _ dm)⟩,mr (K:=K) (a:=u) (xs:=bx.map V.ref) (λi σ ae=>∃v:Option V,σ=[U (.ref aR),U (.ref an),v]/\aw H ae/\ae an=U (.lst ((st.uses.length::F' (st.uses.take i)).map aM))) ⟨af,I,s0,by rw[aW,iq];rfl⟩ (λi σ ae _ h=>?_) ?_ ?_⟩
  ·obtain⟨v,_,s1,_⟩:=h;exact aI.of (s1 _ _ dm)
  ·rintro i x σ H1 av ⟨v,rfl,s1,ag⟩;obtain⟨dk,nr,rfl⟩:∃dk,bx[i]? =U dk/\V.ref dk=x:=by
    rw[dI]at av;cases q:bx[i]? with
    |none=>rw[q]at av;cases av
    |some dk=>rw[q]at av;exact⟨dk,I,bS av⟩
   obtain⟨us,fC,hH,eY,aS,aQ⟩:=Paired.getL eT nr;have hm:us∈st.uses:=eN fC;have e_:=(g.gP us hm).2.2;refine⟨_,I,.inl ⟨I,_,aI.of ag⟩,_,I,dk,_,hH,_,_,I,s1 _ _ aS,T.mm,T.tp,xh _ _,_,I,dk,_,hH,_,_,I,s1 _ _ aS,T.mm,T.qj,tS _ _,eY,_,I,.inl (aI.of (s1 _ _ aQ)),iC,λa7 gW=>?_⟩;have s2:aw H1 (upd H1 a7 (.lst [aM us.recipe,aM (us.units.map aM).length])):=aw.new gW;refine⟨_,I,dk,_,hH,_,_,I,s2 _ _ (s1 _ _ aS),T.mm,T.qj,tS _ _,a7,eY,_,_,I,I,aW,s2 _ _ (s1 _ _ aQ),?_,λbc i1=>?_⟩
   ·show 2+(us.units.map aM).length<=_;rw[aU];exact b3 (show _<=1000 by omega) a5
   have s3:=s2.trans (aw.new (o:=.lst ([aM us.recipe,aM (us.units.map aM).length]++us.units.map aM)) i1);have b0:(upd (upd H1 a7 (.lst [aM us.recipe,aM (us.units.map aM).length])) bc (.lst ([aM us.recipe,aM (us.units.map aM).length]++us.units.map aM))) bc=U (.lst ((us.recipe::lH us.units).map aM)):=by rw[aW,aU];rfl
   generalize(upd (upd H1 a7 (.lst [aM us.recipe,aM (us.units.map aM).length])) bc (.lst ([aM us.recipe,aM (us.units.map aM).length]++us.units.map aM)))=aZ at*;refine⟨an,bc,_,_,I,I,s3 _ _ ag,b0,?_,?_⟩
   ·rw[aU,aU,cW,cW];have a1:=lT (f:=λu:Use=>u.recipe::lH u.units) (m:=8) (l:=st.uses.take i) λy a_=>by have:=(g.gP y (rV a_)).2.2;show(lH y.units).length+1<=8;unfold lH;rw[cW];omega
    have a2:=g.use;rw[fo]at a1;have hi:(lH us.units).length=us.units.length+1:=rfl;unfold F';exact b3 (show _<=1000 by omega) a5
   ·refine⟨_,I,(s1.trans s3).put sQ,?_⟩;rw[aW,j1 fC];unfold F';rw[k6];simp
  ·rintro σ H1 ⟨v,rfl,s1,ag⟩;refine⟨_,I,?_⟩;refine ay.at bF s1 sQ ?_;rw[ag,iq,hA];show _=U (dE.lst ((hg (st.uses.length::F' st.uses)).map V.int));rw[Fm]
theorem Vu:∀l:List dq,bf.f6 [42] (l.map codes)=codes (qO l)
 |[]=>rfl
 |[a]=>rfl
 |a::b::r=>by have ih:=Vu (b::r);show codes a++([42]++bf.f6 [42] ((b::r).map codes))=codes (a++42::qO (b::r));rw[ih];simp[codes]
theorem Vr(l:List dq):Txt.join (dY "*") (l.map λa=>bW (codes a))=bW (codes (qO l)):=by refine rI ?_;rw[bf.join_eq,bf.G3,show bf.a6 (dY "*")=[42]by decide+kernel,dn,<-Vu];rfl
theorem Pj:∀l:List dq,(∀a∈l,gb a=ah)->((l.map λa=>bW (codes a)).map (·.length)).sum<=12*l.length
 |[],_=>bl
 |a::r,h=>by
  have ag:=(wM (h a (eB _))).1;have ih:=Pj r λb ak=>h b (fe _ ak);rw[dO,dO,oy,cW];have:(bW (codes a)).length=a.length:=by rw[e4,m6]
  omega
theorem xa:∀l:List dq,(∀a∈l,gb a=ah)->(qO l).length<=13*l.length
 |[],_=>by simp[qO]
 |[a],h=>by have ag:=(wM (h a (eB _))).1;show a.length<=13*1;omega
 |a::b::r,h=>by have ag:=(wM (h a (eB _))).1;have ih:=xa (b::r) λc aF=>h c (fe _ aF);show(a++42::qO (b::r)).length<=_;rw[cA,cW,cW];omega
inductive YS(A:cu)(vs:List V)(H:ax)(Q:c9)(asq:lM):Prop
 |mk (p:Addr) (bu:jG) (h0:vs=[.ref p]) (ag:RecAt A.gE H p bu) (ai:GoodR bu) (aN:Q (aV (codes (qN bu))) H)
theorem ak4(T:Txt K ap A):a0 P w K ap base a8 1 A.vw A.yR ["recipe"] (YS A):=by
 refine T.I4.F.ok am0 (λvs H Q E h=>?_) (λb9 cV outer s H vs Q E aL h=>?_)
 ·obtain⟨_,_,rfl,_⟩:=h;rfl
 ·obtain⟨p,bu,rfl,⟨aq,bt,ga,a1,a2,hi⟩,g,k⟩:=h;refine⟨_,bb (bE (fj tv (fj tv (zR gL (bH (aj 0) I)) gL) (zR gL (bH (aj 0) I)))),?_⟩;have hY:bu.takes.map nm=(bu.takes.map λa=>bW (codes a)).map V.str:=by rw[dn];rfl
  have Bh:bu.gives.map nm=(bu.gives.map λa=>bW (codes a)).map V.str:=by rw[dn];rfl
  rw[hY]at a2;rw[Bh]at hi;have eK:=Pj bu.takes g.fw;have fi:=Pj bu.gives g.p4;have Me:=xa bu.takes g.fw;have Fw:=xa bu.gives g.p4;have g1:=g.oq;have g2:=g.oV;have es:(dY "*").length=1:=aD;have kg:(dY " -o ").length=4:=aD;refine⟨⟨_,I⟩,_,I,p,_,aq,_,_,I,a1,T.jR,T.oe,ol _ _,_,bt,_,I,I,.inl (aI.of a2),?_,?_⟩
  ·rw[aU,es];omega
  rw[Vr];refine⟨_,_,I,I,?_,?_⟩
  ·rw[e4,m6,kg];exact b3 (show _<=1000 by omega) a5
  refine⟨⟨_,I⟩,_,I,p,_,aq,_,_,I,a1,T.jR,T.pb,tH _ _,_,ga,_,I,I,.inl (aI.of hi),?_,?_⟩
  ·rw[aU,es];omega
  rw[Vr];refine⟨_,_,I,I,?_,?_⟩
  ·rw[nQ,kg,e4 (codes (qO bu.takes)),e4 (codes (qO bu.gives)),m6,m6];exact b3 (show _<=1000 by omega) a5
  have e:bW (codes (qO bu.takes))++dY " -o "++bW (codes (qO bu.gives))=bW (codes (qN bu)):=by refine rI ?_;rw[bf.ou,bf.ou,show bf.a6 (dY " -o ")=[32,45,111,32]by decide+kernel];unfold qN codes;simp
  rw[e];exact k
theorem ZE(t:dT):(hg (jJ t)).map V.int=aM t.length::((codes t).map λc:Nat=>(c:Int)).map V.int:=by rw[Fm];unfold jJ;rw[dO,dn,dn];unfold codes;rw[dn];rfl
inductive Yt(A:cu)(vs:List V)(H:ax)(Q:c9)(asq:lM):Prop
 |mk (w r u:Addr) (s:State) (i:Int) (h0:vs=[.ref w,.int i]) (ag:dF A H w r u s) (ai:Good s) (aN:jh A w r u H Q s (eC s (.show i)))
theorem akE(T:Txt K ap A):a0 P w K ap base a8 2 A.u_ A.yu ["workshop","number"] (Yt A):=by
 have cv:a0 P w K ap base a8 1 A.pO A.q7 ["self","number"] (CS A):=FW T;have dB:a0 P w K ap base a8 1 A.vw A.yR ["recipe"] (YS A):=ak4 T;have fQ:a0 P w K ap base a8 1 A.q2 A.sE ["text"] GK:=MI T;refine T.IH.F.ok X6 (λvs H Q E h=>?_) (λb9 cV outer s H vs Q E aL h=>?_)
 ·obtain⟨_,_,_,_,_,rfl,_⟩:=h;rfl
 ·obtain⟨aR,r,u,st,i,rfl,bF,g,ay⟩:=h;refine⟨_,a3 (c5 (rA (lz (kC (aj 0) T.dr T.FE cv aL T.AO.b .nil bG (aB (aj 1) aJ)))) (bb (bE (du (aB (c3 I T.tf) aJ)))) dd) (a3 (cQ (i:=2) X6.ba I (bA I) (c2 dB aL I T.afo T.I4.F.bJ T.I4.b .nil bG (aB (eo gi (bH (aj 0) I) (aj 1) (λ_ _=>I)) aJ))) (bb (bE (fj kx (du (aB (c4 sz I T.dG PySem.boot_len (aB (aj 2) aJ)) aJ)) (c2 fQ aL I T.Kt T.uA.F.bJ T.uA.b .nil bG (aB (aj 2) aJ)))))),?_⟩;obtain⟨aq,b,cI,bx,b5,dv,ei,fM,dm,eT,hy,jx,ja⟩:=id bF;have cZ:eC st (.show i)=fl (jI i st.recipes.length) 2 (r4 st (jJ (qN (dw st i.toNat)))):=rfl;rw[cZ]at ay;unfold fl at ay;refine⟨_,I,aR,aq,_,I,b5,jy _ _ _ aD aD aD,_,I,aR,r,u,st,i,I,bF,_,I,?_⟩;by_cases ak:jI i st.recipes.length=ah
  ·rw[ak];rw[art ak]at ay;refine eD ?_;obtain⟨n,rfl,aC⟩:=vI ak;rw[show((n:Nat):Int).toNat=n by omega]at ay;obtain⟨pr,lY,ahy⟩:=dF.recipe ei aC;have fW:=g.recAt aC;refine⟨_,I,aR,_,aq,_,_,I,b5,T.dr,T.lq,mc _ _ _,_,I,r,_,_,_,I,I,aI.of dv,eI (l4 lY),pr,dw st n,I,ahy,fW,?_⟩;have hlen:(qN (dw st n)).length<=200:=by have Me:=xa (dw st n).takes fW.fw;have Fw:=xa (dw st n).gives fW.p4;have g1:=fW.oq;have g2:=fW.oV;unfold qN;rw[cA,cA];show _+(4+_)<=200;omega
   have a9:(bW (codes (qN (dw st n)))).length<=sizeLine:=by rw[e4,m6];exact b3 hlen a5
   refine⟨_,I,_,I,a9,eH,λa7 gW=>?_⟩;rw[e4,m6];have s1:aw H (upd H a7 (.lst [aM (qN (dw st n)).length])):=aw.new gW;refine⟨_,I,_,I,a9,λaz bc s2 i1 ai=>?_⟩;refine⟨a7,bc,_,_,I,I,s2 _ _ aW,ai,?_,λc_ hJ=>?_⟩
   ·show 1+_<=_;rw[aU,aU];show 1+(codes _).length<=_;rw[m6];exact b3 (show _<=1000 by omega) a5
   ·refine ay.new bF (s1.trans s2) hJ ?_;show _=(hg (jJ _)).map V.int;rw[ZE];rfl
  ·rw[Jx ak];rw[ars ak]at ay;exact d6 ⟨eH,λq aK=>ay.new bF (aw.refl H) aK I⟩
def CW(s:State)(l:List Nat):List Nat:=l.flatMap λn=>n::jJ (dh s n)
inductive Yu(A:cu)(vs:List V)(H:ax)(Q:c9)(asq:lM):Prop
 |mk (w r u:Addr) (s:State) (h0:vs=[.ref w]) (ag:dF A H w r u s) (ai:Good s) (aN:jh A w r u H Q s (eC s .stock))
theorem akF(T:Txt K ap A):a0 P w K ap base a8 3 A.u' A.yv ["workshop"] (Yu A):=by
 have cv:a0 P w K ap base a8 2 A.mj A.m7 ["self"] (rG A):=tu T;have dB:a0 P w K ap base a8 1 A.q2 A.sE ["text"] GK:=MI T;refine T.II.F.ok CI (λvs H Q E h=>?_) (λb9 cV outer s H vs Q E aL h=>?_)
 ·obtain⟨_,_,_,_,rfl,_⟩:=h;rfl
 ·obtain⟨aR,r,u,st,rfl,bF,g,ay⟩:=h;have dW:de 1 _:=aL.mono a5;refine⟨_,a3 (cQ (i:=1) CI.ba I (bA I) (hl (aj 0) T.dr T.tl cv aL T.qP.b .nil bG)) (a3 (cQ (i:=2) CI.ba I (bA I) (du (aB (c4 JI I T.dG PySem.boot_len (aB (aj 1) aJ)) aJ))) (a3 (M3 (i6 gD I (W2 (aj 1)) (wZ I (mK (d9 (i:=3) CI.ba I (bA I)) (mK (d9 (i:=4) CI.ba I (bA I)) w0))) (bb (fE (iy PySem.F.plainAttrs_list PySem.F.slot_list_extend PySem.F.type_list_extend zC (aj 2) (aB (fj kx (du (aB (aj 3) (aB (c4 sz I T.dG PySem.boot_len (aB (aj 4) aJ)) aJ))) (c2 dB dW I T.Kt T.uA.F.bJ T.uA.b .nil bG (aB (aj 4) aJ))) aJ)))))) (bb (bE (aj 2))))),?_⟩;obtain⟨aq,b,cI,bx,b5,dv,ei,fM,dm,eT,hy,jx,ja⟩:=id bF;refine⟨_,I,aR,aq,_,I,b5,jy _ _ _ aD aD aD,aR,r,u,st,I,bF,g,λH1 d s1 hd nj=>?_⟩;refine⟨_,I,d,_,I,nj,eH,λan sQ=>?_⟩;have rl:(gA st).length=(cE st).length:=by unfold gA mF;rw[aU]
  have s2:aw H1 (upd H1 an (.lst [aM (gA st).length])):=aw.new sQ;have ER:d≠an:=bj nj sQ;refine⟨d,_,s2 _ _ nj,trivial,λcO=>?_⟩;generalize jo:upd (upd H1 an (.lst [aM (gA st).length])) d (.dV cO (.cC (gA st)))=az;have pZ:az d=U (.dV cO (.cC (gA st))):=by rw[<-jo,aW]
  have aee:az an=U (.lst (((cE st).length::CW st []).map aM)):=by rw[<-jo,aY (bQ ER),aW,rl];rfl
  have aqP:=rH g;refine⟨_,I,d,cO,_,I,pZ,aeK (d:=d) (o:=cO) (kvs:=gA st) (λi σ ae=>∃eL v4:Option V,σ=[U (.ref aR),U (.ref d),U (.ref an),eL,v4]/\ff an az ae/\ae an=U (.lst (((cE st).length::CW st ((cE st).take i)).map aM))) ⟨af,af,I,λ_ _ _ e=>e,by rw[aee,qG]⟩ (λi σ ae _ h=>?_) ?_ ?_⟩
  ·obtain⟨_,_,_,kb,_⟩:=h;exact kb _ _ ER pZ
  ·rintro i k v σ aZ f9 av ⟨eL,v4,rfl,iU,aN⟩ mC;obtain⟨n,aC,rfl,rfl⟩:∃n,(cE st)[i]? =U n/\dH n=k/\nm (dh st n)=v:=by
    unfold gA mF at av;rw[dI]at av;cases q:(cE st)[i]? with
    |none=>rw[q]at av;cases av
    |some n=>rw[q]at av;have:=bS av;exact⟨n,I,(qI this).1,(qI this).2⟩
   have mx:=eN aC;have ip:=(wM (g.GH mx)).1;have s4:aw aZ (upd aZ f9 (.tup [cc (dH n),nm (dh st n)])):=aw.new mC;refine⟨f9,_,I,eQ.of aW,I,_,_,I,_,_,I,I,?_⟩;have a9:(bW (codes (dh st n))).length<=sizeLine:=by rw[e4,m6];exact b3 ip a5
   refine⟨_,I,.inl ⟨I,_,aI.of (s4 _ _ aN)⟩,_,I,_,I,_,I,a9,iC,λa7 gW=>?_⟩;rw[e4,m6];have s5:=s4.trans (aw.new (o:=.lst [cc (dH n),aM (dh st n).length]) gW);have gT:(upd (upd aZ f9 (.tup [cc (dH n),nm (dh st n)])) a7 (.lst [cc (dH n),aM (dh st n).length])) a7=U (.lst [cc (dH n),aM (dh st n).length]):=aW;generalize(upd (upd aZ f9 (.tup [cc (dH n),nm (dh st n)])) a7 (.lst [cc (dH n),aM (dh st n).length]))=cb at*;refine⟨_,I,_,I,a9,λdj bc c6 i1 e_=>?_⟩;refine⟨a7,bc,_,_,I,I,c6 _ _ gT,e_,?_,λc_ hJ=>?_⟩
   ·show 2+_<=_;rw[aU,aU];show 2+(codes _).length<=_;rw[m6];exact b3 (show _<=1000 by omega) a5
   have y2:[cc (dH n),aM (dh st n).length]++((bf.a6 (bW (codes (dh st n)))).map λc:Nat=>(c:Int)).map V.int=(n::jJ (dh st n)).map aM:=by unfold jJ;rw[dO,dO,dn,dn];show aM n::aM _::(codes (dh st n)).map _=_;unfold codes;rw[dn];rfl
   rw[y2];have dp:=(s5.trans c6).trans (aw.new (o:=.lst ((n::jJ (dh st n)).map aM)) hJ);refine⟨an,c_,_,_,I,I,dp _ _ aN,aW,?_,?_⟩
   ·rw[aU,aU,cW,cW];have a1:=lT (f:=λn=>n::jJ (dh st n)) (m:=14) (l:=(cE st).take i) λm hm=>by have:=(wM (g.GH (rV hm))).1;unfold jJ;rw[cW,cW,aU];omega
    rw[fo]at a1;have hi:(jJ (dh st n)).length=(dh st n).length+1:=by unfold jJ;rw[cW,aU]
    unfold CW;exact b3 (show _<=2000 by omega) a5
   ·refine⟨_,_,I,λc o n e=>by rw[aY n];exact dp _ _ (iU c o n e),?_⟩;rw[aW,j1 aC];unfold CW;rw[k6];simp
  ·rintro σ aZ ⟨eL,v4,rfl,iU,aN⟩;refine⟨iU _ _ ER pZ,_,I,?_⟩;refine ay.at bF (λc o e=>?_) (s1.free sQ) ?_
   ·have ag:=s1 _ _ e;have cq:c≠an:=bj ag sQ;have cF:c≠d:=bj e hd;rw[aY cF];refine iU c o cq ?_;rw[<-jo,aY cF,aY cq];exact ag
   ·rw[aY (bQ ER),aN,rl,hA];show _=U (dE.lst ((hg ((cE st).length::CW st (cE st))).map V.int));rw[Fm]
theorem aeq(a b:dq):p1 (nm a) (nm b)=decide (a=b):=by
 show(bW (codes a)==bW (codes b))=_;by_cases h:a=b
 ·subst h;simp
 ·rw[arp h];exact beq_eq_false_iff_ne.mpr λz=>h (Bb (Cm z))
theorem LC(a:dq):∀l:List dq,iM (nm a) (l.map nm)=decide (a∈l)
 |[]=>by simp[iM]
 |b::r=>by have ih:=LC a r;show(p1 (nm b) (nm a)||iM (nm a) (r.map nm))=_;rw[ih,aeq,<-Bool.decide_or];congr 1;rw[ek];exact propext ⟨λh=>h.elim (λe=>.inl e.symm) .inr,λh=>h.elim (λe=>.inl e.symm) .inr⟩
theorem TU(l:List dq):(l.map nm).all oT=ah:=by rw[ow,jA];intro a _;rfl
theorem Mh(a:dq):∀l:List dq,DI a l=if a∈l then U (l.erase a)else af
 |[]=>by simp[DI]
 |b::r=>by
  unfold DI;by_cases h:a=b
  ·subst h;simp
  ·have ag:(a==b)=aE:=beq_eq_false_iff_ne.mpr h;rw[ag,ars eM,Mh a r];by_cases ai:a∈r
   ·rw[art ai,art (show a∈b::r from fe _ ai)];show U _=U _;rw[List.erase_cons_tail (by simpa using bQ h)]
   ·rw[ars ai,ars (by simp[h,ai])];rfl
theorem Mm{α β:Type}(f:α->β):∀(l:List α)(j:Nat),(l.map f).eraseIdx j=(l.eraseIdx j).map f
 |[],_=>rfl
 |_::_,0=>rfl
 |a::r,j+1=>by show f a::(r.map f).eraseIdx j=_;rw[Mm f r j];rfl
theorem aiM(a:dq)(r l:List dq):uq (a::r) l=match DI a l with|some t=>uq r t|none=>1+uq r l:=rfl
theorem Wk{a b:dq}(h:nm a=nm b):a=b:=Bb (xc h)
theorem XN{a:dq}{l:List dq}(h:a∈l):∃j,(∀z∈l.map nm,Cf z (nm a)=ah)/\(l.map nm)[j]? =U (nm a)/\(∀m,m<j->(l.map nm)[m]? ≠U (nm a))/\(l.map nm).eraseIdx j=(l.erase a).map nm:=by
 have av:=PQ.mpr h;refine⟨l.idxOf a,?_,?_,λm hm z=>?_,?_⟩
 ·intro z a9;obtain⟨b,_,rfl⟩:=fq.mp a9;rfl
 ·rw[dI,gB av,Hs av];rfl
 ·rw[dI]at z;cases q:l[m]? with
  |none=>rw[q]at z;cases z
  |some b=>rw[q]at z;have e:=Wk (bS z);subst e;obtain⟨ag,ai⟩:=ej.mp q;have:=aat (p:=λx=>x==b) (xs:=l) (i:=m) (by simpa[aam]using hm);rw[ai]at this;simp at this
 ·rw[aag I,Mm]
inductive Yo(A:cu)(vs:List V)(H:ax)(Q:c9)(asq:lM):Prop
 |mk (w r u:Addr) (s:State) (i:Int) (h0:vs=[.ref w,.int i]) (ag:dF A H w r u s) (ai:Good s) (aN:jh A w r u H Q s (eC s (.need i)))
theorem GU(s:State):(gA s).map (·.2)=((cE s).map (dh s)).map nm:=by unfold gA mF;rw[dn,dn];rfl
theorem akz(T:Txt K ap A):a0 P w K ap base a8 3 A.u4 A.yo ["workshop","number"] (Yo A):=by
 have cv:a0 P w K ap base a8 1 A.pO A.q7 ["self","number"] (CS A):=FW T;have dB:a0 P w K ap base a8 2 A.mj A.m7 ["self"] (rG A):=tu T;refine T.IC.F.ok CH (λvs H Q E h=>?_) (λb9 cV outer s H vs Q E aL h=>?_)
 ·obtain⟨_,_,_,_,_,rfl,_⟩:=h;rfl
 ·obtain⟨aR,r,u,st,i,rfl,bF,g,ay⟩:=h;have dW:de 1 _:=aL.mono a5;refine⟨_,a3 (c5 (rA (lz (kC (aj 0) T.dr T.FE cv dW T.AO.b .nil bG (aB (aj 1) aJ)))) (bb (bE (du (aB (c3 I T.tf) aJ)))) dd) (a3 (cQ (i:=2) CH.ba I (bA I) (i5 (JK I) I T.lN m5 (aB (qq PySem.F.plainAttrs_dict PySem.F.slot_dict_values PySem.F.type_dict_values Mr (hl (aj 0) T.dr T.tl dB aL T.qP.b .nil bG)) aJ))) (a3 (cQ (i:=3) CH.ba I (bA I) dt) (a3 (i6 gD I (gm (bH (eo gi (bH (aj 0) I) (aj 1) (λ_ _=>I)) I)) (d9 (i:=4) CH.ba I (bA I)) (bb (c5 (cJ tw (aj 4) (aj 2) me) (bb (fE (iy PySem.F.plainAttrs_list PySem.F.slot_list_remove PySem.F.type_list_remove Mq (aj 2) (aB (aj 4) aJ)))) (bb (w1 (i:=3) CH.ba I (bA I) dt zu))))) (bb (bE (du (aB (aj 3) aJ))))))),?_⟩;obtain⟨aq,b,cI,bx,b5,dv,ei,fM,dm,eT,hy,jx,ja⟩:=id bF;have cZ:eC st (.need i)=fl (jI i st.recipes.length) 2 (r4 st [uq (dw st i.toNat).takes ((cE st).map (dh st))]):=rfl;rw[cZ]at ay;unfold fl at ay;refine⟨_,I,aR,aq,_,I,b5,jy _ _ _ aD aD aD,_,I,aR,r,u,st,i,I,bF,_,I,?_⟩;by_cases ak:jI i st.recipes.length=ah
  ·rw[ak];rw[art ak]at ay;refine eD ?_;obtain⟨n,rfl,aC⟩:=vI ak;rw[show((n:Nat):Int).toNat=n by omega]at ay;obtain⟨pr,lY,ii,bt,ga,bK,cS,hv⟩:=dF.recipe ei aC;refine⟨_,I,aR,aq,_,I,b5,jy _ _ _ aD aD aD,aR,r,u,st,I,bF,g,λH1 d s1 hd nj=>?_⟩;refine⟨.inr (.inr (.inl ⟨I,.inl ⟨_,nj⟩⟩)),d,_,I,I,nj,λi_ o8=>?_⟩;have s2:aw H1 (upd H1 i_ (oN i_ d)):=aw.new o8;refine⟨i_,d,_,I,aW,s2 _ _ nj,λa6 l0=>?_⟩;have ahM:H1 a6=af:=s2.free l0;rw[GU];have s3:=s2.trans (aw.new (o:=.lst (((cE st).map (dh st)).map nm)) l0);have b0:(upd (upd H1 i_ (oN i_ d)) a6 (.lst (((cE st).map (dh st)).map nm))) a6=U (.lst (((cE st).map (dh st)).map nm)):=aW;generalize(upd (upd H1 i_ (oN i_ d)) a6 (.lst (((cE st).map (dh st)).map nm)))=aZ at*;have fv:=s1.trans s3;have B0:H a6=af:=s1.free ahM;have MB:bt≠a6:=bj cS B0;refine⟨_,I,aR,_,aq,_,_,I,fv _ _ b5,T.dr,T.lq,mc _ _ _,_,I,r,_,_,_,I,I,aI.of (fv _ _ dv),eI (l4 lY),?_⟩;refine⟨pr,_,ii,_,_,I,fv _ _ bK,T.jR,T.oe,ol _ _,bt,I,⟨_,aI.of (fv _ _ cS)⟩,mr (K:=K) (a:=bt) (xs:=(dw st n).takes.map nm) (λj σ ae=>∃(v4:Option V)(m:Nat)(cur:List dq),σ=[U (.ref aR),U (aM n),U (.ref a6),U (aM m),v4]/\ff a6 aZ ae/\ae a6=U (.lst (cur.map nm))/\m+uq ((dw st n).takes.drop j) cur=uq (dw st n).takes ((cE st).map (dh st))) ⟨af,0,_,I,λ_ _ _ e=>e,b0,by rw[Am,rR]⟩ (λj σ ae _ h=>?_) ?_ ?_⟩
   ·obtain⟨_,_,_,_,kb,_⟩:=h;exact aI.of (kb _ _ MB (fv _ _ cS))
   ·rintro j x σ bz bw ⟨v4,m,cur,rfl,kR,bD,hm⟩;obtain⟨a,agN,rfl⟩:∃a,(dw st n).takes[j]? =U a/\nm a=x:=by
     rw[dI]at bw;cases q:(dw st n).takes[j]? with
     |none=>rw[q]at bw;cases bw
     |some a=>rw[q]at bw;exact⟨a,I,bS bw⟩
    obtain⟨rk,ael⟩:=ej.mp agN;rw[kK rk,ael]at hm;rw[aiM,Mh]at hm;refine⟨_,I,_,I,a6,_,I,.inl (aI.of bD),I,TU _,_,I,?_⟩;show if iM (nm a) (cur.map nm)=ah then _ else _
    rw[LC];by_cases fU:a∈cur
    ·rw[arq fU];rw[art fU]at hm;refine d6 ?_;obtain⟨aiu,a7,bc,c_,gN⟩:=XN fU;refine⟨_,I,.inl ⟨I,_,aI.of bD⟩,_,I,a6,_,nm a,aiu,I,I,bD,a7,bc,c_,?_⟩;rw[gN];exact⟨_,m,cur.erase a,I,λc o nn e=>by rw[aY nn];exact kR c o nn e,aW,hm⟩
    ·rw[arp fU];rw[ars fU]at hm;refine eD ?_;have hm:m+(1+uq ((dw st n).takes.drop (j+1)) cur)=_:=hm;refine⟨_,I,_,_,I,I,U (nm a),m+1,cur,?_,kR,bD,aG⟩;show[U (V.ref aR),U (aM n),U (V.ref a6),U (V.int ((m:Int)+1)),U (nm a)]=_;rfl
   ·rintro σ bz ⟨v4,m,cur,rfl,kR,bD,hm⟩;have hd:(dw st n).takes.drop ((dw st n).takes.map nm).length=[]:=by rw[aU];exact xq
    rw[hd]at hm;have hm:m=uq (dw st n).takes ((cE st).map (dh st)):=hm;refine⟨_,I,eH,λq aK=>?_⟩;refine ay.new bF (λc o e=>kR c o (bj e B0) (fv _ _ e)) aK ?_;rw[<-hm];rfl
  ·rw[Jx ak];rw[ars ak]at ay;exact d6 ⟨eH,λq aK=>ay.new bF (aw.refl H) aK I⟩
end
end ck
namespace bL
open PySem PySem.Spec PyProof.Rows
theorem wC{K:PySem.W.Frag}{a:Addr}{xs:List V}{te:TE}{j:Nat}{σ:St}{H1:ax}{D:Addr}{iG:ax->Prop}(ys:List V)(au:aI K H1 a xs)(cg:H1 D=af)(a9:xs.length<=sizeLine)(he:xs.length=ys.length)(ak:∀(i:Nat)(x y:V),xs[i]? =U x->ys[i]? =U y->∀H,aw H1 H->∀Q:c9,(∀ae,aw H ae->Q y ae)->te (σ.set j (U x)) H Q)(hd:∀H,aw H1 H->H D=U (.lst ys)->iG H):xV (mX K a) (mu j) pn te [j] σ H1 D iG:=by
 refine FA (K:=K) (a:=a) (xs:=xs) (λi H=>aw H1 H/\H D=U (.lst (ys.take i))) ⟨aw.new cg,aW⟩ (λi H _ h=>h.1.seq au) ?_ (λH h=>hd H h.1 (by rw[h.2,he,hA]));intro i x H av h;refine⟨xl,?_⟩;unfold pn;dsimp only;rw[art I,C6];obtain⟨h1,_⟩:=ej.mp av;have a_:ys[i]? =U (ys[i]'(aG)):=gB aG;refine ak i x _ av a_ H h.1 _ λae s=>⟨_,s _ _ h.2,?_,(h.1.trans s).put cg,?_⟩
 ·rw[fo];omega
 ·have e:=xf (f:=id) a_;rw[j6,j6]at e;rw[aW,e];rfl
end bL
namespace ck
open PySem PySem.Spec PyProof.Rows bL G
open Vanetm (State Use Recipe recipeAt given_ allNames stock nameOf firstUnit)
abbrev d_(a:dq):Key:=uk (bW (codes a))
theorem LL{a b:dq}(h:d_ a=d_ b):a=b:=Bb (Cm (ab2 h))
def Jj(kvs:List (Key×V))(ws:List (dq×Int)):Prop:=∀a,(eb kvs (d_ a)).getD (.int 0)=.int (uv ws a)
theorem V7:∀(ns:List dq)(l:List Int)(acc:List (Key×V)),ns.Nodup->ns.length=l.length->∀a,eb (ny acc ((ns.map d_).zip (l.map V.int))) (d_ a)=match(ns.zip l).find? (λx=>x.1==a)with|some x=>U (.int x.2)|none=>eb acc (d_ a)
 |[],_,acc,_,_,a=>rfl
 |n::r,[],acc,_,h,a=>by cases h
 |n::r,z::lA,acc,aC,au,a=>by
  have ih:=V7 r lA (putK acc (d_ n) (.int z)) (hz.mp aC).2 (by simpa using au) a;show eb (ny (putK acc (d_ n) (.int z)) ((r.map d_).zip (lA.map V.int))) (d_ a)=_;rw[ih,C4];show _=match List.find? (λx=>x.1==a) ((n,z)::r.zip lA)with|some x=>U (V.int x.2)|none=>eb acc (d_ a)
  rw[nM];by_cases e:n=a
  ·subst e;have ag6:(r.zip lA).find? (λx=>x.1==n)=af:=by
    rw[List.find?_eq_none];intro x ao z;have:x.1=n:=by simpa using z
    have hm:=(Hx (a:=x.1) (b:=x.2) ao).1;rw[this]at hm;exact(hz.mp aC).1 hm
   rw[ag6];simp
  ·have ag:(n==a)=aE:=beq_eq_false_iff_ne.mpr e;simp only[ag];rw[ars (λz=>e (LL z).symm)]
theorem aoT{ns:List dq}{l:List Int}(h:ns.Nodup)(au:ns.length=l.length):Jj (ny [] ((ns.map d_).zip (l.map V.int))) (ns.zip l):=λa=>by
 rw[V7 ns l [] h au a];unfold uv;cases(ns.zip l).find? λx=>x.1==a with
 |none=>rfl
 |some x=>rfl
theorem aoN(ws:List (dq×Int))(l:List dq):k' ws l=(l.map (uv ws)).sum:=by
 unfold k';have key:∀(l:List dq)(z:Int),l.foldl (λn a=>n+uv ws a) z=z+(l.map (uv ws)).sum:=by
  intro l;induction l with
  |nil=>intro z;simp
  |cons a r ih=>intro z;rw[rS,ih,dO,oy];omega
 rw[key,Int.zero_add]
theorem ML:∀l:List dq,DL l=ah↔l.Nodup
 |[]=>by simp[DL]
 |a::r=>by unfold DL;rw[e7,ML r,hz];simp
section
variable{P:b6}{w:bX}{K:PySem.W.Frag}{ap:Str->Option ar}{base:Heap}{A:cu}
theorem Rv:jD "sum"=U (.builtin "sum"):=aD
inductive O9(vs:List V)(H:ax)(Q:c9)(asq:lM):Prop
 |mk (a d:Addr) (l:List dq) (kvs:List (Key×V)) (ws:List (dq×Int)) (h0:vs=[.ref a,.ref d]) (ag:H a=U (.lst (l.map nm))) (ai:l.length<=1000) (aN:H d=U (.cC kvs)) (bD:Jj kvs ws) (cw:∀ae,aw H ae->Q (.int (k' ws l)) ae)
theorem WQ(T:Txt K ap A):a0 P w K ap base a8 1 A.sx A.vZ ["names","weights"] O9:=by
 refine T.uD.F.ok OV (λvs H Q E h=>?_) (λb9 cV outer s H vs Q E aL h=>?_)
 ·obtain⟨_,_,_,_,_,rfl,_⟩:=h;rfl
 ·obtain⟨a,d,l,kvs,ws,rfl,ay,au,hd,hw,k⟩:=h;have a4:=n9 aL;refine⟨_,bb (bE (c4 (RP I) I T.D9 Rv (aB (kB I OV.ba (gm (aj 0)) (ic (own:=[("name",2)]) I) (λ_ _ _ _ _=>d9 (i:=2) OV.ba I (bA I)) (λ_ _ _ _ _=>jY) (λ_ _ _ _ _=>WZ a4 (aj 1) (aj 2) dt ⟨I,I,I,I⟩)) aJ))),?_⟩;refine⟨_,I,a,I,⟨_,aI.of ay⟩,λD cg=>wC ((l.map (uv ws)).map V.int) (aI.of ay) cg (by rw[aU];exact b3 au a5) bl ?_ λH1 s1 ag=>?_⟩
  ·intro i x y ao a_ az s2 h9 bc;obtain⟨b,ak,rfl⟩:∃b,l[i]? =U b/\nm b=x:=by
    rw[dI]at ao;cases q:l[i]? with
    |none=>rw[q]at ao;cases ao
    |some b=>rw[q]at ao;exact⟨b,I,bS ao⟩
   have a_:V.int (uv ws b)=y:=by rw[dI,dI,ak]at a_;exact bS a_
   subst a_;refine⟨_,I,d,I,.inl ⟨kvs,.inl (s2 _ _ hd)⟩,_,I,_,gd.k (k:=d_ b) (s2 _ _ hd),?_⟩;rw[hw b];exact bc az (aw.refl az)
  ·refine⟨D,l.map (uv ws),I,aI.of ag,?_⟩;rw[<-aoN];exact k H1 s1
inductive Yz(A:cu)(vs:List V)(H:ax)(Q:c9)(asq:lM):Prop
 |mk (d r:Addr) (cI:List Addr) (s:State) (kvs:List (Key×V)) (ws:List (dq×Int)) (h0:vs=[.ref d,.ref r]) (ag:H d=U (.cC kvs)) (ai:Jj kvs ws) (aN:H r=U (.lst (cI.map V.ref))) (bD:Paired (RecAt A.gE H) cI s.recipes) (cw:Good s) (e_:∀ae,aw H ae->Q (.bB (Ic ws s)) ae)
theorem akL(T:Txt K ap A):a0 P w K ap base a8 2 A.vf A.yB ["weights","recipes"] (Yz A):=by
 have cv:a0 P w K ap base a8 1 A.sx A.vZ ["names","weights"] O9:=WQ T;refine T.IP.F.ok OM (λvs H Q E h=>?_) (λb9 cV outer s H vs Q E aL h=>?_)
 ·obtain⟨_,_,_,_,_,_,rfl,_⟩:=h;rfl
 ·obtain⟨d,r,cI,st,kvs,ws,rfl,hd,hw,gK,cX,g,k⟩:=h;refine⟨_,bb (bE (c4 (vL I) I T.q4 vJ (aB (kB I OM.ba (gm (aj 1)) (ic (own:=[("recipe",2)]) I) (λ_ _ _ _ _=>d9 (i:=2) OM.ba I (bA I)) (λ_ _ _ _ _=>jY) (λ_ _ _ _ _=>tB gY (c2 cv aL I T.Kw T.uD.F.bJ T.uD.b .nil bG (aB (te:=xe K (pk 2) "takes") (by exact bH (aj 2) I) (aB (aj 0) aJ))) (c2 cv aL I T.Kw T.uD.F.bJ T.uD.b .nil bG (aB (te:=xe K (pk 2) "gives") (by exact bH (aj 2) I) (aB (aj 0) aJ))) (cY _))) aJ))),?_⟩;have au:=Paired.length cX;refine⟨_,I,r,I,⟨_,aI.of gK⟩,λD cg=>wC ((st.recipes.map λbu=>k' ws bu.takes==k' ws bu.gives).map V.bB) (aI.of gK) cg (by rw[aU,au];exact b3 g.lA a5) (by simp[au]) ?_ λH1 s1 ag=>?_⟩
  ·intro i x y ao a_ az s2 h9 bc;obtain⟨p,aO,rfl⟩:∃p,cI[i]? =U p/\V.ref p=x:=by
    rw[dI]at ao;cases q:cI[i]? with
    |none=>rw[q]at ao;cases ao
    |some b=>rw[q]at ao;exact⟨b,I,bS ao⟩
   obtain⟨bu,n7,ii,bt,ga,a1,a2,hi⟩:=Paired.getL cX aO;have a_:V.bB (k' ws bu.takes==k' ws bu.gives)=y:=by rw[dI,dI,n7]at a_;exact bS a_
   subst a_;have fW:=g.hN bu (eN n7);refine⟨_,I,p,_,ii,_,_,I,s2 _ _ a1,T.jR,T.oe,ol _ _,_,I,bt,d,bu.takes,kvs,ws,I,s2 _ _ a2,b3 fW.oq a5,s2 _ _ hd,hw,λaZ s3=>?_⟩;have rF:=s2.trans s3;refine⟨_,I,p,_,ii,_,_,I,rF _ _ a1,T.jR,T.pb,tH _ _,_,I,ga,d,bu.gives,kvs,ws,I,rF _ _ hi,b3 fW.oV a5,rF _ _ hd,hw,λbz s4=>⟨I,?_⟩⟩;have e:V.bB (decide (V.int (k' ws bu.takes)=V.int (k' ws bu.gives)))=V.bB (k' ws bu.takes==k' ws bu.gives):=by
    congr 1;by_cases h:k' ws bu.takes=k' ws bu.gives
    ·rw[h];simp
    ·rw[arp (λz=>h (V.int.inj z))];exact(beq_eq_false_iff_ne.mpr h).symm
   rw[e];exact bc bz (s3.trans s4)
  ·refine⟨D,st.recipes.map λbu=>k' ws bu.takes==k' ws bu.gives,I,aI.of ag,?_⟩;rw[ow];exact k H1 s1
theorem ajB{t:dT}{l:List dq}(h:jF t=U l):l.length<=t.length+1:=by
 have e:=wN t;rw[h]at e;unfold pNames at e;split at e
 ·have:=bS e;have:l.map codes=[]:=this.symm;have:l.length=0:=by simpa using congrArg Ag this
  omega
 ·split at e
  ·have:=congrArg Ag (bS e);have ai:=CV [32] (t.map cm) [] 0;rw[aU]at this ai;omega
  ·cases e
inductive Yx(A:cu)(vs:List V)(H:ax)(Q:c9)(asq:lM):Prop
 |mk (w r u c cF:Addr) (s:State) (t:dT) (l:List Int) (h0:vs=[.ref w,.ref c,.ref cF]) (ag:dF A H w r u s) (ai:Good s) (aN:H c=U (.lst ((jk t).map V.int))) (bD:t.length<=4000) (cw:H cF=U (.lst (l.map V.int))) (e_:l.length<=100) (iW:jh A w r u H Q s (eC s (.weigh t l)))
theorem akI(T:Txt K ap A):a0 P w K ap base a8 4 A.vd A.yy ["workshop","codes","numbers"] (Yx A):=by
 have cv:a0 P w K ap base a8 3 A.q3 A.sF ["text"] GO:=(MK T).mono a5;have dB:a0 P w K ap base a8 1 A.pS A.q' ["codes"] (CU (K:=K)):=FY T;have fQ:a0 P w K ap base a8 2 A.vf A.yB ["weights","recipes"] (Yz A):=akL T;have h8:a0 P w K ap base a8 1 A.sx A.vZ ["names","weights"] O9:=WQ T;have oL:a0 P w K ap base a8 2 A.mj A.m7 ["self"] (rG A):=tu T;refine T.IL.F.ok Gu (λvs H Q E h=>?_) (λb9 cV outer s H vs Q E aL h=>?_)
 ·obtain⟨_,_,_,_,_,_,_,_,rfl,_⟩:=h;rfl
 ·obtain⟨aR,r,u,c,cF,st,t,l,rfl,bF,g,aF,bV,n5,i0,ay⟩:=h;have dW:de 1 _:=aL.mono a5;have gK:de 2 _:=aL.mono a5;refine⟨_,a3 (cQ (i:=3) Gu.ba I (bA I) (c2 cv aL I T.Ku T.uB.F.bJ T.uB.b .nil bG (aB (c2 dB dW I T.ED T.qT.F.bJ T.qT.b .nil bG (aB (aj 1) aJ)) aJ))) (a3 (c5 (ji.pt (rB (cJ l_ (aj 3) gk (cY _)) (rC (cJ rv (c4 Ry I T.dG PySem.boot_len (aB (i5 (RA I) I T.D8 Ru (aB (aj 3) aJ)) aJ)) (c4 eJ I T.dG PySem.boot_len (aB (aj 3) aJ)) (cY _))))) (bb (bE (du (aB (c3 I T.zv) aJ)))) dd) (a3 (c5 (cJ rv (c4 eJ I T.dG PySem.boot_len (aB (aj 2) aJ)) (c4 eJ I T.dG PySem.boot_len (aB (aj 3) aJ)) (cY _)) (bb (bE (du (aB (c3 I T.tf) aJ)))) dd) (a3 (cQ (i:=4) Gu.ba I (bA I) (alu I I T.Jq I T.D_ (aB (aj 3) (aB (aj 2) aJ)))) (a3 (cQ (i:=5) Gu.ba I (bA I) (zQ (lz (c2 fQ gK I T.ae9 T.IP.F.bJ T.IP.b .nil bG (aB (aj 4) (aB (bH (aj 0) I) aJ)))) dt dt)) (bb (bE (du (aB (aj 5) (aB (c2 h8 dW I T.Kw T.uD.F.bJ T.uD.b .nil bG (aB (i5 (JK I) I T.lN m5 (aB (qq PySem.F.plainAttrs_dict PySem.F.slot_dict_values PySem.F.type_dict_values Mr (hl (aj 0) T.dr T.tl oL gK T.qP.b .nil bG)) aJ)) (aB (aj 4) aJ))) aJ))))))))),?_⟩;have au:(jk t).length=t.length:=by simp[jk]
  refine⟨_,I,c,jk t,I,aI.of aF,aG,λH1 s1=>?_⟩;rw[Eb];have a9:(bW (t.map cm)).length+2<=sizeLine:=by rw[e4,aU];exact b3 (show _<=5000 by omega) a5
  have cZ:eC st (.weigh t l)=oJ (jF t) 1 λns=>fl (DL ns) 1 (fl (l.length==ns.length) 2 (.ok (st,[if Ic (ns.zip l) st=ah then 1 else 0,k' (ns.zip l) ((cE st).map (dh st))]))):=rfl;rw[cZ]at ay;have tP:bf.a6 (bW (t.map cm))=t.map cm:=rfl;refine⟨bW (t.map cm),I,a9,λcP az s2=>?_,λns cP az p s2 aO fb=>?_⟩
  ·rw[tP,wN]at cP;have cP:jF t=af:=by
    cases q:jF t with
    |none=>rfl
    |some l=>rw[q]at cP;cases cP
   rw[cP]at ay;exact⟨_,I,I,_,I,d6 (d6 ⟨eH,λl au=>ay.new bF (s1.trans s2) au I⟩)⟩
  ·rw[tP,wN]at cP;obtain⟨nl,kh,rfl⟩:∃l,jF t=U l/\l.map codes=ns:=by
    cases q:jF t with
    |none=>rw[q]at cP;cases cP
    |some l=>rw[q]at cP;exact⟨l,I,bS cP⟩
   rw[kh]at ay;have ay:jh A aR r u H Q st (fl (DL nl) 1 (fl (l.length==nl.length) 2 (.ok (st,[if Ic (nl.zip l) st=ah then 1 else 0,k' (nl.zip l) ((cE st).map (dh st))])))):=ay;unfold fl at ay;have aqz:=ajB kh;have fb:az p=U (.lst (nl.map nm)):=by rw[fb,dn];rfl
   have oS:(nl.map d_).map cc=nl.map nm:=by rw[dn];rfl
   have eh:=s1.trans s2;refine⟨_,I,I,_,I,eD ?_⟩;refine⟨_,I,p,nl.map d_,I,by rw[oS];exact aI.of fb,by rw[aU];omega,λq aK=>?_⟩;have s3:aw az (upd az q (uM q (gj (nl.map d_)).length)):=aw.new aK;have fv:=eh.trans s3;refine⟨q,_,I,aW,_,I,p,_,I,.inl (aI.of (s3 _ _ fb)),I,_,I,?_⟩;rw[aU];have UW:(gj (nl.map d_)).length=nl.length↔nl.Nodup:=by have:=Wv (nl.map d_);rw[aU]at this;rw[this,FN λa _ b _ e=>LL e]
   by_cases ag:nl.Nodup
   ·rw[art ((ML nl).mpr ag)]at ay;refine wy (by rw[UW.mpr ag]) ?_;refine⟨_,I,cF,_,I,.inl (aI.of (fv _ _ n5)),_,I,p,_,I,.inl (aI.of (s3 _ _ fb)),I,_,I,?_⟩;rw[aU,aU];by_cases ai:l.length=nl.length
    ·rw[art (show(l.length==nl.length)=ah by simp[ai])]at ay;refine wy (by rw[ai]) ?_;refine⟨_,I,_,I,p,cF,nl.map d_,l.map V.int,I,by rw[oS];exact aI.of (s3 _ _ fb),aI.of (fv _ _ n5),by simp[ai],λd hd=>?_⟩;have s4:=fv.trans (aw.new (o:=.cC (ny [] ((nl.map d_).zip (l.map V.int)))) hd);have eW:(upd (upd az q (uM q (gj (nl.map d_)).length)) d (.cC (ny [] ((nl.map d_).zip (l.map V.int))))) d=U (.cC (ny [] ((nl.map d_).zip (l.map V.int)))):=aW;generalize(upd (upd az q (uM q (gj (nl.map d_)).length)) d (.cC (ny [] ((nl.map d_).zip (l.map V.int)))))=bz at*;have hw:=aoT ag ai.symm;obtain⟨aq,b,cI,bx,b5,dv,ei,fM,dm,eT,hy,jx,ja⟩:=bF.grow s4;refine⟨_,I,_,I,aR,_,aq,_,_,I,b5,T.dr,T.lq,mc _ _ _,d,r,cI,st,_,_,I,eW,hw,dv,ei,g,λcb s5=>⟨_,I,?_⟩⟩;have hO:=s4.trans s5;have BB:=bF.grow hO;obtain⟨R2,A5,arb,arc,x1,x2,pv,xm,md,C8,xn,PD,PE⟩:=id BB;cases aH:Ic (nl.zip l) st with
     |true=>rw[aH,art I]at ay;refine d6 ?_;refine⟨_,I,_,I,aR,R2,_,I,x1,jy _ _ _ aD aD aD,aR,r,u,st,I,BB,g,λdj sd c6 ahG wu=>?_⟩;refine⟨.inr (.inr (.inl ⟨I,.inl ⟨_,wu⟩⟩)),sd,_,I,I,wu,λi_ o8=>?_⟩;refine⟨i_,sd,_,I,aW,(aw.new o8) _ _ wu,λa6 l0=>?_⟩;rw[GU];have dp:=(aw.new (o:=oN i_ sd) o8).trans (aw.new (o:=.lst (((cE st).map (dh st)).map nm)) l0);have Nm:=(hO.trans c6).trans dp;refine⟨_,I,a6,d,(cE st).map (dh st),_,_,I,aW,by rw[aU];exact b3 (rH g) a5,dp _ _ (c6 _ _ (s5 _ _ eW)),hw,λgr j0=>⟨iC,λq aK=>ay.new bF (Nm.trans j0) aK I⟩⟩
     |false=>rw[aH,ars eM]at ay;refine eD ?_;refine⟨_,I,_,I,aR,R2,_,I,x1,jy _ _ _ aD aD aD,aR,r,u,st,I,BB,g,λdj sd c6 ahG wu=>?_⟩;refine⟨.inr (.inr (.inl ⟨I,.inl ⟨_,wu⟩⟩)),sd,_,I,I,wu,λi_ o8=>?_⟩;refine⟨i_,sd,_,I,aW,(aw.new o8) _ _ wu,λa6 l0=>?_⟩;rw[GU];have dp:=(aw.new (o:=oN i_ sd) o8).trans (aw.new (o:=.lst (((cE st).map (dh st)).map nm)) l0);have Nm:=(hO.trans c6).trans dp;refine⟨_,I,a6,d,(cE st).map (dh st),_,_,I,aW,by rw[aU];exact b3 (rH g) a5,dp _ _ (c6 _ _ (s5 _ _ eW)),hw,λgr j0=>⟨iC,λq aK=>ay.new bF (Nm.trans j0) aK I⟩⟩
    ·rw[ars (show¬(l.length==nl.length)=ah by simp[ai])]at ay;have aC:(!decide (V.int (l.length:Nat)=V.int (nl.length:Nat)))=ah:=by rw[arp (λz=>ai (by have:=V.int.inj z;omega))];rfl
     refine d5 (λ_=>?_) (λz=>aro aC z);exact⟨eH,λq aK=>ay.new bF fv aK I⟩
   ·rw[ars (λz=>ag ((ML nl).mp z))]at ay;have aC:(!decide (V.int ((gj (nl.map d_)).length:Nat)=V.int (nl.length:Nat)))=ah:=by rw[arp (λz=>ag (UW.mp (by have:=V.int.inj z;omega)))];rfl
    refine d5 (λ_=>?_) (λz=>aro aC z);exact⟨eH,λq aK=>ay.new bF fv aK I⟩
end
theorem Rr:jD "min"=U (.builtin "min"):=aD
theorem LB(n:Nat):∀l:List Nat,iM (aM n) (l.map aM)=l.contains n
 |[]=>rfl
 |m::r=>by have ih:=LB n r;show(((m:Nat):Int)==((n:Nat):Int)||iM (aM n) (r.map aM))=_;rw[ih,List.contains_cons];congr 1;rw[mf];simp;omega
theorem TS(l:List Nat):(l.map aM).all oT=ah:=by rw[ow,jA];intro a _;rfl
theorem ajf{l:List Nat}(h:l.Pairwise (·<·)){m:Int}(ag:m∈l.map λn:Nat=>(n:Int))(ai:∀y∈l.map (λn:Nat=>(n:Int)),m<=y):∃a r,l=a::r/\m=(a:Int):=by
 cases l with
 |nil=>cases ag
 |cons a r=>
  refine⟨a,r,I,?_⟩;have aS:=ai (a:Int) (eB _);rcases ek.mp ag with e|e
  ·exact e
  ·obtain⟨b,ak,rfl⟩:=fq.mp e;have:=(qF.mp h).1 b ak;omega
def fits(s:State)(a:dq)(us:List Nat)(n:Nat):Bool:=(dh s n==a)&&!us.contains n
theorem aeE(s:State)(a:dq)(us l:List Nat):l.filter (fits s a us)=(l.filter λn=>!us.contains n).filter λn=>dh s n==a:=by rw[PK];rfl
section
variable{P:b6}{w:bX}{K:PySem.W.Frag}{ap:Str->Option ar}{base:Heap}{A:cu}
inductive YL(vs:List V)(H:ax)(Q:c9)(asq:lM):Prop
 |mk (d bt:Addr) (s:State) (ns:List dq) (h0:vs=[.ref d,.ref bt]) (ag:H d=U (.cC (gA s))) (ai:Good s) (aN:H bt=U (.lst (ns.map nm))) (bD:ns.length<=1000) (cw:(iQ s ns (cE s)=af->∀ae,aw H ae->Q .bZ ae)) (e_:∀us,iQ s ns (cE s)=U us->∀ae p,aw H ae->H p=af->ae p=U (.lst (us.map aM))->Q (.ref p) ae)
theorem akX(T:Txt K ap A):a0 P w K ap base a8 1 A.vo A.yK ["stock","names"] YL:=by
 refine T.IY.F.ok CK (λvs H Q E h=>?_) (λb9 cV outer s H vs Q E aL h=>?_)
 ·obtain⟨_,_,_,_,rfl,_⟩:=h;rfl
 ·obtain⟨d,bt,st,ns,rfl,hd,g,BZ,ip,dS,co⟩:=h;have a4:=n9 aL;refine⟨_,a3 (cQ (i:=2) CK.ba I (qH I) (du aJ)) (a3 (i6 gD I (gm (aj 1)) (d9 (i:=3) CK.ba I (qH I)) (a3 (M3 (Cz (i:=4) I CK.ba I I (CY I I I I) (alF (aj 0)) (ic (own:=[("unit",5)]) I) (λ_ _ _ _ _=>d9 (i:=5) CK.ba I (bA I)) (λ_ _ _ _ _=>Gb (ji.pt (M7 (cJ gY (zO a4 (aj 0) (aj 5) (λ_ _=>I)) (aj 3) (cY _)) (M8 (cJ (r:=Gg K ah) WT (aj 5) (aj 2) me))))) (λ_ _ _ _ _=>aj 5))) (a3 (c5 (cJ gY (c4 eJ I T.dG PySem.boot_len (aB (aj 4) aJ)) dt (cY _)) (bb (bE gk)) dd) (bb (fE (iy PySem.F.plainAttrs_list PySem.F.slot_list_append PySem.F.type_list_append mI (aj 2) (aB (c4 (adA I) I T.D6 Rr (aB (aj 4) aJ)) aJ))))))) (bb (bE (aj 2)))),?_⟩;refine⟨ec _,λup nt=>?_⟩;have s0:aw H (upd H up (.lst [])):=aw.new nt;have ajO:d≠up:=bj hd nt;have MB:bt≠up:=bj BZ nt;refine⟨_,I,bt,I,⟨_,aI.of (s0 _ _ BZ)⟩,mr (K:=K) (a:=bt) (xs:=ns.map nm) (λi σ ae=>asy λ(eL v4 ho:Option V)(us:List Nat)=>σ=[U (.ref d),U (.ref bt),U (.ref up),eL,v4,ho]/\aw H ae/\ae up=U (.lst (us.map aM))/\us.length<=i/\(iQ st (ns.drop i) ((cE st).filter λn=>!us.contains n)).map (us++·)=iQ st ns (cE st)) ⟨af,af,af,[],I,s0,aW,bR _,?_⟩ (λi σ ae _ h=>?_) ?_ ?_⟩
  ·rw[rR];have e:(cE st).filter (λn=>!([]:List Nat).contains n)=cE st:=aai.mpr λ_ _=>I;rw[e];cases iQ st ns (cE st)<;>rfl
  ·obtain⟨_,_,_,_,_,s1,_⟩:=h;exact aI.of (s1 _ _ BZ)
  ·rintro i x σ H1 av ⟨eL,v4,ho,us,rfl,s1,ag,Lu,aO⟩;obtain⟨a,ay,rfl⟩:∃a,ns[i]? =U a/\nm a=x:=by
    rw[dI]at av;cases q:ns[i]? with
    |none=>rw[q]at av;cases av
    |some a=>rw[q]at av;exact⟨a,I,bS av⟩
   obtain⟨h1,J9⟩:=ej.mp ay;rw[kK h1,J9]at aO;obtain⟨Xd,Xe⟩:=alI aO;rw[<-aeE]at Xd Xe;have nj:=s1 _ _ hd;refine⟨d,_,nj,trivial,λcO=>?_⟩;generalize jo:upd H1 d (.dV cO (.cC (gA st)))=az;have pZ:az d=U (.dV cO (.cC (gA st))):=by rw[<-jo,aW]
   have aet:az up=U (.lst (us.map aM)):=by rw[<-jo,aY (bQ ajO)];exact ag
   have rl:(gA st).length=(cE st).length:=by unfold gA mF;rw[aU]
   have Vb:=rH g;refine⟨_,I,d,cO,I,.inl ⟨_,pZ,λD cg=>Fz (J:=Ja d cO (gA st)) (n:=(gA st).length) (λj ae=>aw az ae/\ae D=U (.lst ((((cE st).take j).filter (fits st a us)).map aM))) ⟨aw.new cg,by rw[aW];rfl⟩ (λj ae bw p=>⟨p.1 _ _ pZ,bw⟩) (λae p=>⟨p.1 _ _ pZ,bR _⟩) ?_ ?_⟩⟩
   ·rintro j aZ x xT bw ⟨s3,aN⟩ ⟨rfl,k,v,aH,rfl⟩;obtain⟨n,aC,rfl,rfl⟩:∃n,(cE st)[j]? =U n/\dH n=k/\nm (dh st n)=v:=by
     unfold gA mF at aH;rw[dI]at aH;cases q:(cE st)[j]? with
     |none=>rw[q]at aH;cases aH
     |some n=>rw[q]at aH;have:=bS aH;exact⟨n,I,(qI this).1,(qI this).2⟩
    refine⟨xl,?_⟩;have mx:=eN aC;have B3:eb (gA st) (dH n)=U (nm (dh st n)):=xi (f:=dH) (λa b z=>tb z) mx;have Be:gd xT d (cc (dH n)) (U (nm (dh st n))):=.inl ⟨gA st,dH n,.inr ⟨cO,s3 _ _ pZ⟩,I,B3.symm⟩;have hY:=j1 aC;have tail:∀b:Bool,b=fits st a us n->(if b=ah then(∃acc,xT D=U (.lst acc)/\acc.length<sizeLine/\aw az (upd xT D (.lst (acc++[aM n])))/\(upd xT D (.lst (acc++[aM n]))) D=U (.lst ((((cE st).take (j+1)).filter (fits st a us)).map aM)))else(aw az xT/\xT D=U (.lst ((((cE st).take (j+1)).filter (fits st a us)).map aM)))):=by
     rintro b rfl;rw[hY,Dd];cases q:fits st a us n with
     |true=>
      refine d6 ⟨_,aN,?_,s3.put cg,?_⟩
      ·rw[aU];have:=tZ (fits st a us) ((cE st).take j);rw[fo]at this;exact jw aG
      ·rw[aW,eU];simp[q]
     |false=>refine eD ⟨s3,?_⟩;rw[aN];simp[q]
    refine⟨_,I,_,I,d,_,I,Be,_,I,I,_,I,?_⟩;rw[rb];by_cases cw:dh st n=a
    ·rw[arq (congrArg codes cw)];refine d6 ⟨_,I,_,I,up,_,I,.inl (aI.of (s3 _ _ aet)),I,TS _,_,I,?_⟩;have e9:(!iM (aM n) (us.map aM))=fits st a us n:=by rw[LB];unfold fits;simp[cw]
     have t:=tail _ e9;show if(!iM (aM n) (us.map aM))=ah then _ else _
     by_cases e_:(!iM (aM n) (us.map aM))=ah
     ·rw[art e_]at t⊢;obtain⟨acc,a7,bc,c_,gN⟩:=t;exact⟨_,I,acc,a7,bc,c_,gN⟩
     ·rw[ars e_]at t⊢;exact t
    ·rw[arp (λz=>cw (Bb z))];have t:=tail aE (by unfold fits;simp[cw]);exact eD (eD t)
   ·rintro aZ ⟨s3,aN⟩;rw[rl,hA]at aN;have eq3:aZ d=U (.dV cO (.cC (gA st))):=s3 _ _ pZ;have afM:D≠d:=bQ (bj pZ cg);refine⟨eq3,?_⟩;generalize ik:upd aZ d (.cC (gA st))=bz;have s4:aw H1 bz:=λc o e=>by
     by_cases aF:c=d
     ·subst aF;rw[<-ik,aW,<-nj];exact e
     ·rw[<-ik,aY aF];refine s3 _ _ ?_;rw[<-jo,aY aF];exact e
    have bD:bz D=U (.lst (((cE st).filter (fits st a us)).map aM)):=by rw[<-ik,aY afM];exact aN
    refine⟨_,I,D,_,I,.inl (aI.of bD),I,_,I,?_⟩;rw[aU];cases q:(cE st).filter (fits st a us)with
    |nil=>exact d6 (dS (Xd q) bz (s1.trans s4))
    |cons m t=>
     refine d5 (λz=>?_) (λ_=>?_)
     ·have:=V.int.inj (aru z);rw[cW]at this;omega
     have ahH:((cE st).filter (fits st a us)).Pairwise (·<·):=Hl _ (anx st);have em:((cE st).filter (fits st a us)).map aM=(((cE st).filter (fits st a us)).map λn:Nat=>(n:Int)).map V.int:=by rw[dn];rfl
     rw[em]at bD;refine⟨_,I,.inl ⟨I,_,aI.of (s4 _ _ ag)⟩,_,I,D,_,I,aI.of bD,by rw[aU,q];exact Dj _,λaq1 ag0 Lg=>?_⟩;obtain⟨uP,r',kh,rfl⟩:=ajf ahH ag0 Lg;rw[q]at kh;obtain⟨rfl,rfl⟩:=fN kh;refine⟨up,_,_,I,I,s4 _ _ ag,?_,?_⟩
     ·rw[aU];exact jw aG
     refine⟨_,_,_,us++[m],I,(s1.trans s4).put nt,by rw[aW,eU];rfl,by rw[cA,j5];omega,?_⟩;rw[<-Xe m t q];congr 1;rw[PK];congr 1;refine Ho λx _=>?_;rw[mf];simp;constructor
     ·rintro⟨ag,ai⟩;exact⟨ai,ag⟩
     ·rintro⟨ag,ai⟩;exact⟨ai,ag⟩
  ·rintro σ H1 ⟨eL,v4,ho,us,rfl,s1,ag,Lu,aO⟩;have kW:ns.drop (ns.map nm).length=[]:=by rw[aU];exact xq
   rw[kW]at aO;have aO:U (us++[])=iQ st ns (cE st):=aO;rw[iP]at aO;exact⟨_,I,co us aO.symm H1 up s1 nt ag⟩
theorem h7.trans{w r u:Addr}{H H1 az:ax}(a:h7 w r u H H1)(b:h7 w r u H1 az):h7 w r u H az:=λc o h b' cB en=>b c o (a c o h b' cB en) b' cB en
theorem dF.done{H:ax}{aR r u x:Addr}{s:State}{us:Use}(bF:dF A H aR r u s)(g:Good s)(ao:mi A.fg H x us)(ag:1<=us.units.length){bx:List Addr}(a4:H u=U (.lst (bx.map V.ref))):dF A (upd H u (.lst (bx.map V.ref++[V.ref x]))) aR r u (AH s us)/\h7 aR r u H (upd H u (.lst (bx.map V.ref++[V.ref x]))):=by
 obtain⟨aq,b,cI,rK,b5,dv,ei,fM,dm,eT,hy,jx,ja⟩:=bF;have e:rK=bx:=by rw[dm]at a4;have:=dE.lst.inj (bS a4);have inj:∀a b:List Addr,a.map V.ref=b.map V.ref->a=b:=λa b h=>PR (λx y e=>V.ref.inj e)|>.mp h;exact inj _ _ this
 subst e;have b':u≠aR:=cH dm b5 df;have hk:∀y o,H y=U o->y≠u->(upd H u (.lst (rK.map V.ref++[V.ref x]))) y=U o:=λy o e n=>by rw[aY n];exact e
 have k:h7 aR r u H (upd H u (.lst (rK.map V.ref++[V.ref x]))):=λy o e _ _ n=>hk y o e n;refine⟨⟨aq,b,cI,rK++[x],hk _ _ b5 (bQ b'),hk _ _ dv ja,w5 ei g.hN b5 dv dm k,hk _ _ fM jx,by rw[aW,eU];rfl,z9 (Paired.app eT (.cons ao .nil)) (λy a_=>?_) b5 dv dm k,hy,jx,ja⟩,k⟩;rcases gn.mp a_ with a_|a_
 ·exact(g.gP y a_).2.1
 ·rw[gp.mp a_];exact ag
theorem dF.Jw{H:ax}{aR r u aq b:Addr}{s:State}(bF:dF A H aR r u s)(h:H aR=U (.ins A.e1 aq (fx (.ref r) (.ref b) (.ref u)))):∃cI bx:List Addr,H r=U (.lst (cI.map V.ref))/\Paired (RecAt A.gE H) cI s.recipes/\H b=U (.lst (s.first.map nm))/\H u=U (.lst (bx.map V.ref))/\Paired (mi A.fg H) bx s.uses/\b≠r/\b≠u/\r≠u:=by
 obtain⟨lQ,A4,cI,bx,b5,bc,c_,gN,k1,i7,tE⟩:=bF;have e:A4=b:=by
  rw[b5]at h;have aQ:=(dE.ins.inj (bS h)).2.2;have b0:(fx (.ref r) (.ref A4) (.ref u)).lookup ("beginning":Str)=(fx (.ref r) (.ref b) (.ref u)).lookup ("beginning":Str):=by rw[aQ]
  rw[tX,tX]at b0;exact V.ref.inj (bS b0)
 subst e;exact⟨cI,bx,bc,c_,gN,k1,i7,tE⟩
inductive Yn(A:cu)(vs:List V)(H:ax)(Q:c9)(asq:lM):Prop
 |mk (w r u c:Addr) (s:State) (l:List Int) (h0:vs=[.ref w,.ref c]) (ag:dF A H w r u s) (ai:Good s) (aN:H c=U (.lst (l.map V.int))) (bD:l.length<=100) (cw:c≠r) (e_:c≠u) (iW:jh A w r u H Q s (eC s (.follow l)))
theorem aky(T:Txt K ap A):a0 P w K ap base a8 3 A.u3 A.yn ["workshop","course"] (Yn A):=by
 have cv:a0 P w K ap base a8 1 A.pO A.q7 ["self","number"] (CS A):=FW T;have dB:a0 P w K ap base a8 2 A.mj A.m7 ["self"] (rG A):=tu T;have fQ:a0 P w K ap base a8 1 A.vo A.yK ["stock","names"] YL:=akX T;have oL:a0 P w K ap base a8 1 A.qZ A.sA ["self","recipe_number","units"] (GI A.fg):=MG T;refine T.IB.F.ok zY (λvs H Q E h=>?_) (λb9 cV outer s H vs Q E aL h=>?_)
 ·obtain⟨_,_,_,_,_,_,rfl,_⟩:=h;rfl
 ·obtain⟨aR,r,u,c,st,l,rfl,bF,g,aF,au,ajK,ajL,ay⟩:=h;have dW:de 1 _:=aL.mono a5;refine⟨_,a3 (c5 (rA (lz (c4 (vL I) I T.q4 vJ (aB (kB I zY.ba (gm (aj 1)) (ic (own:=[("number",3)]) I) (λ_ _ _ _ _=>d9 (i:=3) zY.ba I (bA I)) (λ_ _ _ _ _=>jY) (λ_ _ _ _ _=>kC (aj 0) T.dr T.FE cv dW T.AO.b .nil bG (aB (aj 3) aJ))) aJ)))) (bb (bE (du (aB (c3 I T.tf) aJ)))) dd) (a3 (c5 (cJ nB (fj pd (c4 eJ I T.dG PySem.boot_len (aB (bH (aj 0) I) aJ)) (c4 eJ I T.dG PySem.boot_len (aB (aj 1) aJ))) (c3 I T.Ft) (cY _)) (bb (bE (du (aB (c3 I T.tg) aJ)))) dd) (a3 (cQ (i:=2) zY.ba I (bA I) (i5 JJ I T.lN m5 (aB (bH (aj 0) I) aJ))) (a3 (i6 gD I (gm (aj 1)) (d9 (i:=3) zY.ba I (bA I)) (a3 (cQ (i:=4) zY.ba I (bA I) (c2 fQ dW I T.afi T.IY.F.bJ T.IY.b .nil bG (aB (hl (aj 0) T.dr T.tl dB aL T.qP.b .nil bG) (aB (bH (eo gi (bH (aj 0) I) (aj 3) (λ_ _=>I)) I) aJ)))) (a3 (c5 (cJ l_ (aj 4) gk (cY _)) (a3 (hn (aj 0) (aj 2) I) (bb (bE (du (aB (c3 I T.LO) aJ))))) dd) (bb (fE (iy PySem.F.plainAttrs_list PySem.F.slot_list_append PySem.F.type_list_append mI (bH (aj 0) I) (aB (wY T.Mp oL aL I T.Br T.DN.b .nil bG (aB (aj 3) (aB (aj 4) aJ))) aJ))))))) (bb (bE (du (aB (c4 eJ I T.dG PySem.boot_len (aB (bH (aj 0) I) aJ)) aJ))))))),?_⟩;obtain⟨aq,b,cI,bx,b5,dv,ei,fM,dm,eT,hy,jx,ja⟩:=id bF;have iq:(bx.map V.ref).length=st.uses.length:=by rw[aU,Paired.length eT]
  have cZ:eC st (.follow l)=fl (l.all λr=>jI r st.recipes.length) 2 (fl (decide (st.uses.length+l.length<=10)) 5 (oJ (r3 (l.map λr=>r.toNat) st) 3 λt=>.ok (t,hg [t.uses.length]))):=rfl;rw[cZ]at ay;unfold fl at ay;have tW:∀{m:Str}(iO b tT:Addr),¬m="recipes"->¬m="beginning"->¬m="uses"->(fx (.ref iO) (.ref b) (.ref tT)).lookup m=af:=λiO b tT ag ai aN=>jy _ _ _ ag ai aN;refine⟨_,I,c,I,⟨_,aI.of aF⟩,λD cg=>wC ((l.map λr=>jI r st.recipes.length).map V.bB) (aI.of aF) cg (by rw[aU];exact b3 au a5) bl ?_ λH1 s1 ag=>?_⟩
  ·intro i x y ao a_ az s2 h9 bc;obtain⟨z,a9,rfl⟩:∃z,l[i]? =U z/\V.int z=x:=by
    rw[dI]at ao;cases q:l[i]? with
    |none=>rw[q]at ao;cases ao
    |some b=>rw[q]at ao;exact⟨b,I,bS ao⟩
   have a_:V.bB (jI z st.recipes.length)=y:=by rw[dI,dI,a9]at a_;exact bS a_
   subst a_;exact⟨_,I,aR,aq,_,I,s2 _ _ b5,tW _ _ _ aD aD aD,_,I,aR,r,u,st,z,I,bF.grow s2,bc az (aw.refl az)⟩
  ·refine⟨D,l.map λr=>jI r st.recipes.length,I,aI.of ag,_,I,?_⟩;have kf:(l.map λr=>jI r st.recipes.length).all id=l.all λr=>jI r st.recipes.length:=by rw[ow];rfl
   rw[kf];by_cases ak:(l.all λr=>jI r st.recipes.length)=ah
   ·rw[art ak]at ay;rw[ak];refine eD ?_;refine⟨_,I,aR,_,aq,_,_,I,s1 _ _ b5,T.dr,T.ha,jc _ _ _,u,_,I,.inl (aI.of (s1 _ _ dm)),_,I,c,_,I,.inl (aI.of (s1 _ _ aF)),_,_,I,I,_,_,I,I,_,I,?_⟩;rw[iq,aU];refine d5 (λai=>?_) (λai=>?_)
    ·have ai:(10:Int)<(st.uses.length:Int)+(l.length:Int):=aru ai;rw[ars (show¬decide (st.uses.length+l.length<=10)=ah by simp;omega)]at ay;exact⟨eH,λq aK=>ay.new bF s1 aK I⟩
    have ai:¬(10:Int)<(st.uses.length:Int)+(l.length:Int):=λz=>ai (arq z);rw[art (show decide (st.uses.length+l.length<=10)=ah by simp;omega)]at ay;refine⟨_,I,aR,_,aq,_,_,I,s1 _ _ b5,T.dr,T.ha,jc _ _ _,u,_,I,.inl (aI.of (s1 _ _ dm)),λm4 Uw=>?_⟩;have s2:=s1.trans (aw.new (o:=.lst (bx.map V.ref)) Uw);have aQ:(upd H1 m4 (.lst (bx.map V.ref))) m4=U (.lst (bx.map V.ref)):=aW;generalize(upd H1 m4 (.lst (bx.map V.ref)))=az at*;have BE:H m4=af:=s1.free Uw;have Wa:m4≠aR:=bQ (bj b5 BE);have V':m4≠r:=bQ (bj dv BE);have ajG:m4≠u:=bQ (bj dm BE);have ajE:b≠m4:=bj fM BE;have ajM:c≠aR:=cH aF b5 df;refine⟨_,I,c,I,⟨_,aI.of (s2 _ _ aF)⟩,mr (K:=K) (a:=c) (xs:=l.map V.int) (λi σ ae=>∃(eL v4:Option V)(s':State),σ=[U (.ref aR),U (.ref c),U (.ref m4),eL,v4]/\h7 aR r u az ae/\dF A ae aR r u s'/\Good s'/\s'.recipes=st.recipes/\s'.first=st.first/\(∃lQ,ae aR=U (.ins A.e1 lQ (fx (.ref r) (.ref b) (.ref u))))/\s'.uses.length=st.uses.length+i/\r3 ((l.drop i).map λr=>r.toNat) s'=r3 (l.map λr=>r.toNat) st) ⟨af,af,st,I,λ_ _ e _ _ _=>e,bF.grow s2,g,I,I,⟨aq,s2 _ _ b5⟩,I,I⟩ (λi σ ae _ h=>?_) ?_ ?_⟩
    ·obtain⟨_,_,_,_,kb,_⟩:=h;exact aI.of (kb _ _ (s2 _ _ aF) ajM ajK ajL)
    ·rintro i x σ aZ av ⟨eL,v4,s',rfl,iU,sO,g3,ki,g8,⟨oR,x1⟩,hlen,fB⟩;obtain⟨z,a9,rfl⟩:∃z,l[i]? =U z/\V.int z=x:=by
      rw[dI]at av;cases q:l[i]? with
      |none=>rw[q]at av;cases av
      |some b=>rw[q]at av;exact⟨b,I,bS av⟩
     obtain⟨h1,Bi⟩:=ej.mp a9;obtain⟨n,rfl,aC⟩:=vI (jA.mp ak z (eN a9));rw[kK h1,Bi,dO,show((n:Nat):Int).toNat=n by omega]at fB;have fB:((iQ s' (dw s' n).takes (cE s')).bind λus=>r3 ((l.drop (i+1)).map λr=>r.toNat) (AH s' {recipe:=n,units:=us}))=r3 (l.map λr=>r.toNat) st:=fB;have BO:n<s'.recipes.length:=by rw[ki];exact aC
     obtain⟨Xx,ZL,x2,pv,xm,md,C8,xn,PD,PE⟩:=sO.Jw x1;obtain⟨pr,lY,ii,bt,ga,bK,cS,hv⟩:=dF.recipe pv BO;have fW:=g3.recAt BO;refine⟨_,I,aR,oR,_,I,x1,tW _ _ _ aD aD aD,aR,r,u,s',I,sO,g3,λbz d s4 hd K3=>?_⟩;refine⟨_,I,aR,_,oR,_,_,I,s4 _ _ x1,T.dr,T.lq,mc _ _ _,_,I,r,_,_,_,I,I,aI.of (s4 _ _ x2),eI (l4 lY),?_⟩;refine⟨pr,_,ii,_,_,I,s4 _ _ bK,T.jR,T.oe,ol _ _,d,bt,s',(dw s' n).takes,I,K3,g3,s4 _ _ cS,b3 fW.oq a5,λcP cb s5=>?_,λus cP cb p s5 aO ahi=>?_⟩
     ·rw[cP]at fB;have fB:r3 (l.map λr=>r.toNat) st=af:=fB.symm;rw[fB]at ay;have hO:=s4.trans s5;have kp:h7 aR r u az cb:=iU.trans (h7.of hO);refine⟨_,I,I,_,I,d6 ?_⟩;refine⟨_,I,_,I,aR,_,oR,_,I,hO _ _ x1,T.dr,T.ha,C7 _ _ _,?_⟩;rw[Hc];refine⟨eH,λq aK=>?_⟩;generalize p6:upd cb aR (.ins A.e1 oR (fx (.ref r) (.ref b) (.ref m4)))=dj at*;have i3:∀y o,cb y=U o->y≠aR->dj y=U o:=λy o e n=>by rw[<-p6,aY n];exact e
      have i2:h7 aR r u cb dj:=λy o e n _ _=>i3 y o e n;have R9:dj aR=U (.ins A.e1 oR (fx (.ref r) (.ref b) (.ref m4))):=by rw[<-p6,aW]
      have dp:aw dj (upd dj q (.lst [V.int (-3)])):=aw.new aK;have ad9:cb m4=U (.lst (bx.map V.ref)):=kp _ _ aQ Wa V' ajG;have iB:Paired (mi A.fg az) bx st.uses:=Paired.imp eT λ_ _ _ h=>h.same s2;have aot:=z9 iB (λx ao=>(g.gP x ao).2.1) (s2 _ _ b5) (s2 _ _ dv) (s2 _ _ dm) kp;have aou:=z9 aot (λx ao=>(g.gP x ao).2.1) (hO _ _ x1) (hO _ _ x2) (hO _ _ md) i2;have jt:=w5 (Paired.imp pv λ_ _ _ h=>h.same hO) g3.hN (hO _ _ x1) (hO _ _ x2) (hO _ _ md) i2;rw[ki]at jt;rw[g8]at xm;have FQ:r≠aR:=cH x2 x1 df;have ajH:b≠aR:=cH xm x1 df;refine ay _ q m4 (λy o e b' cB en=>dp _ _ (i2 y o (kp y o (s2 _ _ e) b' cB en) b' cB en)) ⟨oR,b,Xx,bx,dp _ _ R9,dp _ _ (i3 _ _ (hO _ _ x2) FQ),Paired.imp jt λ_ _ _ h=>h.same dp,dp _ _ (i3 _ _ (hO _ _ xm) ajH),dp _ _ (i3 _ _ ad9 Wa),Paired.imp aou λ_ _ _ h=>h.same dp,xn,ajE,bQ V'⟩ (.inr BE) ?_ (by rw[aW];rfl);cases z:H q with
      |none=>rfl
      |some o=>
       by_cases b':q=aR
       ·rw[b',R9]at aK;cases aK
       ·by_cases cB:q=r
        ·rw[cB,i3 _ _ (hO _ _ x2) FQ]at aK;cases aK
        ·by_cases en:q=u
         ·have MD:u≠aR:=cH md x1 df;rw[en,i3 _ _ (hO _ _ md) MD]at aK;cases aK
         ·rw[i2 _ _ (kp _ _ (s2 _ _ z) b' cB en) b' cB en]at aK;cases aK
     ·rw[cP]at fB;have hO:=s4.trans s5;refine⟨_,I,I,_,I,eD ?_⟩;refine⟨_,I,aR,_,oR,_,_,I,hO _ _ x1,T.dr,T.ha,jc _ _ _,.inl ⟨I,_,aI.of (hO _ _ md)⟩,_,I,_,I,?_⟩;intro x hX cN nA wO;refine⟨x,hX,_,_,I,aW,I,?_⟩;rw[tR];have c6:aw cb (upd (upd cb hX (.own x)) x (.ins A.fg hX (kH (aM n) (.ref p)))):=λy o e=>by rw[aY (bj e cN),aY (bj e nA)];exact e
      have aev:(upd (upd cb hX (.own x)) x (.ins A.fg hX (kH (aM n) (.ref p)))) x=U (.ins A.fg hX (kH (aM n) (.ref p))):=aW;generalize(upd (upd cb hX (.own x)) x (.ins A.fg hX (kH (aM n) (.ref p))))=dj at*;have qs:=hO.trans c6;obtain⟨W7,alJ,alK⟩:=M0 s' (dw s' n).takes (cE s') us (Pf s') cP;have Lu:1<=us.length:=by rw[W7];exact fW.t1
      obtain⟨af2,aix⟩:=(sO.grow qs).done g3 (us:={recipe:=n,units:=us}) ⟨hX,p,aev,c6 _ _ ahi⟩ Lu (qs _ _ md);have dD:s'.uses.length<10:=by have:=h1;omega
      refine⟨u,_,_,I,I,qs _ _ md,?_,?_⟩
      ·rw[aU,Paired.length C8];exact jw aG
      have MD:u≠aR:=cH md x1 df;refine⟨_,_,AH s' {recipe:=n,units:=us},I,iU.trans ((h7.of qs).trans aix),af2,Kz g3 BO W7 alJ alK dD,ki,g8,⟨oR,?_⟩,?_,fB⟩
      ·rw[aY (bQ MD)];exact qs _ _ x1
      ·show(s'.uses++[_]).length=_;rw[cA,j5,hlen];omega
    ·rintro σ aZ ⟨eL,v4,s',rfl,iU,sO,g3,ki,g8,⟨oR,x1⟩,hlen,fB⟩;have kW:l.drop (l.map V.int).length=[]:=by rw[aU];exact xq
     rw[kW]at fB;have fB:U s'=r3 (l.map λr=>r.toNat) st:=fB;rw[<-fB]at ay;obtain⟨Xx,ZL,x2,pv,xm,md,C8,xn,PD,PE⟩:=sO.Jw x1;refine⟨_,I,aR,_,oR,_,_,I,x1,T.dr,T.ha,jc _ _ _,u,_,I,.inl (aI.of md),eH,λq aK=>?_⟩;have dp:aw aZ (upd aZ q (.lst [aM (ZL.map V.ref).length])):=aw.new aK;refine ay _ q u ((λy o e b' cB en=>dp _ _ (iU y o (s2 _ _ e) b' cB en))) (sO.grow dp) (.inl I) ?_ ?_
     ·cases z:H q with
      |none=>rfl
      |some o=>
       by_cases b':q=aR
       ·rw[b',x1]at aK;cases aK
       ·by_cases cB:q=r
        ·rw[cB,x2]at aK;cases aK
        ·by_cases en:q=u
         ·rw[en,md]at aK;cases aK
         ·rw[iU _ _ (s2 _ _ z) b' cB en]at aK;cases aK
     ·rw[aW,aU,Paired.length C8];rfl
   ·have sR:(l.all λr=>jI r st.recipes.length)=aE:=by simpa using ak
    rw[ars ak]at ay;rw[sR];exact d6 ⟨eH,λq aK=>ay.new bF s1 aK I⟩
end
def lr(l:List Nat):List (Key×V):=l.map λn=>(dH n,aM (l.idxOf n))
theorem Wz{l:List Nat}{n:Nat}(h:n∈l):eb (lr l) (dH n)=U (aM (l.idxOf n)):=xi (f:=dH) (λa b z=>tb z) h
theorem Wy{l:List Nat}{n:Nat}(h:n∉l):eb (lr l) (dH n)=af:=G' λa ay z=>h (tb z▸ay)
theorem akf{l:List Nat}{m:Nat}(h:m∉l):putK (lr l) (dH m) (aM l.length)=lr (l++[m]):=by
 rw[CC _ (Wy h)];unfold lr;rw[eU];congr 1
 ·refine jB λn aC=>?_;rw[Vh aC]
 ·show[(dH m,aM l.length)]=[(dH m,aM ((l++[m]).idxOf m))];rw[aan];simp[h]
theorem Wx(l:List Nat):(lr l).length=l.length:=by unfold lr;rw[aU]
def ls(u g p n:V):List (Str×V):=bY "new_numbers" n (bY "places" p (bY "old_units" g (bY "old_uses" u [])))
theorem F2(u g p n:V):(ls u g p n).lookup ("old_uses":Str)=U u:=by unfold ls;rw[el,ars aD,el,ars aD,el,ars aD,el,art I]
theorem ali(u g p n:V):(ls u g p n).lookup ("old_units":Str)=U g:=by unfold ls;rw[el,ars aD,el,ars aD,el,art I]
theorem MP(u g p n:V):(ls u g p n).lookup ("places":Str)=U p:=by unfold ls;rw[el,ars aD,el,art I]
theorem F1(u g p n:V):(ls u g p n).lookup ("new_numbers":Str)=U n:=by unfold ls;rw[el,art I]
theorem rx(u g p n:V){m:Str}(ag:¬m="old_uses")(ai:¬m="old_units")(aN:¬m="places")(bD:¬m="new_numbers"):(ls u g p n).lookup m=af:=by unfold ls;rw[el,ars bD,el,ars aN,el,ars ai,el,ars ag];rfl
structure xW(A:cu)(c8:ax)(u b_:Addr)(s:State)(d8 bx:List Addr):Prop where
 us:c8 u=U (.lst (bx.map V.ref))
 bx:Paired (mi A.fg c8) bx s.uses
 b_:c8 b_=U (.lst (d8.map V.ref))
 d8:Q2 c8 d8 s
def m1(A:cu)(H:ax)(o u b_ pl nn:Addr)(s:State)(ps:List Nat):Prop:=∃(c8:ax)(aq:Addr)(d8 bx:List Addr),xW A c8 u b_ s d8 bx/\c8 o=af/\c8 pl=af/\c8 nn=af/\aw c8 H/\H o=U (.ins A.et aq (ls (.ref u) (.ref b_) (.ref pl) (.ref nn)))/\H pl=U (.lst (ps.map aM))/\H nn=U (.cC (lr (b8 s ps)))
theorem m1.grow{A:cu}{H ae:ax}{o u b_ pl nn:Addr}{s:State}{ps:List Nat}(h:m1 A H o u b_ pl nn s ps)(e:aw H ae):m1 A ae o u b_ pl nn s ps:=by obtain⟨c8,aq,d8,bx,ag,ai,aN,bD,cw,e_,iW,sM⟩:=h;exact⟨c8,aq,d8,bx,ag,ai,aN,bD,cw.trans e,e _ _ e_,e _ _ iW,e _ _ sM⟩
def m2(A:cu)(H:ax)(o u b_ pl nn:Addr)(s:State)(ps:List Nat)(lf:Addr):Prop:=∃(c8:ax)(aq:Addr)(d8 bx:List Addr),xW A c8 u b_ s d8 bx/\c8 o=af/\c8 pl=af/\c8 nn=af/\aw c8 H/\H o=U (.ins A.et aq (ls (.ref u) (.ref b_) (.ref pl) (.ref nn)))/\H pl=U (.lst (ps.map aM))/\H nn=U (.cC (lr (b8 s ps)))/\c8 lf=af
theorem m2.at{A:cu}{H:ax}{o u b_ pl nn lf:Addr}{s:State}{ps:List Nat}(h:m2 A H o u b_ pl nn s ps lf):m1 A H o u b_ pl nn s ps:=by obtain⟨c8,aq,d8,bx,ag,ai,aN,bD,cw,e_,iW,sM,_⟩:=h;exact⟨c8,aq,d8,bx,ag,ai,aN,bD,cw,e_,iW,sM⟩
theorem m2.grow{A:cu}{H ae:ax}{o u b_ pl nn lf:Addr}{s:State}{ps:List Nat}(h:m2 A H o u b_ pl nn s ps lf)(e:aw H ae):m2 A ae o u b_ pl nn s ps lf:=by obtain⟨c8,aq,d8,bx,ag,ai,aN,bD,cw,e_,iW,sM,zb⟩:=h;exact⟨c8,aq,d8,bx,ag,ai,aN,bD,cw.trans e,e _ _ e_,e _ _ iW,e _ _ sM,zb⟩
theorem m2.put{A:cu}{H:ax}{o u b_ pl nn lf:Addr}{s:State}{ps:List Nat}{ob:dE}(h:m2 A H o u b_ pl nn s ps lf)(b':o≠lf)(cB:pl≠lf)(en:nn≠lf):m2 A (upd H lf ob) o u b_ pl nn s ps lf:=by obtain⟨c8,aq,d8,bx,ag,ai,aN,bD,cw,e_,iW,sM,zb⟩:=h;exact⟨c8,aq,d8,bx,ag,ai,aN,bD,cw.put zb,by rw[aY b'];exact e_,by rw[aY cB];exact iW,by rw[aY en];exact sM,zb⟩
theorem m2.add{A:cu}{H ae:ax}{o u b_ pl nn lf:Addr}{s:State}{ps Xc:List Nat}(h:m2 A H o u b_ pl nn s ps lf)(k:∀c,c≠pl->c≠nn->ae c=H c)(h':m1 A ae o u b_ pl nn s Xc):m2 A ae o u b_ pl nn s Xc lf:=by obtain⟨c8,aq,d8,bx,ag,ai,aN,bD,cw,e_,iW,sM,zb⟩:=h;obtain⟨_,lQ,_,_,_,_,_,_,_,i2,Cb,Fp⟩:=h';exact⟨c8,lQ,d8,bx,ag,ai,aN,bD,λc ob e=>by rw[k c (bj e aN) (bj e bD)];exact cw _ _ e,i2,Cb,Fp,zb⟩
theorem alj{s:State}(g:Good s){ps:List Nat}(ag:ps.Nodup)(ai:∀p∈ps,p<s.uses.length):(b8 s ps).length<=70:=by
 refine b3 (Cr (n:=cn s s.uses.length) (MQ s ps ag) λn aC=>?_) (Ke g _);rcases Mo.mp aC with h|⟨p,aO,h⟩
 ·have:=n2 s (ec s.uses.length);rw[Et]at this;omega
 ·have:=n2 s (show p+1<=s.uses.length from ai p aO);have:=(zB.mp h).2;omega
section
variable{P:b6}{w:bX}{K:PySem.W.Frag}{ap:Str->Option ar}{base:Heap}{A:cu}
inductive GN(A:cu)(vs:List V)(H:ax)(Q:c9)(asq:lM):Prop
 |mk (o xs aq nn:Addr) (F:List (Str×V)) (l ea:List Nat) (h0:vs=[.ref o,.ref xs]) (ag:H o=U (.ins A.et aq F)) (ai:F.lookup ("new_numbers":Str)=U (.ref nn)) (aN:H nn=U (.cC (lr l))) (bD:H xs=U (.lst (ea.map aM))) (cw:(l++ea).Nodup) (e_:(l++ea).length<=1000) (iW:∀ae,(∀c,c≠nn->ae c=H c)->ae nn=U (.cC (lr (l++ea)))->Q .bZ ae)
theorem WK(T:Txt K ap A):a0 P w K ap base a8 1 A.sh A.vQ ["self","units"] (GN A):=by
 refine T.Im.F.ok X1 (λvs H Q E h=>?_) (λb9 cV outer s H vs Q E aL h=>?_)
 ·obtain⟨_,_,_,_,_,_,_,rfl,_⟩:=h;rfl
 ·obtain⟨o,xs,aq,nn,F,l,ea,rfl,aA,jn,aC,ao,rm,hlen,k⟩:=h;have a4:=n9 aL;refine⟨_,bb (i6 gD I (gm (aj 1)) (d9 (i:=2) X1.ba I (bA I)) (bb (w2 a4 (bH (aj 0) I) (aj 2) (c4 JI I T.dG PySem.boot_len (aB (bH (aj 0) I) aJ)) I))),?_⟩;have bZ:o≠nn:=cH aA aC df;have akg:xs≠nn:=cH ao aC df;refine⟨_,I,xs,I,⟨_,aI.of ao⟩,mr (K:=K) (a:=xs) (xs:=ea.map aM) (λi σ ae=>∃v2:Option V,σ=[U (.ref o),U (.ref xs),v2]/\(∀c,c≠nn->ae c=H c)/\ae nn=U (.cC (lr (l++ea.take i)))) ⟨af,I,λ_ _=>I,by rw[qG,iP];exact aC⟩ (λi σ ae _ h=>?_) ?_ ?_⟩
  ·obtain⟨_,_,s1,_⟩:=h;exact aI.of (by rw[s1 _ akg];exact ao)
  ·rintro i x σ ae av ⟨v2,rfl,s1,ag⟩;obtain⟨m,hm,rfl⟩:∃m,ea[i]? =U m/\aM m=x:=by
    rw[dI]at av;cases q:ea[i]? with
    |none=>rw[q]at av;cases av
    |some b=>rw[q]at av;exact⟨b,I,bS av⟩
   have hY:=j1 hm;have ag7:m∉l++ea.take i:=by
    have e:l++ea=(l++ea.take i)++ea.drop i:=by rw[j2,Aj]
    rw[e,qD]at rm;intro z;obtain⟨agC,e'⟩:=ej.mp hm;refine rm.2.2 m z m ?_ I;rw[kK agC,e'];exact eB _
   have i0:(l++ea.take i).length<=1000:=by rw[cA]at hlen;rw[cA,fo];omega
   have kX:ae o=U (.ins A.et aq F):=by rw[s1 _ bZ];exact aA
   refine⟨_,I,o,_,aq,_,_,I,kX,T.hW,T.wL,jn,nn,_,I,ag,_,I,o,_,aq,_,_,I,kX,T.hW,T.wL,jn,_,I,nn,_,I,mW.k (k:=dH m) ag ?_,?_⟩
   ·rw[Wx];exact jw i0
   ·refine⟨_,I,λc aF=>by rw[aY aF];exact s1 c aF,?_⟩;rw[aW,Wx];show U (dE.cC (putK (lr (l++ea.take i)) (dH m) (aM (l++ea.take i).length)))=_;rw[akf ag7,hY,j2]
  ·rintro σ ae ⟨v2,rfl,s1,ag⟩;rw[aU,hA]at ag;exact k ae s1 ag
theorem dF.off{H ae:ax}{aR r u o C aq:Addr}{s:State}(h:dF A H aR r u s)(aA:H o=U (.ins C aq []))(k:ff o H ae):dF A ae aR r u s:=by obtain⟨lQ,b,cI,bx,ag,ai,aN,bD,cw,e_,iW⟩:=h;have iv:∀c l,H c=U (.lst l)->ae c=U (.lst l):=λc l e=>k c _ (cH e aA df) e;refine⟨lQ,b,cI,bx,k _ _ (cH ag aA (rq (mc _ _ _) I)) ag,iv _ _ ai,Paired.imp aN λp bu _⟨jm,bt,ga,a1,a2,hi⟩=>⟨jm,bt,ga,k _ _ (cH a1 aA (rq (ol _ _) I)) a1,iv _ _ a2,iv _ _ hi⟩,iv _ _ bD,iv _ _ cw,Paired.imp e_ λp us _⟨jm,eY,a1,a2⟩=>⟨jm,eY,k _ _ (cH a1 aA (rq (xh _ _) I)) a1,iv _ _ a2⟩,iW⟩
theorem amv{H:ax}{Q:c9}{n:Nat}(aC:n<=1000)(k:∀ae l,aw H ae->H l=af->ae l=U (.lst ((cf n).map aM))->Q (.ref l) ae):∃j:Int,[V.int (n:Nat)]=[V.int j]/\∀p,H p=af->∃(p':Addr)(lo av:Int),[V.ref p]=[V.ref p']/\(upd H p (.i8 0 j)) p'=U (.i8 lo av)/\-(2^62)<=lo/\lo<2^62/\-(2^62)<=av/\av<2^62/\(av-lo).toNat<=1000/\∀l,(upd H p (.i8 0 j)) l=af->Q (.ref l) (upd (upd H p (.i8 0 j)) l (.lst (k3 lo (av-lo).toNat))):=by
 refine⟨_,I,λp aO=>⟨p,_,_,I,aW,aG,aG,aG,aG,aG,λl au=>?_⟩⟩;have zI:l≠p:=λz=>by rw[z,aW]at au;cases au
 have gv:H l=af:=by rw[aY zI]at au;exact au
 have e:k3 (0:Int) (((n:Nat):Int)-0).toNat=(cf n).map aM:=by have:=O_ 0 n;rw[z3]at this;rw[<-this];congr 1
 rw[e];exact k _ l ((aw.new aO).trans (aw.new au)) gv aW
inductive OY(A:cu)(vs:List V)(H:ax)(Q:c9)(asq:lM):Prop
 |mk (o aR r u aq:Addr) (s:State) (ka:ax) (h0:vs=[.ref o,.ref aR]) (ag:H o=U (.ins A.et aq [])) (ai:dF A ka aR r u s) (aN:aw ka H) (bD:ka o=af) (cw:Good s) (e_:∀(ae:ax)(b_ pl nn:Addr),ff o H ae->H pl=af->H nn=af->(∀lf,ka lf=af->H lf≠af->m2 A ae o u b_ pl nn s [] lf)->Q .bZ ae)
theorem WD(T:Txt K ap A):a0 P w K ap base a8 2 A.sg A.vP ["self","workshop"] (OY A):=by
 have cv:a0 P w K ap base a8 1 A.q0 A.sC ["self"] (GL A):=MJ T;have dB:a0 P w K ap base a8 1 A.sh A.vQ ["self","units"] (GN A):=WK T;refine T.Il.F.ok amF (λvs H Q E h=>?_) (λb9 cV outer s H vs Q E aL h=>?_)
 ·obtain⟨_,_,_,_,_,_,_,rfl,_⟩:=h;rfl
 ·obtain⟨o,aR,r,u,aq,st,ka,rfl,aA,Uu,fF,Ux,g,k⟩:=h;have bF:=Uu.grow fF;refine⟨_,a3 (hn (aj 0) (bH (aj 1) I) I) (a3 (hn (aj 0) (hl (aj 1) T.dr T.Mk cv aL T.DO.b .nil bG) I) (a3 (hn (aj 0) (du aJ) I) (a3 (hn (aj 0) zP I) (bb (fE (kC (aj 0) T.hW T.VZ dB aL T.Im.b .nil bG (aB (i5 (A9 I) I T.lN m5 (aB (i5 Ee I T.vH A7 (aB (c4 eJ I T.dG PySem.boot_len (aB (bH (aj 1) I) aJ)) aJ)) aJ)) aJ))))))),?_⟩;obtain⟨J0,b,cI,bx,b5,dv,ei,fM,dm,eT,hy⟩:=id bF;refine⟨_,I,aR,_,J0,_,_,I,b5,T.dr,T.ha,jc _ _ _,_,I,o,_,aq,_,I,aA,T.hW,T.zE,Ab,?_⟩;generalize nh:upd H o (.ins A.et aq (bY "old_uses" (.ref u) []))=H1;have co:ff o H H1:=λc ob n e=>by rw[<-nh,aY n];exact e
  have l8:H1 o=U (.ins A.et aq (bY "old_uses" (.ref u) [])):=by rw[<-nh,aW]
  have KL:=bF.off aA co;have WB:aR≠o:=cH b5 aA (rq (mc _ _ _) I);have ajF:b≠o:=cH fM aA df;have aq7:u≠o:=cH dm aA df;refine⟨_,I,aR,J0,_,I,co _ _ WB b5,jy _ _ _ aD aD aD,aR,r,u,st,I,KL,g,λaz b_ d8 s2 sU EX ng ri=>?_⟩;have hM:=s2 _ _ l8;refine⟨_,I,o,_,aq,_,I,hM,T.hW,T.FI,k7 (gX _ _ _) Aa,?_⟩;generalize ni:upd az o (.ins A.et aq (bY "old_units" (.ref b_) (bY "old_uses" (.ref u) [])))=aZ;have f7:ff o az aZ:=λc ob n e=>by rw[<-ni,aY n];exact e
  have ME:aZ o=U (.ins A.et aq (bY "old_units" (.ref b_) (bY "old_uses" (.ref u) []))):=by rw[<-ni,aW]
  refine⟨ec _,λpl f5=>?_⟩;have wR:pl≠o:=bQ (bj ME f5);have s4:aw aZ (upd aZ pl (.lst [])):=aw.new f5;have lx:(upd aZ pl (.lst [])) pl=U (.lst []):=aW;generalize(upd aZ pl (.lst []))=bz at*;refine⟨_,I,o,_,aq,_,I,s4 _ _ ME,T.hW,T.zF,?_,?_⟩
  ·have a1:=gX "old_units" (.ref b_) (bY "old_uses" (.ref u) []);have a2:=gX "old_uses" (.ref u) [];rw[j4]at a2;omega
  generalize Um:upd bz o (.ins A.et aq (bY "places" (.ref pl) (bY "old_units" (.ref b_) (bY "old_uses" (.ref u) []))))=cb;have kp:ff o bz cb:=λc ob n e=>by rw[<-Um,aY n];exact e
  have WC:cb o=U (.ins A.et aq (bY "places" (.ref pl) (bY "old_units" (.ref b_) (bY "old_uses" (.ref u) [])))):=by rw[<-Um,aW]
  have WV:cb pl=U (.lst []):=kp _ _ wR lx;intro nn qb;have l7:nn≠o:=bQ (bj WC qb);have FO:pl≠nn:=bj WV qb;have c6:aw cb (upd cb nn (.cC [])):=aw.new qb;have nz:(upd cb nn (.cC [])) nn=U (.cC []):=aW;generalize(upd cb nn (.cC []))=dj at*;refine⟨_,I,o,_,aq,_,I,c6 _ _ WC,T.hW,T.wL,?_,?_⟩
  ·have A1:=gX "places" (.ref pl) (bY "old_units" (.ref b_) (bY "old_uses" (.ref u) []));have a1:=gX "old_units" (.ref b_) (bY "old_uses" (.ref u) []);have a2:=gX "old_uses" (.ref u) [];rw[j4]at a2;omega
  generalize Un:upd dj o (.ins A.et aq (bY "new_numbers" (.ref nn) (bY "places" (.ref pl) (bY "old_units" (.ref b_) (bY "old_uses" (.ref u) [])))))=d3;have Cb:ff o dj d3:=λc ob n e=>by rw[<-Un,aY n];exact e
  have qn:d3 o=U (.ins A.et aq (ls (.ref u) (.ref b_) (.ref pl) (.ref nn))):=by rw[<-Un,aW];rfl
  have Vw:ff o az d3:=λc ob n e=>Cb _ _ n (c6 _ _ (kp _ _ n (s4 _ _ (f7 _ _ n e))));have Vv:ff o H d3:=λc ob n e=>Vw _ _ n (s2 _ _ (co _ _ n e));refine⟨_,I,o,aq,_,I,qn,rx _ _ _ _ aD aD aD aD,_,I,aR,_,J0,_,_,I,Vv _ _ WB b5,T.dr,T.qk,tX _ _ _,b,_,I,.inl (aI.of (Vv _ _ ajF fM)),?_⟩;rw[aU];refine amv (H:=d3) (Q:=λx H1=>GN A [.ref o,x] H1 (λ_ ae=>Q .bZ ae) AS) (n:=st.first.length) (by have:=g.fst;omega) λgr l j0 au Lc=>?_;have zD:gr nn=U (.cC (lr [])):=j0 _ _ (Cb _ _ l7 nz);refine⟨o,l,aq,nn,_,[],cf st.first.length,I,j0 _ _ qn,F1 _ _ _ _,zD,Lc,xt,by rw[t6,e8];have:=g.fst;omega,λg5 qh tn=>?_⟩;rw[t6]at tn;have cZ:cf st.first.length=b8 st []:=by unfold b8;simp
  rw[cZ]at tn;have Wr:H pl=af:=by
   cases q:H pl with
   |none=>rfl
   |some ob=>have:=f7 _ _ wR (s2 _ _ (co _ _ wR q));rw[f5]at this;cases this
  have Wl:H nn=af:=by
   cases q:H nn with
   |none=>rfl
   |some ob=>have:=kp _ _ l7 (s4 _ _ (f7 _ _ l7 (s2 _ _ (co _ _ l7 q))));rw[qb]at this;cases this
  have MF:g5 o=U (.ins A.et aq (ls (.ref u) (.ref b_) (.ref pl) (.ref nn))):=by rw[qh _ (bQ l7)];exact j0 _ _ qn
  have MU:g5 pl=U (.lst []):=by rw[qh _ FO];exact j0 _ _ (Cb _ _ wR (c6 _ _ WV))
  have pW:ff o az g5:=λc ob n e=>by
   have ajJ:c≠nn:=λz=>by rw[z]at e;have:=kp _ _ l7 (s4 _ _ (f7 _ _ l7 e));rw[qb]at this;cases this
   rw[qh _ ajJ];exact j0 _ _ (Vw _ _ n e)
  have bc:az pl=af:=by
   cases q:az pl with
   |none=>rfl
   |some ob=>have:=f7 _ _ wR q;rw[f5]at this;cases this
  have alW:az nn=af:=by
   cases q:az nn with
   |none=>rfl
   |some ob=>have:=kp _ _ l7 (s4 _ _ (f7 _ _ l7 q));rw[qb]at this;cases this
  refine k g5 b_ pl nn (λc ob n e=>pW _ _ n (s2 _ _ (co _ _ n e))) Wr Wl λlf agT agU=>⟨λc=>if H c=af then az c else ka c,aq,d8,?_⟩;have on:∀c ob,H c=U ob->(if H c=af then az c else ka c)=ka c:=λc ob e=>ars (by rw[e];intro z;cases z);have ac0:aw ka (λc=>if H c=af then az c else ka c):=λc ob e=>by show(if H c=af then az c else ka c)=U ob;rw[on c ob (fF _ _ e)];exact e
  have Ue:∀c,H1 c=af->H c=af:=λc e=>by
   cases q:H c with
   |none=>rfl
   |some ob=>
    by_cases n:c=o
    ·rw[n,l8]at e;cases e
    ·rw[co _ _ n q]at e;cases e
  obtain⟨_,_,_,rK,_,_,_,_,ho,v6,_⟩:=Uu.grow ac0;refine⟨rK,⟨ho,v6,?_,?_⟩,?_,?_,?_,?_,MF,MU,tn,?_⟩
  ·show(if H b_=af then az b_ else ka b_)=_;rw[art (Ue _ sU)];exact EX
  ·refine Paired.LA ng λp j aO e=>?_;show(if H p=af then az p else ka p)=_;rw[art (Ue _ (ri p aO))];exact e
  ·show(if H o=af then az o else ka o)=_;rw[on _ _ aA];exact Ux
  ·show(if H pl=af then az pl else ka pl)=_;rw[art Wr];exact bc
  ·show(if H nn=af then az nn else ka nn)=_;rw[art Wl];exact alW
  ·intro c ob e;have e:(if H c=af then az c else ka c)=U ob:=e;by_cases n:H c=af
   ·rw[art n]at e;exact pW _ _ (λz=>by rw[z,aA]at n;cases n) e
   ·rw[ars n]at e;have aS:=fF _ _ e;have Wc:=bj e Ux;exact pW _ _ Wc (s2 _ _ (co _ _ Wc aS))
  ·show(if H lf=af then az lf else ka lf)=_;rw[ars agU];exact agT
theorem y'{l:List Nat}{i:Nat}{x:V}(h:(l.map aM)[i]? =U x):∃n,l[i]? =U n/\aM n=x:=by
 rw[dI]at h;cases q:l[i]? with
 |none=>rw[q]at h;cases h
 |some b=>rw[q]at h;exact⟨b,I,bS h⟩
theorem xW.use{c8:ax}{u b_:Addr}{s:State}{d8 bx:List Addr}(h:xW A c8 u b_ s d8 bx){p:Nat}(aO:p<s.uses.length):∃dk hH eY,bx[p]? =U dk/\c8 dk=U (.ins A.fg hH (kH (aM (k2 s p)) (.ref eY)))/\c8 eY=U (.lst ((f_ s p).map aM)):=by obtain⟨us,fC⟩:=nH aO;obtain⟨dk,ag,hH,eY,ai,aN⟩:=Paired.wa h.bx fC;rw[(hb fC).1,(hb fC).2];exact⟨dk,hH,eY,ag,ai,aN⟩
theorem xW.afy{c8:ax}{u b_:Addr}{s:State}{d8 bx:List Addr}(h:xW A c8 u b_ s d8 bx){p:Nat}(aO:p<s.uses.length):∃q,d8[p]? =U q/\c8 q=U (.lst ((spanOf s p).map aM)):=by obtain⟨q,ag,ai⟩:=Paired.wa h.d8 (rT aO);exact⟨q,ag,ai⟩
theorem ZN{s:State}(g:Good s)(p:Nat):(f_ s p).length<=6:=by
 cases e:s.uses[p]? with
 |none=>unfold f_;rw[e];exact ec _
 |some u=>rw[(hb e).1];exact(g.gP u (eN e)).2.2
inductive YJ(A:cu)(vs:List V)(H:ax)(Q:c9)(asq:lM):Prop
 |mk (o u b_ pl nn:Addr) (s:State) (ps:List Nat) (p:Nat) (h0:vs=[.ref o,aM p]) (ag:m1 A H o u b_ pl nn s ps) (ai:Good s) (aN:p<s.uses.length) (bD:∀ae,aw H ae->Q (.bB (ko s (b8 s ps) p)) ae)
theorem akV(T:Txt K ap A):a0 P w K ap base a8 1 A.uR A.ya ["self","place"] (YJ A):=by
 refine T.QT.F.ok OG (λvs H Q E h=>?_) (λb9 cV outer s H vs Q E aL h=>?_)
 ·obtain⟨_,_,_,_,_,_,_,_,rfl,_⟩:=h;rfl
 ·obtain⟨o,u,b_,pl,nn,st,ps,p,rfl,lV,g,aO,k⟩:=h;have a4:=n9 aL;refine⟨_,bb (bE (c4 (vL I) I T.q4 vJ (aB (kB I OG.ba (gm (bH (eo gi (bH (aj 0) I) (aj 1) (λ_ _=>I)) I)) (ic (own:=[("unit",2)]) I) (λ_ _ _ _ _=>d9 (i:=2) OG.ba I (bA I)) (λ_ _ _ _ _=>jY) (λ_ _ _ _ _=>WY (F5 (td:=xe K (pk 0) "new_numbers") a4 (aj 2) (by exact bH (aj 0) I)))) aJ))),?_⟩;obtain⟨c8,aq,d8,bx,mw,f1,f2,ew,s0,ag,ai,aN⟩:=lV;obtain⟨dk,hH,eY,aS,aQ,b0⟩:=mw.use aO;refine⟨_,I,o,_,aq,_,_,I,ag,T.hW,T.zE,F2 _ _ _ _,_,I,u,_,_,_,I,I,aI.of (s0 _ _ mw.us),eI (l4 aS),dk,_,hH,_,_,I,s0 _ _ aQ,T.mm,T.qj,tS _ _,eY,I,⟨_,aI.of (s0 _ _ b0)⟩,λD cg=>wC (((f_ st p).map λn=>(b8 st ps).contains n).map V.bB) (aI.of (s0 _ _ b0)) cg (by rw[aU];have:=ZN g p;exact b3 this a5) bl ?_ λH1 s1 p5=>?_⟩
  ·intro i x y ao a_ az s2 h9 bc;obtain⟨n,aC,rfl⟩:=y' ao;rw[dn,dI,aC]at a_;obtain rfl:=bS a_;refine⟨_,I,_,I,o,_,aq,_,_,I,s2 _ _ ag,T.hW,T.wL,F1 _ _ _ _,nn,_,I,gd.k (k:=dH n) (s2 _ _ aN),?_⟩;have e:V.bB (eb (lr (b8 st ps)) (dH n)).isSome=V.bB ((b8 st ps).contains n):=by
    by_cases c:n∈b8 st ps
    ·rw[Wz c];simp[c]
    ·rw[Wy c];simp[c]
   rw[e];exact bc az (aw.refl az)
  ·refine⟨D,(f_ st p).map λn=>(b8 st ps).contains n,I,aI.of p5,?_⟩;have e:((f_ st p).map λn=>(b8 st ps).contains n).all id=ko st (b8 st ps) p:=by unfold ko;rw[ow];rfl
   rw[e];exact k H1 s1
inductive O5(A:cu)(vs:List V)(H:ax)(Q:c9)(asq:lM):Prop
 |mk (o u b_ pl nn:Addr) (s:State) (ps:List Nat) (p:Nat) (h0:vs=[.ref o,aM p]) (ag:m1 A H o u b_ pl nn s ps) (ai:Good s) (aN:p<s.uses.length) (bD:(∀n∈f_ s p,n∈b8 s ps)) (cw:∀ae q,aw H ae->H q=af->ae q=U (.lst ((eS s (b8 s ps) p).map aM))->Q (.ref q) ae)
theorem WL(T:Txt K ap A):a0 P w K ap base a8 1 A.lh A.vR ["self","place"] (O5 A):=by
 refine T.Io.F.ok OH (λvs H Q E h=>?_) (λb9 cV outer s H vs Q E aL h=>?_)
 ·obtain⟨_,_,_,_,_,_,_,_,rfl,_⟩:=h;rfl
 ·obtain⟨o,u,b_,pl,nn,st,ps,p,rfl,lV,g,aO,fU,k⟩:=h;have a4:=n9 aL;refine⟨_,bb (bE (kB I OH.ba (gm (bH (eo gi (bH (aj 0) I) (aj 1) (λ_ _=>I)) I)) (ic (own:=[("unit",2)]) I) (λ_ _ _ _ _=>d9 (i:=2) OH.ba I (bA I)) (λ_ _ _ _ _=>jY) (λ_ _ _ _ _=>zO (td:=xe K (pk 0) "new_numbers") a4 (by exact bH (aj 0) I) (aj 2) (λ_ _=>I)))),?_⟩;obtain⟨c8,aq,d8,bx,mw,f1,f2,ew,s0,ag,ai,aN⟩:=lV;obtain⟨dk,hH,eY,aS,aQ,b0⟩:=mw.use aO;refine⟨_,I,o,_,aq,_,_,I,ag,T.hW,T.zE,F2 _ _ _ _,_,I,u,_,_,_,I,I,aI.of (s0 _ _ mw.us),eI (l4 aS),dk,_,hH,_,_,I,s0 _ _ aQ,T.mm,T.qj,tS _ _,eY,I,⟨_,aI.of (s0 _ _ b0)⟩,λD cg=>wC ((eS st (b8 st ps) p).map aM) (aI.of (s0 _ _ b0)) cg (by rw[aU];have:=ZN g p;exact b3 this a5) (by unfold eS;simp) ?_ λH1 s1 p5=>?_⟩
  ·intro i x y ao a_ az s2 h9 bc;obtain⟨n,aC,rfl⟩:=y' ao;unfold eS at a_;rw[dn,dI,aC]at a_;obtain rfl:=bS a_;refine⟨_,I,o,_,aq,_,_,I,s2 _ _ ag,T.hW,T.wL,F1 _ _ _ _,_,I,nn,aM ((b8 st ps).idxOf n),I,?_,bc az (aw.refl az)⟩;rw[<-Wz (fU n (eN aC))];exact gd.k (k:=dH n) (s2 _ _ aN)
  ·exact k H1 D s1 cg p5
inductive OZ(A:cu)(vs:List V)(H:ax)(Q:c9)(asq:lM):Prop
 |mk (o u b_ pl nn:Addr) (s:State) (ps:List Nat) (p:Nat) (h0:vs=[.ref o,aM p]) (ag:m1 A H o u b_ pl nn s ps) (ai:Good s) (aN:(ps++[p]).Nodup) (bD:(∀q∈ps++[p],q<s.uses.length)) (cw:∀ae,(∀c,c≠pl->c≠nn->ae c=H c)->m1 A ae o u b_ pl nn s (ps++[p])->Q .bZ ae)
theorem WE(T:Txt K ap A):a0 P w K ap base a8 2 A.sf A.vO ["self","place"] (OZ A):=by
 have cv:a0 P w K ap base a8 1 A.sh A.vQ ["self","units"] (GN A):=WK T;refine T.Ik.F.ok amE (λvs H Q E h=>?_) (λb9 cV outer s H vs Q E aL h=>?_)
 ·obtain⟨_,_,_,_,_,_,_,_,rfl,_⟩:=h;rfl
 ·obtain⟨o,u,b_,pl,nn,st,ps,p,rfl,lV,g,rm,dD,k⟩:=h;refine⟨_,a3 (fE (iy PySem.F.plainAttrs_list PySem.F.slot_list_append PySem.F.type_list_append mI (bH (aj 0) I) (aB (aj 1) aJ))) (bb (fE (kC (aj 0) T.hW T.VZ cv aL T.Im.b .nil bG (aB (eo gi (bH (aj 0) I) (aj 1) (λ_ _=>I)) aJ)))),?_⟩;obtain⟨c8,aq,d8,bx,mw,f1,f2,ew,s0,ag,ai,aN⟩:=lV;have aO:p<st.uses.length:=dD p bl;obtain⟨q,aS,aQ⟩:=mw.afy aO;refine⟨_,I,o,_,aq,_,_,I,ag,T.hW,T.zF,MP _ _ _ _,.inl ⟨I,_,aI.of ai⟩,_,I,pl,_,_,I,I,ai,?_,?_⟩
  ·rw[aU];have a1:=Cr rm dD;rw[cA]at a1;have a2:=g.use;exact jw aG
  have wR:o≠pl:=cH ag ai df;have FO:nn≠pl:=cH aN ai df;have l7:o≠nn:=cH ag aN df;generalize nh:upd H pl (.lst (ps.map aM++[aM p]))=H1;have s1:aw c8 H1:=by rw[<-nh];exact s0.put f2
  have l8:H1 o=U (.ins A.et aq (ls (.ref u) (.ref b_) (.ref pl) (.ref nn))):=by rw[<-nh,aY wR];exact ag
  have dK:H1 pl=U (.lst ((ps++[p]).map aM)):=by rw[<-nh,aW,eU];rfl
  have b':H1 nn=U (.cC (lr (b8 st ps))):=by rw[<-nh,aY FO];exact aN
  have aA:=wW st ps p;refine⟨_,I,o,aq,_,I,l8,rx _ _ _ _ aD aD aD aD,_,I,o,_,aq,_,_,I,l8,T.hW,T.FI,ali _ _ _ _,_,I,b_,_,_,_,I,I,aI.of (s1 _ _ mw.b_),eI (l4 aS),o,q,aq,nn,_,b8 st ps,spanOf st p,I,l8,F1 _ _ _ _,b',s1 _ _ aQ,?_,?_,λaz fD cB=>?_⟩
  ·rw[<-aA];exact MQ st _ rm
  ·rw[<-aA];have:=alj g rm dD;omega
  ·rw[<-aA]at cB;refine k az (λc cq cF=>by rw[fD c cF,<-nh,aY cq]) ⟨c8,aq,d8,bx,mw,f1,f2,ew,λc ob e=>?_,?_,?_,cB⟩
   ·rw[fD c (bj e ew)];exact s1 _ _ e
   ·rw[fD _ l7];exact l8
   ·rw[fD _ (bQ FO)];exact dK
inductive O6(A:cu)(vs:List V)(H:ax)(Q:c9)(asq:lM):Prop
 |mk (o u b_ pl nn:Addr) (s:State) (ps:List Nat) (h0:vs=[.ref o]) (ag:m1 A H o u b_ pl nn s ps) (ai:Good s) (aN:uJ s ps) (bD:∀ae q(us:List Addr),aw H ae->H q=af->ae q=U (.lst (us.map V.ref))->Paired (mi A.fg ae) us (om s ps).uses->Q (.ref q) ae)
theorem WM(T:Txt K ap A):a0 P w K ap base a8 3 A.si A.vS ["self"] (O6 A):=by
 have cv:a0 P w K ap base a8 1 A.lh A.vR ["self","place"] (O5 A):=WL T;have dB:a0 P w K ap base a8 1 A.qZ A.sA ["self","recipe_number","units"] (GI A.fg):=MG T;refine T.Ip.F.ok OI (λvs H Q E h=>?_) (λb9 cV outer s H vs Q E aL h=>?_)
 ·obtain⟨_,_,_,_,_,_,_,rfl,_⟩:=h;rfl
 ·obtain⟨o,u,b_,pl,nn,st,ps,rfl,lV,g,bo,k⟩:=h;refine⟨_,bb (bE (kB I OI.ba (gm (bH (aj 0) I)) (ic (own:=[("place",1)]) I) (λ_ _ _ _ _=>d9 (i:=1) OI.ba I (bA I)) (λ_ _ _ _ _=>jY) (λ_ _ _ _ _=>wY T.Mp dB aL I T.Br T.DN.b .nil bG (aB (te:=xe K (CZ (Xt K) (xe K (pk 0) "old_uses") (pk 1)) "recipe_number") (by exact bH (eo gi (by exact bH (aj 0) I) (aj 1) (λ_ _=>I)) I) (aB (kC (aj 0) T.hW T.V0 cv (aL.mono a5) T.Io.b .nil bG (aB (aj 1) aJ)) aJ))))),?_⟩;obtain⟨c8,aq,d8,bx,mw,f1,f2,ew,s0,ag,ai,aN⟩:=id lV;refine⟨_,I,o,_,aq,_,_,I,ag,T.hW,T.zF,MP _ _ _ _,pl,I,⟨_,aI.of ai⟩,λD cg=>VF (λH x y=>asy λ(p:Nat)(q v0 eY:Addr)=>x=aM p/\y=.ref q/\H q=U (.ins A.fg v0 (kH (aM (k2 st p)) (.ref eY)))/\H eY=U (.lst ((eS st (b8 st ps) p).map aM))/\q≠D/\eY≠D) ?_ (aI.of ai) cg ?_ ?_ λH1 ys s1 cX p5=>?_⟩
  ·rintro H1 az x y b ⟨p,q,v0,eY,rfl,rfl,a1,a2,b',cB⟩;exact⟨p,q,v0,eY,I,I,b _ _ b' a1,b _ _ cB a2,b',cB⟩
  ·rw[aU];have a1:=Cr bo.ba bo.lt;have a2:=g.use;exact b3 (show _<=10 by omega) a5
  ·rintro x ao H1 s1 ⟨acc,iZ⟩ h9 bc;obtain⟨p,aO,rfl⟩:=fq.mp ao;obtain⟨i,av⟩:=Dg.mp aO;obtain⟨dk,hH,eY,aS,aQ,b0⟩:=mw.use (bo.lt p aO);have XP:=s0.trans s1;refine⟨_,I,o,_,aq,_,_,I,s1 _ _ ag,T.hW,T.zE,F2 _ _ _ _,_,I,u,_,_,_,I,I,aI.of (XP _ _ mw.us),eI (l4 aS),dk,_,hH,_,_,I,XP _ _ aQ,T.mm,T.tp,xh _ _,?_⟩;refine⟨_,I,o,aq,_,I,s1 _ _ ag,rx _ _ _ _ aD aD aD aD,_,I,o,u,b_,pl,nn,st,ps,p,I,lV.grow s1,g,bo.lt p aO,λn aC=>(F3 (bo.un i p av n aC)).1,λaz q s2 aK i1=>?_⟩;intro x hX cN nA wO;refine⟨x,hX,_,_,I,aW,I,?_⟩;rw[tR];have s3:aw az (upd (upd az hX (.own x)) x (.ins A.fg hX (kH (aM (k2 st p)) (.ref q)))):=λy o e=>by rw[aY (bj e cN),aY (bj e nA)];exact e
   have Bv:=s2 _ _ iZ;exact bc _ _ (s2.trans s3) ⟨p,x,hX,q,I,I,aW,s3 _ _ i1,bQ (bj Bv cN),bQ (bj iZ aK)⟩
  ·have key:∀(xs:List Nat)(ys:List V),Paired (λx y=>asy λ(p:Nat)(q v0 eY:Addr)=>x=aM p/\y=.ref q/\H1 q=U (.ins A.fg v0 (kH (aM (k2 st p)) (.ref eY)))/\H1 eY=U (.lst ((eS st (b8 st ps) p).map aM))/\q≠D/\eY≠D) (xs.map aM) ys->∃us:List Addr,ys=us.map V.ref/\Paired (mi A.fg H1) us (xs.map λp=>({recipe:=k2 st p,units:=eS st (b8 st ps) p}:Use)):=by
    intro xs;induction xs with
    |nil=>intro ys h;cases h;exact⟨[],I,.nil⟩
    |cons p r ih=>
     intro ys h;cases h with
     |cons h t=>
      obtain⟨us,rfl,a4⟩:=ih _ t;obtain⟨p',q,v0,eY,e,rfl,a1,a2,_⟩:=h;have e:p=p':=by have:=V.int.inj e;omega
      subst e;exact⟨q::us,I,.cons ⟨v0,eY,a1,a2⟩ a4⟩
   obtain⟨us,rfl,a4⟩:=key ps ys cX;exact k H1 D us s1 cg p5 a4
theorem Rq:jD "any"=U (.builtin "any"):=aD
theorem aif{s:State}{k:Nat}(aH:k+1<s.uses.length):nT s k= !((f_ s (k+1)).map λn=>(spanOf s k).contains n).any id:=by obtain⟨u,a4⟩:=nH (s:=s) (p:=k) aG;obtain⟨v,bU⟩:=nH aH;unfold nT;rw[a4,bU,(hb bU).1,aab];show(!v.units.any _)= !v.units.any _;congr 1;congr 1;funext n;show _=(spanOf s k).contains n;rw[mf,aac,zB,v8,p3 a4];simp
theorem Nb{H:ax}{p l:Addr}{n:Nat}(aO:H p=af)(au:(upd H p (.i8 0 ((n:Nat):Int))) l=af):aw H (upd (upd H p (.i8 0 ((n:Nat):Int))) l (.lst (k3 0 (((n:Nat):Int)-0).toNat)))/\H l=af/\(upd (upd H p (.i8 0 ((n:Nat):Int))) l (.lst (k3 0 (((n:Nat):Int)-0).toNat))) l=U (.lst ((cf n).map aM)):=by
 have zI:l≠p:=λz=>by rw[z,aW]at au;cases au
 have gv:H l=af:=by rw[aY zI]at au;exact au
 have e:k3 (0:Int) (((n:Nat):Int)-0).toNat=(cf n).map aM:=by have:=O_ 0 n;rw[z3]at this;rw[<-this];congr 1
 rw[e];exact⟨(aw.new aO).trans (aw.new au),gv,aW⟩
inductive Yy(A:cu)(vs:List V)(H:ax)(Q:c9)(asq:lM):Prop
 |mk (aR r u:Addr) (s:State) (k:Nat) (h0:vs=[.ref aR,aM k]) (ag:dF A H aR r u s) (ai:Good s) (aN:k+1<s.uses.length) (bD:∀ae,aw H ae->Q (.bB (nT s k)) ae)
theorem akK(T:Txt K ap A):a0 P w K ap base a8 2 A.ve A.yA ["workshop","k"] (Yy A):=by
 have cv:a0 P w K ap base a8 1 A.q0 A.sC ["self"] (GL A):=MJ T;refine T.IM.F.ok Gv (λvs H Q E h=>?_) (λb9 cV outer s H vs Q E aL h=>?_)
 ·obtain⟨_,_,_,_,_,rfl,_⟩:=h;rfl
 ·obtain⟨aR,r,u,st,k,rfl,bF,g,aH,iu⟩:=h;refine⟨_,a3 (cQ (i:=2) Gv.ba I (qH I) (eo gi (hl (aj 0) T.dr T.Mk cv aL T.DO.b .nil bG) (aj 1) (λ_ _=>I))) (bb (bE (alB (c4 (adz I) I T.Jp Rq (aB (kB I Gv.ba (gm (bH (eo gi (bH (aj 0) I) (fj pd (aj 1) dt) (λ_ _=>I)) I)) (ic (own:=[("unit",3)]) I) (λ_ _ _ _ _=>d9 (i:=3) Gv.ba I (bA I)) (λ_ _ _ _ _=>jY) (λ_ _ _ _ _=>tB (r:=Gg K aE) tw (aj 3) (aj 2) me)) aJ))))),?_⟩;obtain⟨aq,b,cI,bx,b5,dv,ei,fM,dm,eT,hy⟩:=id bF;refine⟨_,I,aR,aq,_,I,b5,jy _ _ _ aD aD aD,aR,r,u,st,I,bF,g,λH1 b_ d8 s1 sU agB ng ri=>?_⟩;obtain⟨q,a7,bc⟩:=Paired.wa ng (rT (show k<st.uses.length by omega));refine⟨_,I,b_,_,_,_,I,I,aI.of agB,eI (l4 a7),?_⟩;obtain⟨us,fC⟩:=nH aH;obtain⟨dk,nr,hH,eY,aS,aQ⟩:=Paired.wa eT fC;have Fb:=(hb fC).1;have iY:(us.units.map aM).length<=sizeLine:=by rw[aU];have:=(g.gP us (eN fC)).2.2;exact b3 this a5
  have g_:((k:Nat):Int)+1=((k+1:Nat):Int):=aG;refine⟨_,I,aR,_,aq,_,_,I,s1 _ _ b5,T.dr,T.ha,jc _ _ _,_,I,_,_,I,I,u,_,(((k+1:Nat)):Int),_,I,congrArg V.int g_,aI.of (s1 _ _ dm),eI (l4 nr),dk,_,hH,_,_,I,s1 _ _ aS,T.mm,T.qj,tS _ _,eY,I,⟨_,aI.of (s1 _ _ aQ)⟩,λD cg=>wC ((us.units.map λn=>(spanOf st k).contains n).map V.bB) (aI.of (s1 _ _ aQ)) cg iY bl ?_ λaz s2 Bv=>?_⟩
  ·intro i x y ao a_ az s2 h9 c_;obtain⟨n,aC,rfl⟩:=y' ao;rw[dn,dI,aC]at a_;obtain rfl:=bS a_;refine⟨_,I,_,I,q,_,I,.inl (aI.of (s2 _ _ bc)),I,TS _,?_⟩;show h9 (.bB (iM (aM n) ((spanOf st k).map aM))) az;rw[LB];exact c_ az (aw.refl az)
  ·refine⟨D,us.units.map λn=>(spanOf st k).contains n,I,aI.of Bv,_,I,?_⟩;have e:=aif aH;rw[Fb]at e;rw[<-e];exact iu az (s1.trans s2)
inductive YF(A:cu)(vs:List V)(H:ax)(Q:c9)(asq:lM):Prop
 |mk (aR r u:Addr) (s:State) (k:Nat) (h0:vs=[.ref aR,aM k]) (ag:dF A H aR r u s) (ai:Good s) (aN:k+1<s.uses.length) (bD:nT s k=ah) (cw:∀ae o b_ pl nn,aw H ae->m1 A ae o u b_ pl nn s (hq s.uses.length k)->Q (.ref o) ae)
theorem akR(T:Txt K ap A):a0 P w K ap base a8 4 A.vk A.yG ["workshop","k"] (YF A):=by
 have cv:a0 P w K ap base a8 2 A.sg A.vP ["self","workshop"] (OY A):=WD T;have dB:a0 P w K ap base a8 2 A.sf A.vO ["self","place"] (OZ A):=WE T;refine T.IU.F.ok Gx (λvs H Q E h=>?_) (λb9 cV outer s H vs Q E aL h=>?_)
 ·obtain⟨_,_,_,_,_,rfl,_⟩:=h;rfl
 ·obtain⟨aR,r,u,st,k,rfl,bF,g,aH,av,iu⟩:=h;refine⟨_,a3 (cQ (i:=2) Gx.ba I (bA I) (i5 (A9 I) I T.lN m5 (aB (i5 Ee I T.vH A7 (aB (c4 eJ I T.dG PySem.boot_len (aB (bH (aj 0) I) aJ)) aJ)) aJ))) (a3 (cQ (i:=3) Gx.ba I (bA I) (wY T.V8 cv aL I T.Ez T.Il.b .nil bG (aB (aj 0) aJ))) (a3 (i6 gD I (gm (fj kx (fj kx (pf tM (aj 2) zT (ly (aj 1))) (du (aB (fj pd (aj 1) dt) (aB (aj 1) aJ)))) (pf tM (aj 2) (ly (fj pd (aj 1) dt)) zT))) (d9 (i:=4) Gx.ba I (bA I)) (bb (fE (kC (aj 3) T.hW T.VY dB (aL.mono a5) T.Ik.b .nil bG (aB (aj 4) aJ))))) (bb (bE (aj 3))))),?_⟩;obtain⟨aq,b,cI,bx,b5,dv,ei,fM,dm,eT,hy⟩:=id bF;have iq:(bx.map V.ref).length=st.uses.length:=by rw[aU,Paired.length eT]
  refine⟨_,I,aR,_,aq,_,_,I,b5,T.dr,T.ha,jc _ _ _,u,_,I,.inl (aI.of dm),?_⟩;rw[iq];have ahP:=g.use;refine⟨_,I,λp aO=>⟨p,_,_,I,aW,aG,aG,aG,aG,aG,λl au=>?_⟩⟩;obtain⟨s1,gv,ft⟩:=Nb aO au;generalize(upd (upd H p (.i8 0 ((st.uses.length:Nat):Int))) l (.lst (k3 0 (((st.uses.length:Nat):Int)-0).toNat)))=H1 at*;refine⟨_,I,?_⟩;intro o mo cN nA wO;generalize jo:upd (upd H1 mo (.own o)) o (.ins A.et mo [])=az;have s2:aw H1 az:=λy ob e=>by rw[<-jo,aY (bj e cN),aY (bj e nA)];exact e
  have hM:az o=U (.ins A.et mo []):=by rw[<-jo,aW]
  refine⟨o,aR,r,u,mo,st,H1,I,hM,bF.grow s1,s2,cN,g,λaZ b_ pl nn f7 f5 qb KO=>⟨I,?_⟩⟩;have Uq:=(KO o cN (by rw[hM];intro z;cases z)).at;have s3:aw H1 aZ:=λc ob e=>f7 c ob (bj e cN) (s2 _ _ e);have wq:=s3 _ _ ft;have cq:iJ ((cf st.uses.length).map aM) af (U ((k:Nat):Int))=((cf st.uses.length).take k).map aM:=by unfold iJ;rw[cG.CE,cG.oo,aU,e8,rR,aaC,<-Ai,mU aG]
  have cF:iJ ((cf st.uses.length).map aM) (U (((k:Nat):Int)+2)) af=((cf st.uses.length).drop (k+2)).map aM:=by have e:((k:Nat):Int)+2=((k+2:Nat):Int):=aG;unfold iJ;rw[e,cG.CE,cG.oo,aU,e8,<-Ht,mU aG];rw[pE (by rw[aU,j3,e8];omega)]
  refine⟨_,I,_,I,_,I,l,_,I,aI.of wq,λa7 gW=>?_⟩;rw[cq];have s4:aw aZ (upd aZ a7 (.lst (((cf st.uses.length).take k).map aM))):=aw.new gW;have qY:(upd aZ a7 (.lst (((cf st.uses.length).take k).map aM))) a7=U (.lst (((cf st.uses.length).take k).map aM)):=aW;generalize(upd aZ a7 (.lst (((cf st.uses.length).take k).map aM)))=bz at*;refine⟨_,I,_,_,I,I,_,I,iC,λbc i1=>?_⟩;have s5:aw bz (upd bz bc (.lst ([k+1,k].map aM))):=aw.new i1;have oO:(upd bz bc (.lst ([k+1,k].map aM))) bc=U (.lst ([k+1,k].map aM)):=aW;have gT:[V.int (((k:Nat):Int)+1),V.int ((k:Nat):Int)]=[k+1,k].map aM:=by show _=[V.int (((k+1:Nat)):Int),V.int ((k:Nat):Int)];rfl
  show Xs _ _ (upd bz bc (.lst ([V.int (((k:Nat):Int)+1),V.int ((k:Nat):Int)]))) _;rw[gT];generalize(upd bz bc (.lst ([k+1,k].map aM)))=cb at*;have hlen:∀m,((cf st.uses.length).take m).length<=10:=λm=>by rw[fo,e8];omega
  refine⟨a7,bc,_,_,I,I,s5 _ _ qY,oO,?_,λc_ hJ=>?_⟩
  ·rw[aU,aU];have:=hlen k;exact b3 (show _<=1000 by show _+2<=1000;omega) a5
  rw[<-eU];have c6:aw cb (upd cb c_ (.lst (((cf st.uses.length).take k++[k+1,k]).map aM))):=aw.new hJ;have pN:(upd cb c_ (.lst (((cf st.uses.length).take k++[k+1,k]).map aM))) c_=U (.lst (((cf st.uses.length).take k++[k+1,k]).map aM)):=aW;generalize(upd cb c_ (.lst (((cf st.uses.length).take k++[k+1,k]).map aM)))=dj at*;have Nk:=s4.trans (s5.trans c6);refine⟨_,I,_,I,_,_,I,I,_,I,l,_,I,aI.of (Nk _ _ wq),λgN s8=>?_⟩;rw[cF];have dp:aw dj (upd dj gN (.lst (((cf st.uses.length).drop (k+2)).map aM))):=aw.new s8;have x4:(upd dj gN (.lst (((cf st.uses.length).drop (k+2)).map aM))) gN=U (.lst (((cf st.uses.length).drop (k+2)).map aM)):=aW;generalize(upd dj gN (.lst (((cf st.uses.length).drop (k+2)).map aM)))=d3 at*;refine⟨c_,gN,_,_,I,I,dp _ _ pN,x4,?_,λk1 BU=>?_⟩
  ·rw[aU,aU,cA,j3,e8];have:=hlen k;exact b3 (show _<=1000 by show _+2+_<=1000;omega) a5
  rw[<-eU,j2,aez aH];have j0:aw d3 (upd d3 k1 (.lst ((hq st.uses.length k).map aM))):=aw.new BU;have D1:(upd d3 k1 (.lst ((hq st.uses.length k).map aM))) k1=U (.lst ((hq st.uses.length k).map aM)):=aW;generalize(upd d3 k1 (.lst ((hq st.uses.length k).map aM)))=gr at*;have XU:=Nk.trans (dp.trans j0);have bo:=Ep g aH av;have f8:aZ k1=af:=(Nk.trans dp).free BU;have Cu:∀c ob,aZ c=U ob->k1≠c:=λc ob e=>bQ (bj e f8);obtain⟨_,_,_,_,_,_,_,_,_,_,lu,en⟩:=id Uq;refine⟨_,I,⟨_,aI.of D1⟩,mr (K:=K) (a:=k1) (xs:=(hq st.uses.length k).map aM) (λi σ ae=>∃v4:Option V,σ=[U (.ref aR),U (aM k),U (.ref l),U (.ref o),v4]/\(∀c,c≠pl->c≠nn->ae c=gr c)/\m1 A ae o u b_ pl nn st ((hq st.uses.length k).take i)) ⟨af,I,λ_ _ _=>I,by rw[qG];exact Uq.grow XU⟩ (λi σ ae _ h=>?_) ?_ ?_⟩
  ·obtain⟨_,_,lB,_⟩:=h;exact aI.of (by rw[lB _ (Cu _ _ lu) (Cu _ _ en)];exact D1)
  ·rintro i x σ g5 ao ⟨v4,rfl,lB,wb⟩;obtain⟨n,aC,rfl⟩:=y' ao;obtain⟨_,ad1,_,_,_,_,_,_,_,MF,_,_⟩:=id wb;have hY:=j1 aC;refine⟨_,I,o,ad1,_,I,MF,rx _ _ _ _ aD aD aD aD,_,I,o,u,b_,pl,nn,st,_,n,I,wb,g,?_,?_,λqU B' afS=>?_⟩
   ·rw[<-hY];exact ape (Hz _ _) bo.ba
   ·rw[<-hY];exactλq aK=>bo.lt q (rV aK)
   ·refine⟨_,I,λc cq cF=>by rw[B' c cq cF];exact lB c cq cF,?_⟩;rw[hY];exact afS
  ·rintro σ g5 ⟨v4,rfl,lB,wb⟩;rw[aU,hA]at wb;have f1:H1 pl=af:=s2.free f5;have f2:H1 nn=af:=s2.free qb;refine⟨_,I,iu g5 o b_ pl nn (λc ob e=>?_) wb⟩;have aS:=s1 _ _ e;rw[lB c (bj aS f1) (bj aS f2)];exact XU _ _ (s3 _ _ aS)
end
theorem VP:∀a b:List Nat,cG.lexLt (a.map λn:Nat=>(n:Int)) (b.map λn:Nat=>(n:Int))=QM a b
 |[],[]=>rfl
 |[],_::_=>rfl
 |_::_,[]=>rfl
 |x::r,y::t=>by
  have ih:=VP r t;rw[dO,dO,cG.VO,ih];show _=(decide (x<y)||(x==y&&QM r t));by_cases c:x=y
  ·subst c;simp
  ·rw[ars aG];have e:(x==y)=aE:=by simpa using c
   rw[e];simp
def keyOf(s:State)(ord:List Nat):V->List Int
 | .int i=>(eS s ord i.toNat).map λn:Nat=>(n:Int)
 |_=>[]
theorem MZ(s:State)(ord:List Nat):∀(r:List Nat)(b:Nat),pickK (keyOf s ord) (aM b) (r.map aM)=aM (gZ (eS s ord) b r)
 |[],b=>rfl
 |x::r,b=>by rw[dO,W3];unfold pickK;have e:cG.lexLt (keyOf s ord (aM x)) (keyOf s ord (aM b))=QM (eS s ord x) (eS s ord b):=VP _ _;rw[e,MZ s ord r x,MZ s ord r b];split<;>rfl
theorem amu{a:Nat}{l:List Nat}(h:a∈l):∃j,(∀z∈l.map aM,Cf z (aM a)=ah)/\(l.map aM)[j]? =U (aM a)/\(∀m,m<j->(l.map aM)[m]? ≠U (aM a))/\(l.map aM).eraseIdx j=(l.erase a).map aM:=by
 have av:=PQ.mpr h;refine⟨l.idxOf a,?_,?_,λm hm z=>?_,?_⟩
 ·intro z a9;obtain⟨b,_,rfl⟩:=fq.mp a9;rfl
 ·rw[dI,gB av,Hs av];rfl
 ·rw[dI]at z;cases q:l[m]? with
  |none=>rw[q]at z;cases z
  |some b=>
   rw[q]at z;have e:b=a:=by have:=V.int.inj (bS z);omega
   subst e;obtain⟨ag,ai⟩:=ej.mp q;have:=aat (p:=λx=>x==b) (xs:=l) (i:=m) (by simpa[aam]using hm);rw[ai]at this;simp at this
 ·rw[aag I,Mm]
def XC(s:State)(ord:List Nat):V->Bool
 | .int i=>ko s ord i.toNat
 |_=>aE
theorem amk(s:State)(ord l:List Nat):(l.map aM).filter (XC s ord)=(l.filter (ko s ord)).map aM:=by rw[aaj];rfl
section
variable{P:b6}{w:bX}{K:PySem.W.Frag}{ap:Str->Option ar}{base:Heap}{A:cu}
inductive Y0(A:cu)(vs:List V)(H:ax)(Q:c9)(asq:lM):Prop
 |mk (aR r u:Addr) (s:State) (h0:vs=[.ref aR]) (ag:dF A H aR r u s) (ai:Good s) (aN:∀ae o b_ pl nn,aw H ae->m1 A ae o u b_ pl nn s (i9 s)->Q (.ref o) ae)
theorem alc(T:Txt K ap A)(B:ux K A.lh):a0 P w K ap base a8 4 A.vC A.yX ["workshop"] (Y0 A):=by
 have cv:a0 P w K ap base a8 2 A.sg A.vP ["self","workshop"] (OY A):=WD T;have dB:a0 P w K ap base a8 2 A.sf A.vO ["self","place"] (OZ A):=WE T;have fQ:a0 P w K ap base a8 1 A.uR A.ya ["self","place"] (YJ A):=akV T;have h8:a0 P w K ap base a8 1 A.lh A.vR ["self","place"] (O5 A):=WL T;refine T.I8.F.ok z1 (λvs H Q E h=>?_) (λb9 cV outer s H vs Q E aL h=>?_)
 ·obtain⟨_,_,_,_,rfl,_⟩:=h;rfl
 ·obtain⟨aR,r,u,st,rfl,bF,g,iu⟩:=h;have gK:de 2 _:=aL.mono a5;have dW:de 1 _:=aL.mono a5;refine⟨_,a3 (cQ (i:=1) z1.ba I (bA I) (i5 (A9 I) I T.lN m5 (aB (i5 Ee I T.vH A7 (aB (c4 eJ I T.dG PySem.boot_len (aB (bH (aj 0) I) aJ)) aJ)) aJ))) (a3 (cQ (i:=2) z1.ba I (qH I) (wY T.V8 cv aL I T.Ez T.Il.b .nil bG (aB (aj 0) aJ))) (a3 (qr gD (cJ nB (c4 eJ I T.dG PySem.boot_len (aB (aj 1) aJ)) dt (cY _)) (a3 (Cz (i:=3) I z1.ba I I (CY I I I I) (gm (aj 1)) (ic (own:=[("place",5)]) I) (λ_ _ _ _ _=>d9 (i:=5) z1.ba I (bA I)) (λ_ _ _ _ _=>Gb (lz (kC (aj 2) T.hW T.ai3 fQ dW T.QT.b .nil bG (aB (aj 5) aJ)))) (λ_ _ _ _ _=>aj 5)) (a3 (cQ (i:=4) z1.ba I (bA I) (alA (aB (aj 3) aJ) (aj 2) h8 gK T.Io.b I T.hW T.V0 B aD I I T.D6 Rr)) (a3 (fE (iy PySem.F.plainAttrs_list PySem.F.slot_list_remove PySem.F.type_list_remove Mq (aj 1) (aB (aj 4) aJ))) (bb (fE (kC (aj 2) T.hW T.VY dB gK T.Ik.b .nil bG (aB (aj 4) aJ)))))))) (bb (bE (aj 2))))),?_⟩;obtain⟨aq,b,cI,bx,b5,dv,ei,fM,dm,eT,hy⟩:=id bF;have iq:(bx.map V.ref).length=st.uses.length:=by rw[aU,Paired.length eT]
  refine⟨_,I,aR,_,aq,_,_,I,b5,T.dr,T.ha,jc _ _ _,u,_,I,.inl (aI.of dm),?_⟩;rw[iq];have ahP:=g.use;refine⟨_,I,λp aO=>⟨p,_,_,I,aW,aG,aG,aG,aG,aG,λlf au=>?_⟩⟩;obtain⟨s1,gv,ft⟩:=Nb aO au;generalize(upd (upd H p (.i8 0 ((st.uses.length:Nat):Int))) lf (.lst (k3 0 (((st.uses.length:Nat):Int)-0).toNat)))=H1 at*;refine⟨_,I,?_⟩;intro o mo cN nA wO;generalize jo:upd (upd H1 mo (.own o)) o (.ins A.et mo [])=az;have s2:aw H1 az:=λy ob e=>by rw[<-jo,aY (bj e cN),aY (bj e nA)];exact e
  have hM:az o=U (.ins A.et mo []):=by rw[<-jo,aW]
  have eh:=s1.trans s2;refine⟨o,aR,r,u,mo,st,H,I,hM,bF,eh,s1.free cN,g,λaZ b_ pl nn f7 f5 qb KO=>⟨I,?_⟩⟩;have s3:aw H1 aZ:=λc ob e=>f7 c ob (bj e cN) (s2 _ _ e);have wq:=s3 _ _ ft;have af3:=KO lf gv (by rw[s2 _ _ ft];intro z;cases z);have T1:H1 pl=af:=s2.free f5;have TX:H1 nn=af:=s2.free qb;have ajW:o≠lf:=bQ (bj ft cN);have zI:pl≠lf:=bQ (bj ft T1);have Wj:nn≠lf:=bQ (bj ft TX);have aeP:H pl=af:=s1.free T1;have aeH:H nn=af:=s1.free TX;refine xk (λσ ae=>asA λ(eL v4 ho:Option V)(ps left:List Nat)=>σ=[U (.ref aR),U (.ref lf),U (.ref o),eL,v4,ho]/\aw H ae/\ae lf=U (.lst (left.map aM))/\m2 A ae o u b_ pl nn st ps lf/\kQ st ps left/\qw st left.length ps left=i9 st) (λ_ ae=>match ae lf with|some (.lst xs)=>xs.length|_=>0) ⟨af,af,af,[],_,I,s1.trans s3,wq,af3,kQ.start st,?_⟩ ?_ (λσ H Q oM aK⟨v,e,i,j,a,b,cU,eE,a2,sy,k,oS,q⟩=>⟨v,e,i,j,a,b,cU,eE,a2,sy,k,oS,aK _ _ q⟩)
  ·rw[e8];rfl
  rintro σ bz ⟨eL,v4,ho,ps,left,rfl,s4,qa,BC,ey,EK⟩;refine⟨_,I,lf,_,I,.inl (aI.of qa),_,_,I,I,_,I,?_⟩;rw[aU];refine d5 (λq=>?_) (λq=>?_)
  ·have nq:0<left.length:=by have:=aru q;omega
   have fu:left≠[]:=λz=>by rw[z]at nq;exact aro nq a5
   obtain⟨x,iO,ao,hm,Fb,KI⟩:=ey.step g fu;have zq:=ey.X9 hm;obtain⟨_,jT,_,_,_,_,_,_,_,qm,lx,wJ,_⟩:=id BC;have Lf:left.length<=10:=by have:=Cr ey.ba ey.lt;omega
   refine⟨_,I,lf,I,⟨_,aI.of qa⟩,λD cg=>VE (XC st (b8 st ps)) (aI.of qa) cg (by rw[aU];exact b3 Lf a5) ?_ ?_ λcb s5 cw=>?_⟩
   ·intro y a_ cb s5 h9 bc;obtain⟨n,aC,rfl⟩:=fq.mp a_;exact⟨_,I,o,jT,_,I,s5 _ _ qm,rx _ _ _ _ aD aD aD aD,_,I,o,u,b_,pl,nn,st,ps,n,I,(BC.grow s5).at,g,ey.lt n aC,λdj c6=>⟨_,I,bc dj c6⟩⟩
   ·intro y a_ cb s5 h9 bc;exact⟨_,I,bc cb (aw.refl cb)⟩
   rw[amk,ao]at cw;refine⟨_,I,_,I,o,jT,_,I,s5 _ _ qm,rx _ _ _ _ aD aD aD aD,λi7 s9=>?_⟩;have c6:aw cb (upd cb i7 (.met A.lh o)):=aw.new s9;have pN:(upd cb i7 (.met A.lh o)) i7=U (.met A.lh o):=aW;generalize(upd cb i7 (.met A.lh o))=dj at*;have qs:=s5.trans c6;refine⟨D,i7,o,aM x,iO.map aM,keyOf st (b8 st ps),I,I,c6 _ _ cw,pN,?_,λd3 dp=>?_⟩
   ·intro y a_ d3 dp;have a_:y∈(x::iO).map aM:=a_;obtain⟨n,aC,rfl⟩:=fq.mp a_;rw[<-ao]at aC;have aC:=j8.mp aC;refine⟨o,u,b_,pl,nn,st,ps,n,I,(BC.grow (qs.trans dp)).at,g,ey.lt n aC.1,Gi aC.2,λgr M9 j0 ahv ahw=>⟨j0,M9,I,ahv,?_⟩⟩;rw[ahw];show U (dE.lst _)=U (dE.lst (((eS st (b8 st ps) n).map λn:Nat=>(n:Int)).map V.int));rw[dn];rfl
   ·rw[MZ];generalize aho:gZ (eS st (b8 st ps)) x iO=pp at*;have UO:=dp _ _ (qs _ _ qa);obtain⟨j,bK,cS,hv,w3⟩:=amu hm;refine⟨_,I,.inl ⟨I,_,aI.of UO⟩,_,I,lf,_,_,j,I,I,UO,bK,cS,hv,?_⟩;rw[w3];have KP:=(BC.grow (qs.trans dp)).put (ob:=.lst ((left.erase pp).map aM)) ajW zI Wj;have Lc:(upd d3 lf (.lst ((left.erase pp).map aM))) lf=U (.lst ((left.erase pp).map aM)):=aW;have j0:aw H (upd d3 lf (.lst ((left.erase pp).map aM))):=(s4.trans (qs.trans dp)).put gv;generalize(upd d3 lf (.lst ((left.erase pp).map aM)))=gr at*;obtain⟨_,ad0,_,_,_,_,_,_,_,zL,_,_,_⟩:=id KP;refine⟨_,I,o,ad0,_,I,zL,rx _ _ _ _ aD aD aD aD,_,I,o,u,b_,pl,nn,st,ps,pp,I,KP.at,g,KI.ok.ba,KI.ok.lt,λg5 qh wb=>?_⟩;have UP:g5 lf=U (.lst ((left.erase pp).map aM)):=by rw[qh _ (bQ zI) (bQ Wj)];exact Lc
    refine⟨⟨_,_,_,_,_,I,λc ob e=>?_,UP,KP.add qh wb,?_,?_⟩,?_⟩
    ·rw[qh _ (bj e aeP) (bj e aeH)];exact j0 _ _ e
    ·rw[<-zq.1];exact KI
    ·rw[<-zq.1,<-EK,show left.length=(left.filter λk=>k !=pp).length+1 from zq.2.symm];conv=>rhs;unfold qw
     rw[ao];dsimp only;rw[aho]
    ·rw[UP,qa];show((left.erase pp).map aM).length<(left.map aM).length;rw[aU,aU,<-zq.1];omega
  ·have a9:left=[]:=by
    cases left with
    |nil=>rfl
    |cons a t=>exact aro (arq (show(0:Int)<(((a::t).length:Nat):Int)by rw[cW];omega)) q
   subst a9;have EK:ps=i9 st:=EK;refine⟨_,I,iu bz o b_ pl nn s4 ?_⟩;rw[<-EK];exact BC.at
theorem dF.set{H:ax}{aR r u q aq b:Addr}{s:State}{us:List Addr}{ZO:List Use}(bF:dF A H aR r u s)(hw:H aR=U (.ins A.e1 aq (fx (.ref r) (.ref b) (.ref u))))(aK:H q=U (.lst (us.map V.ref)))(a4:Paired (mi A.fg H) us ZO)(b':r≠q)(cB:b≠q):dF A (upd H aR (.ins A.e1 aq (fx (.ref r) (.ref b) (.ref q)))) aR r q {s with uses:=ZO}:=by
 obtain⟨cI,bx,x2,pv,xm,md,C8,xn,PD,PE⟩:=bF.Jw hw;have iv:∀c l,H c=U (.lst l)->(upd H aR (.ins A.e1 aq (fx (.ref r) (.ref b) (.ref q)))) c=U (.lst l):=λc l e=>by rw[aY (cH e hw df)];exact e
 refine⟨aq,b,cI,us,aW,iv _ _ x2,Paired.imp pv λp bu _⟨jm,bt,ga,a1,a2,hi⟩=>⟨jm,bt,ga,?_,iv _ _ a2,iv _ _ hi⟩,iv _ _ xm,iv _ _ aK,Paired.imp a4 λp us _⟨jm,eY,a1,a2⟩=>⟨jm,eY,?_,iv _ _ a2⟩,xn,cB,b'⟩
 ·rw[aY (cH a1 hw (rq (ol _ _) (jy _ _ _ aD aD aD)))];exact a1
 ·rw[aY (cH a1 hw (rq (xh _ _) (jy _ _ _ aD aD aD)))];exact a1
inductive Ym(A:cu)(vs:List V)(H:ax)(Q:c9)(asq:lM):Prop
 |mk (w r u:Addr) (s:State) (i:Int) (h0:vs=[.ref w,.int i]) (ag:dF A H w r u s) (ai:Good s) (aN:jh A w r u H Q s (eC s (.exchange i)))
theorem akx(T:Txt K ap A):a0 P w K ap base a8 5 A.u2 A.ym ["workshop","k"] (Ym A):=by
 have cv:a0 P w K ap base a8 2 A.ve A.yA ["workshop","k"] (Yy A):=akK T;have dB:a0 P w K ap base a8 4 A.vk A.yG ["workshop","k"] (YF A):=akR T;have fQ:a0 P w K ap base a8 3 A.si A.vS ["self"] (O6 A):=WM T;have h8:a0 P w K ap base a8 2 A.mj A.m7 ["self"] (rG A):=tu T;refine T.IA.F.ok amU (λvs H Q E h=>?_) (λb9 cV outer s H vs Q E aL h=>?_)
 ·obtain⟨_,_,_,_,_,rfl,_⟩:=h;rfl
 ·obtain⟨aR,r,u,st,i,rfl,bF,g,ay⟩:=h;have gK:de 2 _:=aL.mono a5;refine⟨_,a3 (c5 (rA (alT MN tx dt (aj 1) (fj WU (c4 eJ I T.dG PySem.boot_len (aB (bH (aj 0) I) aJ)) dt))) (bb (bE (du (aB (c3 I T.tf) aJ)))) dd) (a3 (c5 (rA (lz (c2 cv gK I T.ae8 T.IM.F.bJ T.IM.b .nil bG (aB (aj 0) (aB (aj 1) aJ))))) (bb (bE (du (aB (c3 I T.L2) aJ)))) dd) (a3 (hn (aj 0) (hl (c2 dB aL I T.afe T.IU.F.bJ T.IU.b .nil bG (aB (aj 0) (aB (aj 1) aJ))) T.hW T.V1 fQ (aL.mono a5) T.Ip.b .nil bG) I) (bb (bE (du (aB (c4 JI I T.dG PySem.boot_len (aB (hl (aj 0) T.dr T.tl h8 gK T.qP.b .nil bG) aJ)) aJ)))))),?_⟩;obtain⟨aq,b,cI,bx,b5,dv,ei,fM,dm,eT,hy,jx,ja⟩:=id bF;have iq:(bx.map V.ref).length=st.uses.length:=by rw[aU,Paired.length eT]
  have cZ:eC st (.exchange i)=fl (decide (0<=i)&&decide (i+1<(st.uses.length:Int))) 2 (fl (nT st i.toNat) 3 (.ok (nS st i.toNat,hg [(cE (nS st i.toNat)).length]))):=rfl;rw[cZ]at ay;unfold fl at ay;have tW:∀{m:Str}(iO b tT:Addr),¬m="recipes"->¬m="beginning"->¬m="uses"->(fx (.ref iO) (.ref b) (.ref tT)).lookup m=af:=λiO b tT ag ai aN=>jy _ _ _ ag ai aN;have bad:(decide (0<=i)&&decide (i+1<(st.uses.length:Int)))=aE->∀q,H q=af->Q (.ref q) (upd H q (.lst [V.int (-2)])):=λak q aK=>by rw[ak,ars eM]at ay;exact ay.new bF (aw.refl H) aK I
  have main:(0:Int)<=i->i+1<(st.uses.length:Int)->∃k:Nat,i=(k:Int)/\k+1<st.uses.length/\uw A aR r u H Q (pe st (if nT st k=ah then .ok (nS st k,hg [(cE (nS st k)).length])else .error 3)) (ky (if nT st k=ah then .ok (nS st k,hg [(cE (nS st k)).length])else .error 3)):=λag ai=>by refine⟨i.toNat,aG,aG,?_⟩;rw[arq ag,arq ai]at ay;exact ay
  refine⟨_,I,_,_,I,I,_,I,?_⟩;by_cases cq:¬(0:Int)<=i
  ·rw[arp cq];refine eD ⟨_,I,d6 ⟨eH,λq aK=>bad (by rw[arp cq];rfl) q aK⟩⟩
  have cq:=Z_.mp cq;rw[arq cq];refine d6 ⟨_,I,aR,_,aq,_,_,I,b5,T.dr,T.ha,jc _ _ _,u,_,I,.inl (aI.of dm),_,_,I,I,_,_,I,I,_,I,?_⟩;rw[iq];by_cases cF:¬i+1<(st.uses.length:Int)
  ·rw[arp (show¬i<(st.uses.length:Int)-1 by omega)];exact d6 ⟨eH,λq aK=>bad (by rw[arp cF];simp) q aK⟩
  have cF:=Z_.mp cF;rw[arq (show i<(st.uses.length:Int)-1 by omega)];refine eD ?_;obtain⟨k,rfl,aH,iK⟩:=main cq cF;refine⟨_,I,_,I,aR,r,u,st,k,I,bF,g,aH,λH1 s1=>⟨_,I,?_⟩⟩;cases av:nT st k with
  |false=>rw[av,ars eM]at iK;exact d6 ⟨eH,λq aK=>iK.new bF s1 aK I⟩
  |true=>
   rw[av,art I]at iK;refine eD ⟨_,I,_,I,aR,r,u,st,k,I,bF.grow s1,g,aH,av,λaz o b_ pl nn s2 Bx=>?_⟩;obtain⟨_,jm,_,_,_,_,_,_,_,hM,_,_⟩:=id Bx;have bo:=Ep g aH av;refine⟨o,jm,_,I,hM,rx _ _ _ _ aD aD aD aD,o,u,b_,pl,nn,st,_,I,Bx,g,bo,λaZ q us s3 aK hJ fC=>?_⟩;have fv:=s1.trans (s2.trans s3);have iL:H q=af:=(s1.trans s2).free aK;refine⟨_,I,aR,_,aq,_,I,fv _ _ b5,T.dr,T.ha,C7 _ _ _,?_⟩;rw[Hc];have sP:=(bF.grow fv).set (fv _ _ b5) hJ fC (bj dv iL) (bj fM iL);have es:({st with uses:=(om st (hq st.uses.length k)).uses}:State)=nS st k:=by rw[Kb g aH av];rfl
   rw[es]at sP;have y9:Good (nS st k):=by rw[Kb g aH av];exact KA g bo
   generalize ik:upd aZ aR (.ins A.e1 aq (fx (.ref r) (.ref b) (.ref q)))=bz at*;have eW:bz aR=U (.ins A.e1 aq (fx (.ref r) (.ref b) (.ref q))):=by rw[<-ik,aW]
   have kR:h7 aR r u H bz:=λc o e n _ _=>by rw[<-ik,aY n];exact fv _ _ e
   refine⟨_,I,aR,aq,_,I,eW,tW _ _ _ aD aD aD,aR,r,q,_,I,sP,y9,λcb d s5 hd ago=>?_⟩;refine⟨d,_,I,ago,eH,λl au=>?_⟩;have c6:aw cb (upd cb l (.lst [V.int ((gA (nS st k)).length:Nat)])):=aw.new au;have lS:H l=af:=by
    cases z:H l with
    |none=>rfl
    |some ob=>
     by_cases n:l=aR
     ·rw[n,s5 _ _ eW]at au;cases au
     ·have:=s5 _ _ (show bz l=U ob by rw[<-ik,aY n];exact fv _ _ z);rw[this]at au;cases au
   refine iK _ l q (λc o e b' cB en=>c6 _ _ (s5 _ _ (kR c o e b' cB en))) (sP.grow (s5.trans c6)) (.inr iL) lS ?_;rw[aW];unfold gA mF;rw[aU];rfl
inductive Yv(A:cu)(vs:List V)(H:ax)(Q:c9)(asq:lM):Prop
 |mk (w r u:Addr) (s:State) (h0:vs=[.ref w]) (ag:dF A H w r u s) (ai:Good s) (aN:jh A w r u H Q s (eC s .told))
theorem anA(n:Nat):(PV n (1:Int)).sum=(n:Int):=by
 induction n with
 |zero=>rfl
 |succ n ih=>rw[List.replicate_succ,oy,ih];omega
theorem ajr(ps:List Nat)(n:Nat):pa (ps++[n])=pa ps+if(ps.length !=n)=ah then 1 else 0:=by unfold pa;rw[cA,j5,pD,PX (by rw[e8]),List.countP_append];congr 1;show List.countP _ [(ps.length,n)]=_;rw[List.countP_cons,List.countP_nil];simp
theorem akG(T:Txt K ap A)(B:ux K A.lh):a0 P w K ap base a8 5 A.va A.yw ["workshop"] (Yv A):=by
 have dB:a0 P w K ap base a8 4 A.vC A.yX ["workshop"] (Y0 A):=alc T B;have fQ:a0 P w K ap base a8 3 A.si A.vS ["self"] (O6 A):=WM T;refine T.IJ.F.ok CJ (λvs H Q E h=>?_) (λb9 cV outer s H vs Q E aL h=>?_)
 ·obtain⟨_,_,_,_,rfl,_⟩:=h;rfl
 ·obtain⟨aR,r,u,st,rfl,bF,g,ay⟩:=h;refine⟨_,a3 (cQ (i:=1) CJ.ba I (bA I) (c2 dB aL I T.afs T.I8.F.bJ T.I8.b .nil bG (aB (aj 0) aJ))) (a3 (hn (aj 0) (hl (aj 1) T.hW T.V1 fQ (aL.mono a5) T.Ip.b .nil bG) I) (bb (bE (du (aB (c4 (RP I) I T.D9 Rv (aB (kB (g:=Kn K 2 (Bp (mu 2) (Bp (mu 3) Km))) I CJ.ba (F7 I T.x7 (aB (bH (aj 1) I) aJ)) (ic (own:=[("place",2),("before",3)]) I) (λ_ _ _ _ _=>by exact wZ I (mK (d9 (i:=2) CJ.ba I (bA I)) (mK (d9 (i:=3) CJ.ba I (bA I)) w0))) (λ_ _ _ _ _=>Gb (cJ rv (aj 2) (aj 3) (cY _))) (λ_ _ _ _ _=>dt)) aJ)) aJ))))),?_⟩;obtain⟨aq,b,cI,bx,b5,dv,ei,fM,dm,eT,hy,jx,ja⟩:=id bF;have cZ:eC st .told=.ok (AL st,hg [DJ st]):=rfl;rw[cZ]at ay;have ay:uw A aR r u H Q (AL st) (hg [DJ st]):=ay;obtain⟨bo,hlen⟩:=Pr g;refine⟨_,I,aR,r,u,st,I,bF,g,λaz o b_ pl nn s2 Bx=>?_⟩;obtain⟨_,jm,_,_,_,_,_,_,_,hM,dc,_⟩:=id Bx;refine⟨_,I,o,jm,_,I,hM,rx _ _ _ _ aD aD aD aD,o,u,b_,pl,nn,st,_,I,Bx,g,bo,λaZ q us s3 aK hJ fC=>?_⟩;have fv:=s2.trans s3;have iL:H q=af:=s2.free aK;refine⟨_,I,aR,_,aq,_,I,fv _ _ b5,T.dr,T.ha,C7 _ _ _,?_⟩;rw[Hc];have sP:=(bF.grow fv).set (fv _ _ b5) hJ fC (bj dv iL) (bj fM iL);have es:({st with uses:=(om st (i9 st)).uses}:State)=AL st:=by rw[ZC];rfl
  rw[es]at sP;generalize ik:upd aZ aR (.ins A.e1 aq (fx (.ref r) (.ref b) (.ref q)))=bz at*;have eW:bz aR=U (.ins A.e1 aq (fx (.ref r) (.ref b) (.ref q))):=by rw[<-ik,aW]
  have kR:h7 aR r u H bz:=λc o e n _ _=>by rw[<-ik,aY n];exact fv _ _ e
  have now:o≠aR:=cH (s3 _ _ hM) (fv _ _ b5) (rq (F2 _ _ _ _) (jy _ _ _ aD aD aD));have FP:pl≠aR:=cH (s3 _ _ dc) (fv _ _ b5) df;have qm:bz o=U (.ins A.et jm (ls (.ref u) (.ref b_) (.ref pl) (.ref nn))):=by rw[<-ik,aY now];exact s3 _ _ hM
  have lx:bz pl=U (.lst ((i9 st).map aM)):=by rw[<-ik,aY FP];exact s3 _ _ dc
  refine⟨_,I,o,_,jm,_,_,I,qm,T.hW,T.zF,MP _ _ _ _,pl,_,I,aI.of lx,λD cg=>Fz (J:=DQ K pl) (n:=(i9 st).length) (λj ae=>aw bz ae/\ae D=U (.lst ((PV (pa ((i9 st).take j)) (1:Int)).map V.int))) ⟨aw.new cg,by rw[aW];rfl⟩ (λj ae bw p=>⟨_,aM ((i9 st)[j]),aI.of (p.1 _ _ lx),by rw[dI,gB bw];rfl⟩) (λae p=>⟨_,aI.of (p.1 _ _ lx),by rw[aU];exact bR _⟩) ?_ ?_⟩
  ·rintro j cb x acv bw ⟨s5,cw⟩ ⟨f9,y,rfl,mC,rfl,a_⟩;obtain⟨n,aC,rfl⟩:=y' (a_ _ (aI.of (s5 _ _ lx)));have aq3:D≠f9:=bj cw mC;refine⟨f9,_,I,eQ.of aW,I,_,_,I,_,_,I,I,ZZ a5,?_⟩;have c6:aw cb (upd cb f9 (.tup [aM j,aM n])):=aw.new mC;have hY:=j1 aC;have em:pa ((i9 st).take (j+1))=pa ((i9 st).take j)+if(j !=n)=ah then 1 else 0:=by rw[hY,ajr,fo,mU (kN bw)]
   have BX:pa ((i9 st).take j)<=10:=by
    have a1:pa ((i9 st).take j)<=((i9 st).take j).length:=by unfold pa;refine b3 List.countP_le_length ?_;rw[aar,e8];omega
    rw[fo,hlen]at a1;have:=g.use;omega
   generalize(upd cb f9 (.tup [aM j,aM n]))=dj at*;refine⟨_,I,_,I,I,_,I,?_⟩;refine d5 (λq=>?_) (λq=>?_)
   ·have K':(j !=n)=ah:=by have q:(!decide (V.int ((j:Nat):Int)=V.int ((n:Nat):Int)))=ah:=q;simp at q;simp;omega
    refine⟨_,c6 _ _ cw,?_,(s5.trans c6).put cg,?_⟩
    ·rw[aU,aaq];exact jw aG
    ·rw[aW,em,art K',List.replicate_succ',eU];rfl
   ·have K':¬(j !=n)=ah:=λz=>q (by show(!decide (V.int ((j:Nat):Int)=V.int ((n:Nat):Int)))=ah;simp at z;simp;omega)
    refine⟨s5.trans c6,?_⟩;rw[c6 _ _ cw,em,ars K',HB]
  ·rintro cb ⟨s5,cw⟩;rw[hA]at cw;refine⟨D,_,I,aI.of cw,eH,λl au=>?_⟩;rw[anA,<-ajq g];have c6:aw cb (upd cb l (.lst [V.int ((DJ st:Nat):Int)])):=aw.new au;have lS:H l=af:=by
    cases z:H l with
    |none=>rfl
    |some ob=>
     by_cases n:l=aR
     ·rw[n,s5 _ _ eW]at au;cases au
     ·have:=s5 _ _ (show bz l=U ob by rw[<-ik,aY n];exact fv _ _ z);rw[this]at au;cases au
   refine ay _ l q (λc o e b' cB en=>c6 _ _ (s5 _ _ (kR c o e b' cB en))) (sP.grow (s5.trans c6)) (.inr iL) lS ?_;rw[aW];rfl
end
theorem XY(n d:Nat)(h:1<=n):cG.dM n d (U (-1))=n-1:=by show(if(-1:Int)<0 then((-1:Int)+(n:Int)).toNat else min (-1:Int).toNat n)=n-1;rw[art a5];omega
section
variable{P:b6}{w:bX}{K:PySem.W.Frag}{ap:Str->Option ar}{base:Heap}{A:cu}
inductive YX(vs:List V)(H:ax)(Q:c9)(asq:lM):Prop
 |mk (a:Addr) (ns:List dq) (h0:vs=[.ref a]) (ag:H a=U (.lst (ns.map nm))) (ai:ns≠[]) (aN:ns.length<=300) (bD:uH H Q (flat (k_ ns)))
theorem ak9(T:Txt K ap A):a0 P w K ap base a8 1 A.vz A.yU ["names"] YX:=by
 refine T.uC.F.ok OT (λvs H Q E h=>?_) (λb9 cV outer s H vs Q E aL h=>?_)
 ·obtain⟨_,_,rfl,_⟩:=h;rfl
 ·obtain⟨a,ns,rfl,ay,fu,au,k⟩:=h;refine⟨_,a3 (cQ (i:=1) OT.ba I (bA I) (du aJ)) (a3 (i6 gD I (gm (pf tM (aj 0) zT (ly (F6 G9 dt)))) (d9 (i:=2) OT.ba I (bA I)) (bb (fE (iy PySem.F.plainAttrs_list PySem.F.slot_list_extend PySem.F.type_list_extend zC (aj 1) (aB (du (aB (c3 I T.qv) (aB (aj 2) aJ))) aJ))))) (bb (bE (fj kx (aj 1) (pf tM (aj 0) (ly (F6 G9 dt)) zT))))),?_⟩;have nq:1<=ns.length:=by
   cases ns with
   |nil=>exact aro I fu
   |cons x r=>rw[cW];omega
  have cq:iJ (ns.map nm) af (U (-1))=ns.dropLast.map nm:=by unfold iJ;rw[cG.CE,XY _ _ (by rw[aU];exact nq),aU,rR,aaC,<-Ai,aae]
  have cF:iJ (ns.map nm) (U (-1)) af=(ns.drop (ns.length-1)).map nm:=by unfold iJ;rw[cG.CE,XY _ _ (by rw[aU];exact nq),aU,<-Ht];exact pE (by rw[aU,j3];omega)
  refine⟨ec _,λnp qd=>?_⟩;have s1:aw H (upd H np (.lst [])):=aw.new qd;have b':(upd H np (.lst [])) np=U (.lst []):=aW;generalize(upd H np (.lst []))=H1 at*;refine⟨_,I,_,I,_,I,a,_,I,aI.of (s1 _ _ ay),λa7 gW=>?_⟩;have ac9:iJ (ns.map nm) af (U (-1:Int))=ns.dropLast.map nm:=cq;rw[ac9];have s2:aw H1 (upd H1 a7 (.lst (ns.dropLast.map nm))):=aw.new gW;have a2:(upd H1 a7 (.lst (ns.dropLast.map nm))) a7=U (.lst (ns.dropLast.map nm)):=aW;generalize(upd H1 a7 (.lst (ns.dropLast.map nm)))=az at*;have aj6:np≠a7:=bj b' gW;refine⟨_,I,⟨_,aI.of a2⟩,mr (K:=K) (a:=a7) (xs:=ns.dropLast.map nm) (λi σ ae=>∃v2:Option V,σ=[U (.ref a),U (.ref np),v2]/\ff np az ae/\ae np=U (.lst (((ns.dropLast.take i).flatMap λa=>[[42],codes a]).map aV))) ⟨af,I,λ_ _ _ e=>e,by rw[qG];exact s2 _ _ b'⟩ (λi σ ae _ h=>?_) ?_ ?_⟩
  ·obtain⟨_,_,kb,_⟩:=h;exact aI.of (kb _ _ (bQ aj6) a2)
  ·rintro i x σ ae av ⟨v2,rfl,kb,ag⟩;obtain⟨c,aF,rfl⟩:∃c,ns.dropLast[i]? =U c/\nm c=x:=by
    rw[dI]at av;cases q:ns.dropLast[i]? with
    |none=>rw[q]at av;cases av
    |some b=>rw[q]at av;exact⟨b,I,bS av⟩
   have h1:=(ej.mp aF).1;rw[Ah]at h1;refine⟨_,I,.inl ⟨I,_,aI.of ag⟩,_,I,iC,λbc i1=>?_⟩;have MA:np≠bc:=bj ag i1;refine⟨np,bc,_,_,I,I,by rw[aY MA];exact ag,aW,?_,?_⟩
   ·rw[aU];have a1:((ns.dropLast.take i).flatMap λa=>[[42],codes a]).length<=2*(ns.dropLast.take i).length:=lT λ_ _=>bR _;rw[fo,Ah]at a1;exact b3 (show _<=1000 by show _+2<=1000;omega) a5
   ·refine⟨_,I,λy o n e=>?_,?_⟩
    ·rw[aY n];have:=kb y o n e;rw[aY (bj this i1)];exact this
    ·rw[aW,j1 aF,k6,eU];rfl
  ·rintro σ aZ ⟨v2,rfl,iU,aN⟩;rw[aU,hA]at aN;have nan:a≠np:=bj ay qd;have s3:aw H aZ:=λc o e=>iU _ _ (bj e qd) (s2 _ _ (s1 _ _ e));refine⟨_,I,_,I,_,I,_,I,a,_,I,aI.of (s3 _ _ ay),λc_ hJ=>?_⟩;have ada:iJ (ns.map nm) (U (-1:Int)) af=(ns.drop (ns.length-1)).map nm:=cF;rw[ada];have en:np≠c_:=bj aN hJ;refine⟨np,c_,_,_,I,I,by rw[aY en];exact aN,aW,?_,λgN s8=>?_⟩
   ·rw[aU,aU,j3];have a1:(ns.dropLast.flatMap λa=>[[42],codes a]).length<=2*ns.dropLast.length:=lT λ_ _=>bR _;rw[Ah]at a1;exact b3 (show _<=1000 by omega) a5
   ·have s4:aw aZ (upd aZ c_ (.lst ((ns.drop (ns.length-1)).map nm))):=aw.new hJ;refine k _ gN ((s3.trans s4).trans (aw.new s8)) ((s3.trans s4).free s8) ?_;rw[aW,Kg ns fu,eU,dn];rfl
inductive YP(vs:List V)(H:ax)(Q:c9)(asq:lM):Prop
 |mk (t:List Nat) (b:Bool) (h0:vs=[aV t,.bB b]) (ag:t.length<=100000) (ai:Q (aV (brk t b)) H)
theorem ak1(T:Txt K ap A):a0 P w K ap base a8 1 A.vt A.yO ["text","needed"] YP:=by
 refine T.AQ.F.ok amZ (λvs H Q E h=>?_) (λb9 cV outer s H vs Q E aL h=>?_)
 ·obtain⟨_,_,rfl,_⟩:=h;rfl
 ·obtain⟨t,b,rfl,bV,k⟩:=h;refine⟨_,bb (bE (zQ (lz (aj 1)) (fj tv (fj tv gL (aj 0)) gL) (aj 0))),?_⟩;refine⟨_,I,_,I,?_⟩;cases b with
  |false=>exact eD ⟨_,I,k⟩
  |true=>
   refine d6 ⟨_,I,_,_,I,I,?_,_,_,I,I,?_,?_⟩
   ·rw[e4 t,show(dY "(").length=1 by decide+kernel];exact b3 (show _<=100002 by omega) a5
   ·rw[nQ,e4 t,show(dY "(").length=1 by decide+kernel,show(dY ")").length=1 by decide+kernel];exact b3 (show _<=100002 by omega) a5
   ·have e:dY "("++bW t++dY ")"=bW (brk t ah):=by refine rI ?_;rw[bf.ou,bf.ou,show bf.a6 (dY "(")=[40]by decide+kernel,show bf.a6 (dY ")")=[41]by decide+kernel];unfold brk;simp
    rw[e];exact k
def xY(H:ax)(br:List Addr)(st:List Ent):Prop:=Paired (λ(p:Addr)(e:Ent)=>H p=U (.tup [aV e.1,aV e.2])) br st
theorem xY.keep{H ae:ax}{br:List Addr}{st:List Ent}(h:xY H br st)(k:∀p e,H p=U (.tup e)->ae p=U (.tup e)):xY ae br st:=Paired.imp h λ_ _ _ e=>k _ _ e
inductive YH(vs:List V)(H:ax)(Q:c9)(asq:lM):Prop
 |mk (a:Addr) (F:gq) (h0:vs=[.ref a]) (ag:H a=U (.lst ((flat F).map aV))) (ai:dJ F) (aN:(flat F).length<=1000) (bD:∀ae,aw H ae->Q (aV (codes (gQ F))) ae)
theorem akT(T:Txt K ap A):a0 P w K ap base a8 2 A.vm A.yI ["formula"] YH:=by
 have cv:a0 P w K ap base a8 1 A.vt A.yO ["text","needed"] YP:=ak1 T;have dB:a0 P w K ap base a8 1 A.pQ A.q9 ["node"] CR:=FV T;refine T.IW.F.ok tK (λvs H Q E h=>?_) (λb9 cV outer s H vs Q E aL h=>?_)
 ·obtain⟨_,_,rfl,_⟩:=h;rfl
 ·obtain⟨a,F,rfl,ay,jn,au,k⟩:=h;refine⟨_,a3 (cQ (i:=1) tK.ba I (bA I) (du aJ)) (a3 (i6 gD I (alG I T.Jr (aB (aj 0) aJ)) (d9 (i:=2) tK.ba I (bA I)) (a3 (cQ (i:=3) tK.ba I (bA I) (aj 2)) (a3 (c5 (cJ tw (aj 2) (tC (aB (c3 I T.qv) (aB (c3 I T.rJ) aJ))) me) (a3 (cQ (i:=4) tK.ba I (bA I) (qq PySem.F.plainAttrs_list PySem.F.slot_list_pop PySem.F.type_list_pop wI (aj 1))) (a3 (cQ (i:=5) tK.ba I (bA I) (qq PySem.F.plainAttrs_list PySem.F.slot_list_pop PySem.F.type_list_pop wI (aj 1))) (a3 (cQ (i:=3) tK.ba I (bA I) (fj tv (c2 cv aL I T.T9 T.AQ.F.bJ T.AQ.b .nil bG (aB (eo o9 (aj 4) dt (λ_ _=>I)) (aB (tB tw (eo o9 (aj 4) dt (λ_ _=>I)) (tC (aB (c3 I T.qv) (aB (c3 I T.rJ) aJ))) me) aJ))) (aj 2))) (bb (w1 (i:=3) tK.ba I (bA I) (c2 cv aL I T.T9 T.AQ.F.bJ T.AQ.b .nil bG (aB (eo o9 (aj 5) dt (λ_ _=>I)) (aB (tB gY (eo o9 (aj 5) dt (λ_ _=>I)) (c2 dB aL I T.EB T.qR.F.bJ T.qR.b .nil bG (aB (aj 2) aJ)) (cY _)) aJ))) aii))))) dd) (bb (fE (iy PySem.F.plainAttrs_list PySem.F.slot_list_append PySem.F.type_list_append mI (aj 1) (aB (tC (aB (aj 2) (aB (aj 3) aJ))) aJ))))))) (bb (bE (eo o9 (eo gi (aj 1) dt (λ_ _=>I)) dt (λ_ _=>I))))),?_⟩;refine⟨ec _,λwr Ff=>?_⟩;have s1:aw H (upd H wr (.lst [])):=aw.new Ff;have b5:(upd H wr (.lst [])) wr=U (.lst []):=aW;generalize(upd H wr (.lst []))=H1 at*;have iY:((flat F).map aV).length=(flat F).length:=aU ..;have ahD:((flat F).map aV).reverse=(flat F).reverse.map aV:=aas.symm;refine⟨_,I,a,_,I,aI.of (s1 _ _ ay),aeL (K:=K) (a:=a) (xs:=(flat F).map aV) (λi σ ae=>asA λ(v2 eL v4 ho:Option V)(br:List Addr)=>σ=[U (.ref a),U (.ref wr),v2,eL,v4,ho]/\aw H ae/\ae wr=U (.lst (br.reverse.map V.ref))/\xY ae br (((flat F).reverse.take i).foldl hr [])/\safe ((flat F).reverse.drop i) (((flat F).reverse.take i).foldl hr [])) ⟨af,af,af,af,[],I,s1,b5,.nil,?_⟩ (λi σ ae _ h=>?_) ?_ ?_⟩
  ·rw[rR,qG];exact CG F jn []
  ·obtain⟨_,_,_,_,_,_,s2,_⟩:=h;exact aI.of (s2 _ _ ay)
  ·rintro i x σ az av ⟨v2,eL,v4,ho,br,rfl,s2,dv,d1,U'⟩;rw[ahD]at av;obtain⟨n,aC,rfl⟩:∃n,(flat F).reverse[i]? =U n/\aV n=x:=by
    rw[dI]at av;cases q:(flat F).reverse[i]? with
    |none=>rw[q]at av;cases av
    |some b=>rw[q]at av;exact⟨b,I,bS av⟩
   obtain⟨h1,Bi⟩:=ej.mp aC;rw[t2]at h1;have hY:=j1 aC;have lZ:((flat F).reverse.take (i+1)).foldl hr []=hr (((flat F).reverse.take i).foldl hr []) n:=by rw[hY,qB];rfl
   have hw:lC (((flat F).reverse.take i).foldl hr [])<=15000:=by have a1:=Kj ((flat F).reverse.take i) [];have a2:=aoJ (flat F).reverse i;rw[ZV]at a2;have hi:=ZU jn;have qY:lC []=0:=rfl;omega
   have ip:n.length<=13:=(m9 F jn n (List.mem_reverse.mp (eN aC))).1;have ET:(flat F).reverse.drop i=n::(flat F).reverse.drop (i+1):=by rw[kK (by rw[t2];exact h1),Bi]
   rw[ET]at U';rw[lZ];have Lp:(((flat F).reverse.take i).foldl hr []).length<=15000:=by have:=aoG (((flat F).reverse.take i).foldl hr []);omega
   obtain⟨ahE,o7⟩:=U';generalize((flat F).reverse.take i).foldl hr []=st at*;refine⟨_,I,_,I,iC,λiN iL=>?_⟩;refine⟨iN,_,I,.inr (eQ.of aW),I,I,_,I,?_⟩;have s3:aw az (upd az iN (.tup [aV [42],aV [124]])):=aw.new iL;generalize upd az iN (.tup [aV [42],aV [124]])=aZ at*;show if iM (aV n) [aV [42],aV [124]]=ah then _ else _
   rw[zt];have ei:=s3 _ _ dv;have EL:=xY.keep d1 λp e h=>s3 _ _ h;have agI:(decide (n=[42])||decide (n=[124]))=hL n:=rfl;rw[agI];cases Lj:hL n with
   |false=>
    have K8:hr st n=(n,n)::st:=by unfold hr;rw[Lj];rfl
    rw[K8]at o7⊢;refine eD ⟨_,I,.inl ⟨I,_,aI.of ei⟩,_,I,_,I,iC,λq aK=>?_⟩;have Cv:wr≠q:=bj ei aK;refine⟨wr,_,_,I,I,by rw[aY Cv];exact ei,?_,?_⟩
    ·rw[aU,t2,Paired.length d1];exact k7 Lp a5
    ·refine⟨_,_,_,_,q::br,I,((s2.trans s3).trans (aw.new aK)).put Ff,?_,.cons ?_ (EL.keep λp e h=>?_),o7⟩
     ·rw[aW,t7,eU];rfl
     ·rw[aY (bQ Cv),aW]
     ·rw[aY (cH h ei df),aY (bj h aK)];exact h
   |true=>
    have ai:=ahE Lj;match st,br,ai,EL,ei,hw,o7,Lp with
    |f::s'::r,G1::tQ::mP,_,.cons g8 (.cons es ki),ei,hw,o7,Lp=>
     have aS:(G1::tQ::mP).reverse.map V.ref=(tQ::mP).reverse.map V.ref++[V.ref G1]:=bl;have aQ:(tQ::mP).reverse.map V.ref=mP.reverse.map V.ref++[V.ref tQ]:=bl;rw[aS]at ei;refine d6 ⟨_,I,.inl ⟨I,_,aI.of ei⟩,wr,_,_,I,I,ei,zw _ _,?_⟩;rw[JZ,aQ];have fM:(upd aZ wr (.lst (mP.reverse.map V.ref++[V.ref tQ]))) wr=U (.lst (mP.reverse.map V.ref++[V.ref tQ])):=aW;refine⟨_,I,.inl ⟨I,_,aI.of fM⟩,wr,_,_,I,I,fM,zw _ _,?_⟩;rw[JZ,tR];have dm:(upd aZ wr (.lst (mP.reverse.map V.ref))) wr=U (.lst (mP.reverse.map V.ref)):=aW;have kp:∀p o,p≠wr->aZ p=U o->(upd aZ wr (.lst (mP.reverse.map V.ref))) p=U o:=λp o n e=>by rw[aY n];exact e
     have s5:aw H (upd aZ wr (.lst (mP.reverse.map V.ref))):=(s2.trans s3).put Ff;generalize upd aZ wr (.lst (mP.reverse.map V.ref))=cb at*;have ql:∀{p e},aZ p=U (.tup e)->p≠wr:=λh=>cH h ei df;have Sb:=kp _ _ (ql g8) g8;have Sj:=kp _ _ (ql es) es;have aqS:f.2.length+2+(s'.2.length+2)<=15000:=by
      have A1:lC (f::s'::r)=(f.2.length+2)+((s'.2.length+2)+lC r):=by unfold lC;rfl
      omega
     have kb:=Ea f.2 (hL f.1);have sy:=Ea s'.2 (decide (s'.1=fY n));refine⟨_,I,G1,_,_,_,I,I,eQ.of Sb,eI (j:=1) I,_,I,G1,_,_,_,I,I,eQ.of Sb,eI (j:=0) I,iC,λi7 s9=>?_⟩;refine⟨i7,_,I,.inr (eQ.of aW),I,I,f.2,hL f.1,?_,aG,?_⟩
     ·show[aV f.2,V.bB (iM (aV f.1) [aV [42],aV [124]])]=_;rw[zt];rfl
     have c6:aw cb (upd cb i7 (.tup [aV [42],aV [124]])):=aw.new s9;generalize upd cb i7 (.tup [aV [42],aV [124]])=dj at*;refine⟨_,I,_,_,I,I,?_,?_⟩
     ·rw[e4,e4];exact b3 (show _<=100000 by omega) a5
     have cq:bW (brk f.2 (hL f.1))++bW n=bW (brk f.2 (hL f.1)++n):=rI (by rw[bf.ou]);rw[cq];refine⟨_,I,_,I,tQ,_,_,_,I,I,eQ.of (c6 _ _ Sj),eI (j:=1) I,_,I,tQ,_,_,_,I,I,eQ.of (c6 _ _ Sj),eI (j:=0) I,_,I,n,I,jw aG,I,s'.2,decide (s'.1=fY n),?_,aG,?_⟩
     ·show[aV s'.2,V.bB (decide (aV s'.1=aV (fY n)))]=_;by_cases z:s'.1=fY n
      ·rw[arq z,arq (congrArg aV z)]
      ·rw[arp z,arp (λh=>z (xc h))]
     refine⟨_,_,I,I,?_,?_⟩
     ·rw[e4,e4,cA];exact b3 (show _<=100000 by omega) a5
     have cF:bW (brk f.2 (hL f.1)++n)++bW (brk s'.2 (decide (s'.1=fY n)))=bW (brk f.2 (hL f.1)++n++brk s'.2 (decide (s'.1=fY n))):=rI (by rw[bf.ou]);rw[cF];have K8:hr (f::s'::r) n=(n,brk f.2 (hL f.1)++n++brk s'.2 (decide (s'.1=fY n)))::r:=by unfold hr;rw[Lj];rfl
     rw[K8]at o7⊢;have eT:=c6 _ _ dm;refine⟨_,I,.inl ⟨I,_,aI.of eT⟩,_,I,_,I,iC,λq aK=>?_⟩;have Cv:wr≠q:=bj eT aK;refine⟨wr,_,_,I,I,by rw[aY Cv];exact eT,?_,?_⟩
     ·rw[aU,t2,Paired.length ki];have:(f::s'::r).length=r.length+2:=rfl;exact k7 (show _<=15000 by omega) a5
     ·refine⟨_,_,_,_,q::mP,I,((s5.trans c6).trans (aw.new aK)).put Ff,?_,.cons ?_ (xY.keep (H:=aZ) ki λp e h=>?_),o7⟩
      ·rw[aW,t7,eU];rfl
      ·rw[aY (bQ Cv),aW]
      ·have e_:=c6 _ _ (kp _ _ (ql h) h);rw[aY (ql h),aY (bj e_ aK)];exact e_
  ·rintro σ az ⟨v2,eL,v4,ho,br,rfl,s2,dv,d1,_⟩;rw[iY,pE (by rw[t2];exact bR _),p2 F jn]at d1;match br,d1,dv with
   |[t0],.cons e .nil,dv=>exact⟨_,I,wr,_,_,_,I,I,aI.of dv,eI (j:=0) I,t0,_,_,_,I,I,eQ.of e,eI (j:=1) I,k az s2⟩
end
def xS(H:ax)(g6:Addr)(p:Addr)(F:gq):Prop:=H p=U (.lst ((flat F).map aV))/\p≠g6
theorem afx{bu:jG}(g:GoodR bu):dJ (uo bu):=⟨za _ (kZ g.t1) g.fw,oY _ (za _ (kZ g.g1) g.p4)⟩
theorem Bm(ns:List dq)(h:ns≠[]):(flat (k_ ns)).length<=2*ns.length:=by
 rw[Kg ns h,cA,aU,j3];have a1:(ns.dropLast.flatMap λa=>[[42],codes a]).length<=2*ns.dropLast.length:=lT λ_ _=>bR _;rw[Ah]at a1;have:1<=ns.length:=by
  cases ns with
  |nil=>exact aro I h
  |cons x r=>rw[cW];omega
 omega
theorem adx{bu:jG}(g:GoodR bu):(flat (uo bu)).length<=25:=by show([42]::(flat (k_ bu.takes)++flat (dg (k_ bu.gives)))).length<=25;rw[cW,cA,rd (za _ (kZ g.g1) g.p4)];have ag:=Bm bu.takes (kZ g.t1);have ai:=Bm bu.gives (kZ g.g1);have aN:=g.oq;have bD:=g.oV;omega
theorem RK{s:State}(g:Good s):∀F∈jg s,dJ F/\(flat F).length<=200:=by
 intro F jn;unfold jg at jn;rcases gn.mp jn with h|h
 ·obtain⟨a,ay,rfl⟩:=fq.mp h;exact⟨g.wQ a ay,by show 1<=200;decide⟩
 ·rcases gn.mp h with h|h
  ·obtain⟨u,a4,rfl⟩:=fq.mp h;have EG:=g.recAt (g.gP u a4).1;exact⟨afx EG,b3 (adx EG) a5⟩
  ·split at h
   ·cases h
   ·rename_i aP;rw[gp.mp h];have fu:(cE s).map (dh s)≠[]:=λz=>aP (by have:=List.map_eq_nil_iff.mp z;rw[this];rfl)
    refine⟨za _ fu λa ay=>?_,?_⟩
    ·obtain⟨n,aC,rfl⟩:=fq.mp ay;exact g.GH aC
    ·have ag:=Bm _ fu;have ai:=rH g;rw[aU]at ag;omega
section
variable{P:b6}{w:bX}{K:PySem.W.Frag}{ap:Str->Option ar}{base:Heap}{A:cu}
inductive YC(A:cu)(vs:List V)(H:ax)(Q:c9)(asq:lM):Prop
 |mk (aR r u:Addr) (s:State) (h0:vs=[.ref aR]) (ag:dF A H aR r u s) (ai:Good s) (aN:∀ae g6(cs:List Addr),aw H ae->H g6=af->ae g6=U (.lst (cs.map V.ref))->Paired (xS ae g6) cs (jg s)->Q (.ref g6) ae)
theorem akO(T:Txt K ap A):a0 P w K ap base a8 3 A.vi A.yE ["workshop"] (YC A):=by
 have cv:a0 P w K ap base a8 1 A.pQ A.q9 ["node"] CR:=FV T;have dB:a0 P w K ap base a8 1 A.vz A.yU ["names"] YX:=ak9 T;have fQ:a0 P w K ap base a8 2 A.pP A.q8 ["formula"] (CQ (K:=K)):=FU T;have h8:a0 P w K ap base a8 2 A.mj A.m7 ["self"] (rG A):=tu T;refine T.IS.F.ok z0 (λvs H Q E h=>?_) (λb9 cV outer s H vs Q E aL h=>?_)
 ·obtain⟨_,_,_,_,rfl,_⟩:=h;rfl
 ·obtain⟨aR,r,u,st,rfl,bF,g,k⟩:=h;have dW:de 1 _:=aL.mono a5;refine⟨_,a3 (Cz (i:=1) I z0.ba I I (CY I I I I) (gm (bH (aj 0) I)) (ic (own:=[("name",5)]) I) (λ_ _ _ _ _=>d9 (i:=5) z0.ba I (bA I)) (λ_ _ _ _ _=>jY) (λ_ _ _ _ _=>du (aB (c2 cv dW I T.EB T.qR.F.bJ T.qR.b .nil bG (aB (aj 5) aJ)) aJ))) (a3 (i6 gD I (gm (bH (aj 0) I)) (d9 (i:=2) z0.ba I (bA I)) (a3 (cQ (i:=3) z0.ba I (bA I) (eo gi (bH (aj 0) I) (bH (aj 2) I) (λ_ _=>I))) (bb (fE (iy PySem.F.plainAttrs_list PySem.F.slot_list_append PySem.F.type_list_append mI (aj 1) (aB (fj kx (fj kx (du (aB (c3 I T.qv) aJ)) (c2 dB dW I T.Kv T.uC.F.bJ T.uC.b .nil bG (aB (bH (aj 3) I) aJ))) (c2 fQ aL I T.EA T.qQ.F.bJ T.qQ.b .nil bG (aB (c2 dB dW I T.Kv T.uC.F.bJ T.uC.b .nil bG (aB (bH (aj 3) I) aJ)) aJ))) aJ)))))) (a3 (cQ (i:=4) z0.ba I (bA I) (i5 (JK I) I T.lN m5 (aB (qq PySem.F.plainAttrs_dict PySem.F.slot_dict_values PySem.F.type_dict_values Mr (hl (aj 0) T.dr T.tl h8 aL T.qP.b .nil bG)) aJ))) (a3 (c5 (cJ nB (c4 eJ I T.dG PySem.boot_len (aB (aj 4) aJ)) dt (cY _)) (bb (fE (iy PySem.F.plainAttrs_list PySem.F.slot_list_append PySem.F.type_list_append mI (aj 1) (aB (c2 dB dW I T.Kv T.uC.F.bJ T.uC.b .nil bG (aB (aj 4) aJ)) aJ)))) dd) (bb (bE (aj 1)))))),?_⟩;obtain⟨aq,b,cI,bx,b5,dv,ei,fM,dm,eT,hy,jx,ja⟩:=id bF;refine⟨_,I,aR,_,aq,_,_,I,b5,T.dr,T.qk,tX _ _ _,b,I,⟨_,aI.of fM⟩,λg6 o3=>VF (λH x y=>∃(a:dq)(p:Addr),x=nm a/\y=.ref p/\xS H g6 p (.atom ah a)) ?_ (aI.of fM) o3 ?_ ?_ λH1 ys s1 cX p5=>?_⟩
  ·rintro H1 az x y b ⟨a,p,rfl,rfl,e,n⟩;exact⟨a,p,I,I,b _ _ n e,n⟩
  ·rw[aU];exact b3 g.fst a5
  ·rintro x ao H1 s1 ⟨acc,iZ⟩ h9 bc;obtain⟨a,ay,rfl⟩:=fq.mp ao;have aC:=g.wQ a ay;refine⟨_,I,codes a,I,?_,eH,λp aO=>?_⟩
   ·rw[m6];have:=(wM aC).1;exact jw aG
   ·rw[RZ aC];exact bc _ _ (aw.new aO) ⟨a,p,I,I,aW,bQ (bj iZ aO)⟩
  have key:∀(xs:List dq)(ys:List V),Paired (λx y=>∃(a:dq)(p:Addr),x=nm a/\y=.ref p/\xS H1 g6 p (.atom ah a)) (xs.map nm) ys->∃cs:List Addr,ys=cs.map V.ref/\Paired (xS H1 g6) cs (xs.map λa=>.atom ah a):=by
   intro xs;induction xs with
   |nil=>intro ys h;cases h;exact⟨[],I,.nil⟩
   |cons A1 er ih=>
    intro ys h;cases h with
    |cons h t=>obtain⟨cs,rfl,a4⟩:=ih _ t;obtain⟨uP,p,e,rfl,aO⟩:=h;have e:A1=uP:=Wk e;subst e;exact⟨p::cs,I,.cons aO a4⟩
  obtain⟨adC,rfl,KX⟩:=key st.first ys cX;refine⟨_,I,aR,_,aq,_,_,I,s1 _ _ b5,T.dr,T.ha,jc _ _ _,u,I,⟨_,aI.of (s1 _ _ dm)⟩,mr (K:=K) (a:=u) (xs:=bx.map V.ref) (λi σ ae=>∃(v2 eL:Option V)(cs:List Addr),σ=[U (.ref aR),U (.ref g6),v2,eL,af,af]/\aw H ae/\ae g6=U (.lst (cs.map V.ref))/\Paired (xS ae g6) cs ((st.first.map λa=>ap6 ah a)++(st.uses.take i).map λu=>uo (dw st u.recipe))) ⟨af,af,adC,I,s1,p5,by rw[qG,t5,iP];exact KX⟩ (λi σ ae _ h=>?_) ?_ ?_⟩
  ·obtain⟨_,_,_,_,s2,_⟩:=h;exact aI.of (s2 _ _ dm)
  ·rintro i x σ az av ⟨v2,eL,cs,rfl,s2,sT,n5⟩;obtain⟨dk,nr,rfl⟩:∃dk,bx[i]? =U dk/\V.ref dk=x:=by
    rw[dI]at av;cases q:bx[i]? with
    |none=>rw[q]at av;cases av
    |some dk=>rw[q]at av;exact⟨dk,I,bS av⟩
   obtain⟨us,fC,hH,eY,aS,aQ⟩:=Paired.getL eT nr;have hm:us∈st.uses:=eN fC;have fW:=g.recAt (g.gP us hm).1;obtain⟨pr,lY,ii,bt,ga,bK,cS,hv⟩:=dF.recipe ei (g.gP us hm).1;refine⟨_,I,aR,_,aq,_,_,I,s2 _ _ b5,T.dr,T.lq,mc _ _ _,_,I,dk,_,hH,_,_,I,s2 _ _ aS,T.mm,T.tp,xh _ _,r,_,_,_,I,I,aI.of (s2 _ _ dv),eI (l4 lY),?_⟩;refine⟨_,I,.inl ⟨I,_,aI.of sT⟩,eH,λa7 gW=>?_⟩;have s3:aw az (upd az a7 (.lst [aV [42]])):=aw.new gW;have hi:(upd az a7 (.lst [aV [42]])) a7=U (.lst [aV [42]]):=aW;generalize(upd az a7 (.lst [aV [42]]))=aZ at*;have Ng:=s2.trans s3;refine⟨_,I,pr,_,ii,_,_,I,Ng _ _ bK,T.jR,T.oe,ol _ _,bt,(dw st us.recipe).takes,I,Ng _ _ cS,kZ fW.t1,b3 fW.oq a5,λbz bc s4 i1 qY=>?_⟩;have eK:=Bm (dw st us.recipe).takes (kZ fW.t1);have fi:=Bm (dw st us.recipe).gives (kZ fW.g1);have oq:=fW.oq;have oV:=fW.oV;refine⟨a7,bc,_,_,I,I,s4 _ _ hi,qY,?_,λc_ hJ=>?_⟩
   ·rw[aU];exact b3 (show _<=1000 by show 1+_<=1000;omega) a5
   have s5:aw bz (upd bz c_ (.lst ([aV [42]]++(flat (k_ (dw st us.recipe).takes)).map aV))):=aw.new hJ;have oO:(upd bz c_ (.lst ([aV [42]]++(flat (k_ (dw st us.recipe).takes)).map aV))) c_=U (.lst ([aV [42]]++(flat (k_ (dw st us.recipe).takes)).map aV)):=aW;generalize(upd bz c_ (.lst ([aV [42]]++(flat (k_ (dw st us.recipe).takes)).map aV)))=cb at*;have Gm:=Ng.trans (s4.trans s5);refine⟨_,I,pr,_,ii,_,_,I,Gm _ _ bK,T.jR,T.pb,tH _ _,ga,(dw st us.recipe).gives,I,Gm _ _ hv,kZ fW.g1,b3 fW.oV a5,λdj gN c6 s8 pN=>?_⟩;have Ky:=za _ (kZ fW.g1) fW.p4;refine⟨gN,flat (k_ (dw st us.recipe).gives),I,aI.of pN,b3 (show _<=1000 by omega) a5,λl au=>b3 (m9 _ Ky l au).1 a5,λd3 k1 dp BU x4=>?_⟩;rw[rc _ Ky]at x4;have Nl:=c6.trans dp;have sX:=rd Ky;refine⟨c_,k1,_,_,I,I,Nl _ _ oO,x4,?_,λi7 s9=>?_⟩
   ·rw[cA,aU,aU,sX];exact b3 (show _<=1000 by show 1+_+_<=1000;omega) a5
   have aef:[aV [42]]++(flat (k_ (dw st us.recipe).takes)).map aV++(flat (dg (k_ (dw st us.recipe).gives))).map aV=(flat (uo (dw st us.recipe))).map aV:=by show _=([42]::(flat (k_ (dw st us.recipe).takes)++flat (dg (k_ (dw st us.recipe).gives)))).map aV;simp
   rw[aef];have j0:aw d3 (upd d3 i7 (.lst ((flat (uo (dw st us.recipe))).map aV))):=aw.new s9;have D1:(upd d3 i7 (.lst ((flat (uo (dw st us.recipe))).map aV))) i7=U (.lst ((flat (uo (dw st us.recipe))).map aV)):=aW;generalize(upd d3 i7 (.lst ((flat (uo (dw st us.recipe))).map aV)))=gr at*;have Nj:=s3.trans (s4.trans (s5.trans (Nl.trans j0)));have nz:i7≠g6:=bQ (bj ((s3.trans (s4.trans (s5.trans Nl))) _ _ sT) s9);have hlen:=Paired.length n5;rw[cA,aU,aU,fo]at hlen;have Es:=g.fst;have ZJ:=g.use;refine⟨g6,_,_,I,I,Nj _ _ sT,?_,?_⟩
   ·rw[aU];exact jw aG
   refine⟨_,_,cs++[i7],I,(s2.trans Nj).put o3,by rw[aW,eU];rfl,?_⟩;have hY:=j1 fC;rw[hY,eU,<-j2];refine Paired.app (Paired.imp n5 λp F _ e=>⟨by rw[aY e.2];exact Nj _ _ e.1,e.2⟩) (.cons ⟨by rw[aY nz];exact D1,nz⟩ .nil)
  ·rintro σ az ⟨v2,eL,cs,rfl,s2,sT,n5⟩;rw[aU,Paired.length eT,hA]at n5;have hlen:=Paired.length n5;rw[cA,aU,aU]at hlen;have Es:=g.fst;have ZJ:=g.use;have Vb:=rH g;refine⟨_,I,aR,aq,_,I,s2 _ _ b5,jy _ _ _ aD aD aD,aR,r,u,st,I,bF.grow s2,g,λaZ d s3 hd K2=>?_⟩;refine⟨.inr (.inr (.inl ⟨I,.inl ⟨_,K2⟩⟩)),d,_,I,I,K2,λi_ o8=>?_⟩;have s4:aw aZ (upd aZ i_ (oN i_ d)):=aw.new o8;refine⟨i_,d,_,I,aW,s4 _ _ K2,λa6 l0=>?_⟩;rw[GU];have s5:=s4.trans (aw.new (o:=.lst (((cE st).map (dh st)).map nm)) l0);have gT:(upd (upd aZ i_ (oN i_ d)) a6 (.lst (((cE st).map (dh st)).map nm))) a6=U (.lst (((cE st).map (dh st)).map nm)):=aW;generalize(upd (upd aZ i_ (oN i_ d)) a6 (.lst (((cE st).map (dh st)).map nm)))=cb at*;have zW:=s3.trans s5;refine⟨_,I,a6,_,I,.inl (aI.of gT),_,_,I,I,_,I,?_⟩;rw[aU,aU];refine d5 (λq=>?_) (λq=>?_)
   ·have nq:0<(cE st).length:=by have:=aru q;omega
    have fu:(cE st).map (dh st)≠[]:=λz=>by have:=congrArg Ag z;rw[aU,j4]at this;omega
    refine⟨_,I,.inl ⟨I,_,aI.of (zW _ _ sT)⟩,_,I,a6,_,I,gT,fu,by rw[aU];omega,λdj i7 c6 s9 pN=>?_⟩;have Ni:=zW.trans c6;have nz:i7≠g6:=bQ (bj (zW _ _ sT) s9);refine⟨g6,_,_,I,I,Ni _ _ sT,?_,?_⟩
    ·rw[aU];exact jw aG
    refine⟨_,I,k _ g6 (cs++[i7]) ((s2.trans Ni).put o3) o3 (by rw[aW,eU];rfl) ?_⟩;unfold jg;have hf:¬(cE st).isEmpty=ah:=λz=>by rw[aao]at z;rw[z]at nq;exact aro nq a5
    rw[ars hf,<-j2];exact Paired.app (Paired.imp n5 λp F _ e=>⟨by rw[aY e.2];exact Ni _ _ e.1,e.2⟩) (.cons ⟨by rw[aY nz];exact pN,nz⟩ .nil)
   ·have a9:cE st=[]:=by
     cases gM:cE st with
     |nil=>rfl
     |cons A1 er=>exact aro (arq (show(0:Int)<(((cE st).length:Nat):Int)by rw[gM,cW];omega)) q
    refine⟨_,I,k _ g6 cs (s2.trans zW) o3 (zW _ _ sT) ?_⟩;unfold jg;rw[a9,art (show([]:List Nat).isEmpty=ah from I),iP];exact Paired.imp n5 λp F _ e=>⟨zW _ _ e.1,e.2⟩
theorem anw(s:State):(gA s).map (λkv=>cc kv.1)=(cE s).map aM:=by unfold gA mF;rw[dn];rfl
theorem aiO{s:State}{k:Nat}:oa s (k+1)=oa s k++(f_ s k++spanOf s k):=by unfold oa;rw[pD,k6];simp
theorem VK{s:State}(g:Good s){k:Nat}(aH:k<=s.uses.length):(oa s k).length<=12*k:=by
 have:=lT (f:=λj=>f_ s j++spanOf s j) (m:=12) (l:=cf k) λj bw=>by obtain⟨u,a4⟩:=nH (s:=s) (p:=j) (h5 (gC.mp bw) aH);have a1:=(g.gP u (eN a4)).2.2;have a2:=g.given (eN a4);unfold spanOf;rw[cA,(hb a4).1,span_len,p3 a4];omega
 rw[e8]at this;exact this
inductive YK(A:cu)(vs:List V)(H:ax)(Q:c9)(asq:lM):Prop
 |mk (aR r u:Addr) (s:State) (h0:vs=[.ref aR]) (ag:dF A H aR r u s) (ai:Good s) (aN:∀ae q,aw H ae->H q=af->ae q=U (.lst ((hh s).map aM))->Q (.ref q) ae)
theorem akW(T:Txt K ap A):a0 P w K ap base a8 3 A.vn A.yJ ["workshop"] (YK A):=by
 have cv:a0 P w K ap base a8 1 A.q0 A.sC ["self"] (GL A):=MJ T;have h8:a0 P w K ap base a8 2 A.mj A.m7 ["self"] (rG A):=tu T;refine T.IX.F.ok Gy (λvs H Q E h=>?_) (λb9 cV outer s H vs Q E aL h=>?_)
 ·obtain⟨_,_,_,_,rfl,_⟩:=h;rfl
 ·obtain⟨aR,r,u,st,rfl,bF,g,k⟩:=h;have dW:de 1 _:=aL.mono a5;refine⟨_,a3 (cQ (i:=1) Gy.ba I (bA I) (i5 (A9 I) I T.lN m5 (aB (i5 Ee I T.vH A7 (aB (c4 eJ I T.dG PySem.boot_len (aB (bH (aj 0) I) aJ)) aJ)) aJ))) (a3 (i6 gD I (alH I T.D_ (aB (bH (aj 0) I) (aB (hl (aj 0) T.dr T.Mk cv dW T.DO.b .nil bG) aJ))) (wZ I (mK (d9 (i:=2) Gy.ba I (bA I)) (mK (d9 (i:=3) Gy.ba I (bA I)) w0))) (bb (fE (iy PySem.F.plainAttrs_list PySem.F.slot_list_extend PySem.F.type_list_extend zC (aj 1) (aB (fj kx (bH (aj 2) I) (aj 3)) aJ))))) (bb (bE (fj kx (aj 1) (i5 (adi I) I T.lN m5 (aB (hl (aj 0) T.dr T.tl h8 aL T.qP.b .nil bG) aJ)))))),?_⟩;obtain⟨aq,b,cI,bx,b5,dv,ei,fM,dm,eT,hy,jx,ja⟩:=id bF;have Es:=g.fst;have ZJ:=g.use;have Vb:=rH g;refine⟨_,I,aR,_,aq,_,_,I,b5,T.dr,T.qk,tX _ _ _,b,_,I,.inl (aI.of fM),?_⟩;rw[aU];refine⟨_,I,λp aO=>⟨p,_,_,I,aW,aG,aG,aG,aG,aG,λlf au=>?_⟩⟩;obtain⟨s1,gv,ft⟩:=Nb aO au;generalize(upd (upd H p (.i8 0 ((st.first.length:Nat):Int))) lf (.lst (k3 0 (((st.first.length:Nat):Int)-0).toNat)))=H1 at*;refine⟨_,I,aR,_,aq,_,_,I,s1 _ _ b5,T.dr,T.ha,jc _ _ _,_,I,aR,aq,_,I,s1 _ _ b5,jy _ _ _ aD aD aD,aR,r,u,st,I,bF.grow s1,g,λaz b_ d8 s2 sU EX ng ri=>?_⟩;have eh:=s1.trans s2;have i0:=s2 _ _ ft;have BK:=Paired.length ng;rw[e8]at BK;have agz:b_≠lf:=bQ (bj ft sU);have Fb:u≠lf:=bj dm gv;refine⟨u,b_,_,_,I,aI.of (eh _ _ dm),aI.of EX,aeN (K:=K) (a:=u) (b:=b_) (xs:=bx.map V.ref) (ys:=d8.map V.ref) (λi σ ae=>∃v2 eL:Option V,σ=[U (.ref aR),U (.ref lf),v2,eL]/\ff lf az ae/\ae lf=U (.lst ((cf st.first.length++oa st i).map aM))) ⟨af,af,I,λ_ _ _ e=>e,by rw[show oa st 0=[]from I,iP];exact i0⟩ (by rw[aU,aU,Paired.length eT,BK]) (λi σ ae _ h=>?_) ?_ ?_⟩
  ·obtain⟨_,_,_,iU,_⟩:=h;exact⟨aI.of (iU _ _ Fb (eh _ _ dm)),aI.of (iU _ _ agz EX)⟩
  ·rintro i x y σ aZ AZ ao a_ ⟨v2,eL,rfl,iU,aN⟩ afX;obtain⟨dk,nr,rfl⟩:∃dk,bx[i]? =U dk/\V.ref dk=x:=by
    rw[dI]at ao;cases q:bx[i]? with
    |none=>rw[q]at ao;cases ao
    |some dk=>rw[q]at ao;exact⟨dk,I,bS ao⟩
   obtain⟨kD,U3,rfl⟩:∃kD,d8[i]? =U kD/\V.ref kD=y:=by
    rw[dI]at a_;cases q:d8[i]? with
    |none=>rw[q]at a_;cases a_
    |some kD=>rw[q]at a_;exact⟨kD,I,bS a_⟩
   obtain⟨us,fC,hH,eY,aS,aQ⟩:=Paired.getL eT nr;obtain⟨j,bw,b0⟩:=Paired.getL ng U3;have av:=(ej.mp fC).1;rw[rT av]at bw;obtain rfl:=bS bw;have wD:∀c o,H c=U o->aZ c=U o:=λc o e=>iU _ _ (bj e gv) (eh _ _ e);have aj3:kD≠lf:=bQ (bj ft (ri kD (eN U3)));have ad4:=iU _ _ aj3 b0;have s4:aw aZ (upd aZ AZ (.tup [V.ref dk,V.ref kD])):=aw.new afX;have Pl:(upd aZ AZ (.tup [V.ref dk,V.ref kD])) AZ=U (.tup [V.ref dk,V.ref kD]):=aW;generalize(upd aZ AZ (.tup [V.ref dk,V.ref kD]))=bz at*;refine⟨AZ,_,I,eQ.of Pl,I,_,_,I,_,_,I,I,?_⟩;have bD:=s4 _ _ aN;have aqR:=(g.gP us (eN fC)).2.2;have agw:=g.given (eN fC);have mB:(spanOf st i).length=(hC st us).length:=by unfold spanOf;rw[span_len,p3 fC]
   refine⟨_,I,.inl ⟨I,_,aI.of bD⟩,_,I,dk,_,hH,_,_,I,s4 _ _ (wD _ _ aS),T.mm,T.qj,tS _ _,_,I,eY,kD,_,_,I,I,s4 _ _ (wD _ _ aQ),s4 _ _ ad4,?_,λk1 BU=>?_⟩
   ·rw[aU,aU,mB];exact b3 (show _<=1000 by omega) a5
   have s5:aw bz (upd bz k1 (.lst (us.units.map aM++(spanOf st i).map aM))):=aw.new BU;have oO:(upd bz k1 (.lst (us.units.map aM++(spanOf st i).map aM))) k1=U (.lst (us.units.map aM++(spanOf st i).map aM)):=aW;generalize(upd bz k1 (.lst (us.units.map aM++(spanOf st i).map aM)))=cb at*;refine⟨lf,k1,_,_,I,I,s5 _ _ bD,oO,?_,?_⟩
   ·rw[aU,cA,cA,e8,aU,aU,mB];have:=VK g (k:=i) aG;exact b3 (show _<=1000 by omega) a5
   refine⟨_,_,I,λc o n e=>by rw[aY n];exact s5 _ _ (s4 _ _ (iU _ _ n e)),?_⟩;rw[aW,aiO,(hb fC).1];simp only[eU,j2]
  ·rintro σ aZ ⟨v2,eL,rfl,iU,aN⟩;rw[aU,Paired.length eT]at aN;have s3:aw H aZ:=λc o e=>iU _ _ (bj e gv) (eh _ _ e);refine⟨_,I,_,I,aR,aq,_,I,s3 _ _ b5,jy _ _ _ aD aD aD,aR,r,u,st,I,bF.grow s3,g,λbz d s4 hd K3=>?_⟩;refine⟨d,_,I,K3,λl au=>?_⟩;rw[anw];have s5:aw bz (upd bz l (.lst ((cE st).map aM))):=aw.new au;have oO:(upd bz l (.lst ((cE st).map aM))) l=U (.lst ((cE st).map aM)):=aW;generalize(upd bz l (.lst ((cE st).map aM)))=cb at*;have Lf:=VK g (bR st.uses.length);refine⟨lf,l,_,_,I,I,s5 _ _ (s4 _ _ aN),oO,?_,λq aK=>?_⟩
   ·rw[aU,aU,cA,e8];exact b3 (show _<=1000 by omega) a5
   have XT:=s3.trans (s4.trans s5);refine k _ q (XT.trans (aw.new aK)) (XT.free aK) ?_;rw[aW,G_];simp only[eU,j2]
end
theorem WA{n:Nat}(h:n<1000):bf.a6 (jr n)=codes (um n):=by have key:(cf 1000).all (λn=>decide (bf.a6 (jr n)=codes (um n)))=ah:=aD;exact aru (jA.mp key n (gC.mpr h))
def tj(i j:Nat):dT:=um i++45::um j
theorem VS{i j:Nat}(av:i<1000)(bw:j<1000):jr i++dY "-"++jr j=bW (codes (tj i j)):=by refine rI ?_;rw[bf.ou,bf.ou,WA av,WA bw,show bf.a6 (dY "-")=[45]by decide+kernel];unfold tj codes;simp
theorem VR{i j:Nat}(av:i<1000)(bw:j<1000):(codes (tj i j)).length<=7:=by have ag:=FT av;have ai:=FT bw;have e:=congrArg Qj (VS av bw);rw[nQ,nQ,e4 (codes (tj i j)),show(dY "-").length=1 by decide+kernel]at e;omega
def kd(l:List Nat)(i:Nat):List (Key×V):=((cf i).filter (l2 l)).map λj=>(dH (l.getD j 0),aM j)
theorem RJ(l:List Nat)(i:Nat):(kd l i).length<=i:=by unfold kd;rw[aU];have:=tZ (l2 l) (cf i);rw[e8]at this;exact this
theorem JP{l:List Nat}{i n:Nat}(aC:l[i]? =U n):kd l (i+1)=kd l i++if(l.take i).contains n=ah then[]else[(dH n,aM i)]:=by
 unfold kd;rw[pD,Dd,eU];congr 1;have e:l2 l i= !(l.take i).contains n:=by unfold l2;rw[v_ aC]
 cases c:(l.take i).contains n with
 |true=>rw[nL,e,c];rfl
 |false=>rw[nL,e,c];show[(dH (l.getD i 0),aM i)]=_;rw[v_ aC];rfl
theorem JQ{l:List Nat}:∀{i:Nat},i<=l.length->∀n,(eb (kd l i) (dH n)).isSome=(l.take i).contains n
 |0,_,n=>rfl
 |i+1,h,n=>by
  have hm:l[i]? =U (l[i]'(aG)):=gB aG;generalize l[i]'(aG)=m at hm;have ih:=JQ (l:=l) (i:=i) aG;rw[JP hm,j1 hm];cases c:(l.take i).contains m with
  |true=>rw[art I,iP,ih n,mf];simp;intro e;subst e;simpa using c
  |false=>
   have BQ:eb (kd l i) (dH m)=af:=by
    have:=ih m;rw[c]at this;cases q:eb (kd l i) (dH m)with
    |none=>rfl
    |some v=>rw[q]at this;cases this
   rw[ars eM,<-CC (aM i) BQ,C4];by_cases e:n=m
   ·subst e;simp
   ·rw[ars (λz=>e (tb z)),ih n,mf];simp[e]
def uF(l:List Nat)(i:Nat)(kvs:List (Key×V)):Prop:=kvs.length<=i/\∀j n,j<i->l[j]? =U n->n∈l.take j->eb kvs (dH n)=U (aM j)
theorem uF.again{l:List Nat}(t:lL l){i n:Nat}{kvs:List (Key×V)}(h:uF l i kvs)(aC:l[i]? =U n)(hm:n∈l.take i):uF l (i+1) (putK kvs (dH n) (aM i)):=by
 refine⟨?_,λj m bw sV wt=>?_⟩
 ·have:=zy kvs (dH n) (aM i);have:=h.1;omega
 ·rw[C4];by_cases e:m=n
  ·subst e;rw[art I];by_cases v3:j=i
   ·rw[v3]
   ·obtain⟨Fo,h0,cZ⟩:=V6 wt;exact(t.FL h0 (show j<i by omega) cZ sV aC).elim
  ·rw[ars (λz=>e (tb z))];by_cases v3:j=i
   ·subst v3;rw[aC]at sV;exact aro (bS sV).symm e
   ·exact h.2 j m aG sV wt
theorem uF.first{l:List Nat}{i n:Nat}{kvs:List (Key×V)}(h:uF l i kvs)(aC:l[i]? =U n)(hm:n∉l.take i):uF l (i+1) kvs:=by
 refine⟨by have:=h.1;omega,λj m bw sV wt=>?_⟩;by_cases v3:j=i
 ·subst v3;rw[aC]at sV;cases sV;exact aro wt hm
 ·exact h.2 j m aG sV wt
section
variable{P:b6}{w:bX}{K:PySem.W.Frag}{ap:Str->Option ar}{base:Heap}{A:cu}
inductive YM(vs:List V)(H:ax)(Q:c9)(asq:lM):Prop
 |mk (i j:Nat) (h0:vs=[aM i,aM j]) (ag:i<1000) (ai:j<1000) (aN:Q (aV (codes (tj i j))) H)
theorem akY(T:Txt K ap A):a0 P w K ap base a8 1 A.vp A.yL ["lesser","greater"] YM:=by
 refine T.IZ.F.ok amY (λvs H Q E h=>?_) (λb9 cV outer s H vs Q E aL h=>?_)
 ·obtain⟨_,_,rfl,_⟩:=h;rfl
 ·obtain⟨i,j,rfl,av,bw,k⟩:=h;refine⟨_,bb (bE (alw aD (aj 0) (aj 1))),?_⟩;refine⟨_,I,i,I,av,_,I,j,I,bw,?_⟩;rw[VS av bw];exact k
def ht(l:List Nat):List (List Nat):=((cf l.length).filter (l2 l)).map λi=>codes (tj i (kP l i))
inductive YN(vs:List V)(H:ax)(Q:c9)(asq:lM):Prop
 |mk (a:Addr) (l:List Nat) (h0:vs=[.ref a]) (ag:H a=U (.lst (l.map aM))) (ai:lL l) (aN:l.length<=900) (bD:uH H Q (ht l))
theorem akZ(T:Txt K ap A):a0 P w K ap base a8 2 A.vq A.yM ["units"] YN:=by
 have cv:a0 P w K ap base a8 1 A.vp A.yL ["lesser","greater"] YM:=akY T;refine T.I0.F.ok tL (λvs H Q E h=>?_) (λb9 cV outer s H vs Q E aL h=>?_)
 ·obtain⟨_,_,rfl,_⟩:=h;rfl
 ·obtain⟨a,l,rfl,ay,bV,au,k⟩:=h;have a4:=n9 aL;refine⟨_,a3 (cQ (i:=1) tL.ba I (bA I) zP) (a3 (cQ (i:=2) tL.ba I (qH I) zP) (a3 (i6 gD I (F7 I T.x7 (aB (aj 0) aJ)) (wZ I (mK (d9 (i:=3) tL.ba I (bA I)) (mK (d9 (i:=4) tL.ba I (bA I)) w0))) (bb (c5 (M4 (F5 a4 (aj 4) (aj 1))) (bb (w2 a4 (aj 2) (aj 4) (aj 3) I)) (bb (w2 a4 (aj 1) (aj 4) (aj 3) I))))) (bb (bE (alz (kB (g:=Kn K 2 (Bp (mu 4) (Bp (mu 3) Km))) I tL.ba (W2 (aj 1)) (ic (own:=[("unit",4),("leaf",3)]) I) (λ_ _ _ _ _=>by exact wZ I (mK (d9 (i:=4) tL.ba I (bA I)) (mK (d9 (i:=3) tL.ba I (bA I)) w0))) (λ_ _ _ _ _=>jY) (λ_ _ _ _ _=>c2 cv aL I T.afj T.IZ.F.bJ T.IZ.b .nil bG (aB (aj 3) (aB (zO a4 (aj 2) (aj 4) (λ_ _=>I)) aJ))))))))),?_⟩;intro ie km;have s1:aw H (upd H ie (.cC [])):=aw.new km;have cq:(upd H ie (.cC [])) ie=U (.cC []):=aW;generalize(upd H ie (.cC []))=H1 at*;intro go wj;have s2:aw H1 (upd H1 go (.cC [])):=aw.new wj;have g2:(upd H1 go (.cC [])) go=U (.cC []):=aW;generalize(upd H1 go (.cC []))=az at*;have cF:=s2 _ _ cq;have Mx:ie≠go:=bj cq wj;have eh:=s1.trans s2;have agA:H go=af:=s1.free wj;have qt:∀n,n<=1000->n<sizeLine:=λn h=>jw h;refine⟨_,I,a,_,I,aI.of (eh _ _ ay),Kk (K:=K) (a:=a) (xs:=l.map aM) (λi σ ae=>∃(eL v4:Option V)(kvs:List (Key×V)),σ=[U (.ref a),U (.ref ie),U (.ref go),eL,v4]/\aw H ae/\ae ie=U (.cC (kd l i))/\ae go=U (.cC kvs)/\uF l i kvs) ⟨af,af,[],I,eh,cF,g2,bR _,λj n bw=>aro bw (Nat.not_lt_zero _)⟩ (λi σ ae _ h=>?_) ?_ ?_⟩
  ·obtain⟨_,_,_,_,s3,_⟩:=h;exact aI.of (s3 _ _ ay)
  ·rintro i x σ aZ f9 av ⟨eL,v4,kvs,rfl,s3,eV,g3,ng⟩ mC;obtain⟨n,aC,rfl⟩:=y' av;have h1:=(ej.mp aC).1;have s4:aw aZ (upd aZ f9 (.tup [aM i,aM n])):=aw.new mC;have Pl:(upd aZ f9 (.tup [aM i,aM n])) f9=U (.tup [aM i,aM n]):=aW;generalize(upd aZ f9 (.tup [aM i,aM n]))=bz at*;refine⟨f9,_,I,eQ.of Pl,I,_,_,I,_,_,I,I,?_⟩;refine⟨_,I,_,I,ie,_,I,gd.k (k:=dH n) (s4 _ _ eV),_,I,?_⟩;rw[JQ aG];have aqG:=RJ l i;cases c:(l.take i).contains n with
   |true=>
    have hm:n∈l.take i:=by simpa using c
    refine d6 ⟨_,I,_,I,_,I,go,_,I,mW.k (k:=dH n) (s4 _ _ g3) (qt _ (by have:=ng.1;omega)),?_⟩;refine⟨_,_,_,I,(s3.trans s4).put agA,?_,aW,ng.again bV aC hm⟩;rw[aY Mx,JP aC,c,art I,iP];exact s4 _ _ eV
   |false=>
    have hm:n∉l.take i:=by simpa using c
    have BQ:eb (kd l i) (dH n)=af:=by
     have:=JQ (l:=l) (i:=i) aG n;rw[c]at this;cases q:eb (kd l i) (dH n)with
     |none=>rfl
     |some v=>rw[q]at this;cases this
    refine eD ⟨_,I,_,I,_,I,ie,_,I,mW.k (k:=dH n) (s4 _ _ eV) (qt _ aG),?_⟩;refine⟨_,_,kvs,I,(s3.trans s4).put km,?_,?_,ng.first aC hm⟩
    ·rw[aW,CC _ BQ,JP aC,c];rfl
    ·rw[aY (bQ Mx)];exact s4 _ _ g3
  ·rintro σ aZ ⟨eL,v4,kvs,rfl,s3,eV,g3,ng⟩;rw[aU]at eV ng;refine⟨ie,_,eV,trivial,λcO=>?_⟩;generalize ik:upd aZ ie (.dV cO (.cC (kd l l.length)))=bz;have iI:bz ie=U (.dV cO (.cC (kd l l.length))):=by rw[<-ik,aW]
   have y9:bz go=U (.cC kvs):=by rw[<-ik,aY (bQ Mx)];exact g3
   have lW:=RJ l l.length;refine⟨_,I,ie,cO,_,I,iI,λD cg=>Fz (J:=DR ie cO (kd l l.length)) (n:=(kd l l.length).length) (λj ae=>aw bz ae/\ae D=U (.lst (((ht l).take j).map aV))) ⟨aw.new cg,by rw[aW];rfl⟩ (λj ae bw p=>⟨p.1 _ _ iI,bw⟩) (λae p=>⟨p.1 _ _ iI,bR _⟩) ?_ ?_⟩
   ·rintro j cb x acv bw ⟨s5,cw⟩ ⟨f9,iu,arh,g_,rfl,mC,rfl⟩;unfold kd at g_;rw[dI]at g_;cases q:((cf l.length).filter (l2 l))[j]? with
    |none=>rw[q]at g_;cases g_
    |some mD=>
     rw[q]at g_;obtain⟨rfl,rfl⟩:=qI (bS g_);have mx:=j8.mp (eN q);have agD:=gC.mp mx.1;have aC:l[mD]? =U (l[mD]):=gB agD;generalize l[mD]=n at aC;rw[v_ aC]at*;have BI:n∉l.take mD:=by have:=mx.2;unfold l2 at this;rw[v_ aC]at this;simpa using this
     obtain⟨dP,wk,aS⟩:=bV.later aC BI;have K_:=(ej.mp aS).1;have ahg:=(bV.other wk aC aS).1;have wt:n∈l.take dP:=by rw[List.mem_take_iff_getElem];obtain⟨ag,ai⟩:=ej.mp aC;exact⟨mD,aG,ai⟩
     have B3:=ng.2 dP n K_ aS wt;have c6:aw cb (upd cb f9 (.tup [cc (dH n),aM mD])):=aw.new mC;have oq:(upd cb f9 (.tup [cc (dH n),aM mD])) f9=U (.tup [cc (dH n),aM mD]):=aW;generalize(upd cb f9 (.tup [cc (dH n),aM mD]))=dj at*;refine⟨f9,_,I,eQ.of oq,I,_,_,I,_,_,I,I,ZZ a5,?_⟩;unfold pn;dsimp only;rw[art I];have Be:gd dj go (cc (dH n)) (U (aM dP)):=by rw[<-B3];exact gd.k (k:=dH n) (c6 _ _ (s5 _ _ y9))
     refine⟨_,I,_,I,_,I,go,aM dP,I,Be,mD,dP,I,aG,aG,_,c6 _ _ cw,?_,(s5.trans c6).put cg,?_⟩
     ·rw[aU,fo];exact qt _ aG
     ·have e:(ht l)[j]? =U (codes (tj mD dP)):=by unfold ht;rw[dI,q];show U (codes (tj mD (kP l mD)))=_;rw[ahg]
      rw[aW,j1 e,eU];rfl
   ·rintro cb ⟨s5,cw⟩;have Ui:D≠ie:=bQ (bj iI cg);have R6:∀c o,c≠ie->aZ c=U o->bz c=U o:=λc o n e=>by rw[<-ik,aY n];exact e
    have afL:aZ D=af:=by
     cases z:aZ D with
     |none=>rfl
     |some o=>rw[R6 _ _ Ui z]at cg;cases cg
    refine⟨s5 _ _ iI,k _ D (λc o e=>?_) (s3.free afL) ?_⟩
    ·have b':c≠ie:=bj e km;rw[aY b'];exact s5 _ _ (R6 _ _ b' (s3 _ _ e))
    ·rw[aY Ui,cw];have e:(kd l l.length).length=(ht l).length:=by unfold kd ht;rw[aU,aU]
     rw[e,hA]
end
theorem LJ(sep:Str)(dx:List (List Nat)):Txt.join sep (dx.map bW)=bW (bf.f6 (bf.a6 sep) dx):=by
 refine rI ?_;rw[bf.join_eq,bf.G3,dn];congr 1;conv=>rhs;rw[<-j6 dx]
 exact jB λa _=>bl
theorem B_(sep:List Nat):∀dx:List (List Nat),(bf.f6 sep dx).length<=(dx.map λl=>l.length+sep.length).sum
 |[]=>by show([]:List Nat).length<=_;simp
 |[a]=>by show a.length<=_;simp
 |a::b::r=>by have ih:=B_ sep (b::r);show(a++(sep++bf.f6 sep (b::r))).length<=_;rw[dO,oy,cA,cA];omega
theorem z6{α:Type}{f:α->Nat}{m:Nat}:∀{l:List α},(∀x∈l,f x<=m)->(l.map f).sum<=m*l.length
 |[],_=>bl
 |x::r,h=>by have ag:=h x (eB _);have ih:=z6 (l:=r) λy a_=>h y (fe _ a_);rw[dO,oy,cW,Nat.mul_add];omega
theorem Vs:∀hE:List gq,bf.f6 [44,32] (hE.map λF=>codes (gQ F))=codes (QK hE)
 |[]=>rfl
 |[A]=>rfl
 |A::B::r=>by have ih:=Vs (B::r);show codes (gQ A)++([44,32]++bf.f6 [44,32] ((B::r).map λF=>codes (gQ F)))=codes (gQ A++44::32::QK (B::r));rw[ih];simp[codes]
theorem Vt:∀br:List dT,bf.f6 [32] (br.map codes)=codes (QL br)
 |[]=>rfl
 |[A]=>rfl
 |A::B::r=>by have ih:=Vt (B::r);show codes A++([32]++bf.f6 [32] ((B::r).map codes))=codes (A++32::QL (B::r));rw[ih];simp[codes]
def tq(hE:List gq)(l:List Nat):dT:=Vanetc.formOf {concl:=hE,cuts:=[],to:=(cf l.length).map (kP l)}
theorem aiv{l:List Nat}(t:lL l):bf.f6 [32] (ht l)=codes (H_ ((cf l.length).map (kP l))):=by rw[aiV t,<-Vt,dn];rfl
theorem LK{hE:List gq}{l:List Nat}(t:lL l):bf.f6 [32,59,32] [bf.f6 [44,32] (hE.map λF=>codes (gQ F)),[],bf.f6 [32] (ht l)]=codes (tq hE l):=by rw[Vs,aiv t];show codes _++([32,59,32]++([]++([32,59,32]++codes _)))=codes (QK hE++([32,59,32]++([]++([32,59,32]++H_ _))));simp[codes]
section
variable{P:b6}{w:bX}{K:PySem.W.Frag}{ap:Str->Option ar}{base:Heap}{A:cu}
inductive YO(vs:List V)(H:ax)(Q:c9)(asq:lM):Prop
 |mk (g6 up:Addr) (cs:List Addr) (hE:List gq) (l:List Nat) (h0:vs=[.ref g6,.ref up]) (ag:H g6=U (.lst (cs.map V.ref))) (ai:Paired (xS H g6) cs hE) (aN:(∀F∈hE,dJ F/\(flat F).length<=200)) (bD:hE.length<=100) (cw:H up=U (.lst (l.map aM))) (e_:lL l) (iW:l.length<=900) (sM:∀ae,aw H ae->(codes (tq hE l)).length<=1000000->Q (aV (codes (tq hE l))) ae)
theorem ak0(T:Txt K ap A):a0 P w K ap base a8 3 A.vr A.yN ["conclusions","units"] YO:=by
 have cv:a0 P w K ap base a8 2 A.vm A.yI ["formula"] YH:=akT T;have dB:a0 P w K ap base a8 2 A.vq A.yM ["units"] YN:=akZ T;refine T.I1.F.ok GA (λvs H Q E h=>?_) (λb9 cV outer s H vs Q E aL h=>?_)
 ·obtain⟨_,_,_,_,_,rfl,_⟩:=h;rfl
 ·obtain⟨g6,up,cs,hE,l,rfl,o3,cX,jn,afO,nt,bV,au,k⟩:=h;refine⟨_,a3 (Cz (i:=2) I GA.ba I I (CY I I I I) (gm (aj 0)) (ic (own:=[("conclusion",4)]) I) (λ_ _ _ _ _=>d9 (i:=4) GA.ba I (bA I)) (λ_ _ _ _ _=>jY) (λ_ _ _ _ _=>c2 cv aL I T.afg T.IW.F.bJ T.IW.b .nil bG (aB (aj 4) aJ))) (a3 (cQ (i:=3) GA.ba I (bA I) gL) (bb (bE (zR gL (du (aB (zR gL (aj 2)) (aB (aj 3) (aB (zR gL (c2 dB aL I T.afk T.I0.F.bJ T.I0.b .nil bG (aB (aj 1) aJ))) aJ)))))))),?_⟩;have hlen:=Paired.length cX;refine⟨_,I,g6,I,⟨_,aI.of o3⟩,λD cg=>wC ((hE.map λF=>codes (gQ F)).map aV) (aI.of o3) cg (by rw[aU,hlen];exact b3 afO a5) (by simp[hlen]) ?_ λH1 s1 p5=>?_⟩
  ·intro i x y ao a_ az s2 h9 bc;obtain⟨p,aO,rfl⟩:∃p,cs[i]? =U p/\V.ref p=x:=by
    rw[dI]at ao;cases q:cs[i]? with
    |none=>rw[q]at ao;cases ao
    |some b=>rw[q]at ao;exact⟨b,I,bS ao⟩
   obtain⟨F,Uk,e,n⟩:=Paired.getL cX aO;have hm:=jn F (eN Uk);rw[dn,dI,Uk]at a_;obtain rfl:=bS a_;exact⟨_,I,p,F,I,s2 _ _ e,hm.1,b3 hm.2 a5,λaZ s3=>bc aZ s3⟩
  ·have aS:(hE.map λF=>codes (gQ F)).map aV=((hE.map λF=>codes (gQ F)).map bW).map V.str:=by rw[dn (f:=bW)];rfl
   rw[aS]at p5;have p9:∀dx∈hE.map (λF=>codes (gQ F)),dx.length<=3000:=λdx E1=>by obtain⟨F,hm,rfl⟩:=fq.mp E1;have ag:=jn F hm;have ai:=TZ ag.1;omega
   have lk:∀dx∈ht l,dx.length<=7:=λdx E1=>by
    unfold ht at E1;obtain⟨i,av,rfl⟩:=fq.mp E1;have av:=j8.mp av;have h1:=gC.mp av.1;refine VR aG ?_;have aC:l[i]? =U (l[i]):=gB h1;have BI:l[i]∉l.take i:=by have:=av.2;unfold l2 at this;rw[v_ aC]at this;simpa using this
    obtain⟨dP,wk,aS⟩:=bV.later aC BI;have K_:=(ej.mp aS).1;rw[(bV.other wk aC aS).1];omega
   have aqX:(ht l).length<=900:=by unfold ht;rw[aU];have:=tZ (l2 l) (cf l.length);rw[e8]at this;omega
   have qt:∀(dx:List (List Nat))(m:Nat),(∀x∈dx,x.length<=m)->((dx.map bW).map (·.length)).sum<=m*dx.length:=λdx m h=>by rw[dn];exact z6 λx ao=>by show(bW x).length<=m;rw[e4];exact h x ao
   have dP:(bf.f6 [44,32] (hE.map λF=>codes (gQ F))).length<=310000:=by
    have a1:=B_ [44,32] (hE.map λF=>codes (gQ F));have a2:=z6 (f:=λl:List Nat=>l.length+([44,32]:List Nat).length) (m:=3002) (l:=hE.map λF=>codes (gQ F)) λx ao=>by have:=p9 x ao;show x.length+2<=3002;omega
    rw[aU]at a2;omega
   have eE:(bf.f6 [32] (ht l)).length<=8000:=by
    have a1:=B_ [32] (ht l);have a2:=z6 (f:=λl:List Nat=>l.length+([32]:List Nat).length) (m:=8) (l:=ht l) λx ao=>by have:=lk x ao;show x.length+1<=8;omega
    omega
   have ad7:bf.a6 (dY ", ")=[44,32]:=aD;have ad5:bf.a6 (dY " ")=[32]:=aD;have ad8:bf.a6 (dY " ; ")=[32,59,32]:=aD;have ao3:(dY ", ").length=2:=aD;have ao1:(dY " ").length=1:=aD;have ao4:(dY " ; ").length=3:=aD;refine⟨⟨_,I⟩,⟨_,I⟩,_,I,_,D,_,I,I,.inl (aI.of p5),?_,?_⟩
   ·rw[ao3,aU,aU];have:=qt _ 3000 p9;rw[aU]at this;omega
   rw[LJ,ad7];refine⟨_,I,⟨_,I⟩,_,I,up,l,I,s1 _ _ nt,bV,au,λaz bc s2 i1 a2=>?_⟩;have aQ:(ht l).map aV=((ht l).map bW).map V.str:=by rw[dn (f:=bW)];rfl
   rw[aQ]at a2;refine⟨_,bc,_,I,I,.inl (aI.of a2),?_,?_⟩
   ·rw[ao1,aU];have:=qt _ 7 lk;omega
   rw[LJ,ad5];refine⟨(by show 3<=sizeLine;decide),λc_ hJ=>?_⟩;refine⟨_,c_,[bW (bf.f6 [44,32] (hE.map λF=>codes (gQ F))),dY "",bW (bf.f6 [32] (ht l))],I,I,.inl (aI.of aW),?_,?_⟩
   ·show(bW _).length+((dY "").length+((bW _).length+0))+3*(dY " ; ").length<=_;rw[ao4,e4 (bf.f6 [44,32] _),e4 (bf.f6 [32] _),show(dY "").length=0 by decide+kernel];omega
   ·have b0:[bW (bf.f6 [44,32] (hE.map λF=>codes (gQ F))),dY "",bW (bf.f6 [32] (ht l))]=[bf.f6 [44,32] (hE.map λF=>codes (gQ F)),[],bf.f6 [32] (ht l)].map bW:=by show _=[bW _,bW [],bW _];rfl
    rw[b0,LJ,ad8,LK bV];refine k _ ((s1.trans s2).trans (aw.new hJ)) ?_;rw[<-LK bV];have eW:∀a c:List Nat,(bf.f6 [32,59,32] [a,[],c]).length=a.length+(3+(0+(3+c.length))):=λa c=>by show(a++([32,59,32]++([]++([32,59,32]++c)))).length=_;simp only[cA];rfl
    rw[eW];omega
end
theorem ady{s:State}(g:Good s):(jg s).length<=100:=by
 unfold jg;rw[cA,cA,aU,aU];have ag:=g.fst;have ai:=g.use;have:(if(cE s).isEmpty=ah then[]else[k_ ((cE s).map (dh s))]).length<=1:=by split<;>simp
 omega
theorem Yc(s:State):QN s=(decide ((jg s).length<=20)&&decide ((hh s).length<=120)):=rfl
section
variable{P:b6}{w:bX}{K:PySem.W.Frag}{ap:Str->Option ar}{base:Heap}{A:cu}
inductive Yp(A:cu)(vs:List V)(H:ax)(Q:c9)(asq:lM):Prop
 |mk (w r u:Addr) (s:State) (h0:vs=[.ref w]) (ag:dF A H w r u s) (ai:Good s) (aN:jh A w r u H Q s (eC s .net))
theorem akA(T:Txt K ap A):a0 P w K ap base a8 4 A.u5 A.yp ["workshop"] (Yp A):=by
 have cv:a0 P w K ap base a8 3 A.vi A.yE ["workshop"] (YC A):=akO T;have dB:a0 P w K ap base a8 3 A.vn A.yJ ["workshop"] (YK A):=akW T;have h8:a0 P w K ap base a8 3 A.vr A.yN ["conclusions","units"] YO:=ak0 T;have fQ:a0 P w K ap base a8 1 A.q2 A.sE ["text"] GK:=MI T;refine T.ID.F.ok Gr (λvs H Q E h=>?_) (λb9 cV outer s H vs Q E aL h=>?_)
 ·obtain⟨_,_,_,_,rfl,_⟩:=h;rfl
 ·obtain⟨aR,r,u,st,rfl,bF,g,ay⟩:=h;have dW:de 1 _:=aL.mono a5;refine⟨_,a3 (cQ (i:=1) Gr.ba I (bA I) (c2 cv aL I T.afc T.IS.F.bJ T.IS.b .nil bG (aB (aj 0) aJ))) (a3 (cQ (i:=2) Gr.ba I (bA I) (c2 dB aL I T.afh T.IX.F.bJ T.IX.b .nil bG (aB (aj 0) aJ))) (a3 (c5 (ji.pt (rB (cJ nB (c4 eJ I T.dG PySem.boot_len (aB (aj 1) aJ)) (c3 I T.LW) (cY _)) (rC (cJ nB (c4 eJ I T.dG PySem.boot_len (aB (aj 2) aJ)) (c3 I T.LY) (cY _))))) (bb (bE (du (aB (c3 I T.tg) aJ)))) dd) (a3 (cQ (i:=3) Gr.ba I (bA I) (c2 h8 aL I T.afl T.I1.F.bJ T.I1.b .nil bG (aB (aj 1) (aB (aj 2) aJ)))) (bb (bE (fj kx (du (aB (c4 sz I T.dG PySem.boot_len (aB (aj 3) aJ)) aJ)) (c2 fQ dW I T.Kt T.uA.F.bJ T.uA.b .nil bG (aB (aj 3) aJ)))))))),?_⟩;have cZ:eC st .net=fl (QN st) 5 (r4 st (jJ (tq (jg st) (hh st)))):=rfl;rw[cZ,Yc]at ay;unfold fl at ay;refine⟨_,I,aR,r,u,st,I,bF,g,λH1 g6 cs s1 o3 ag cX=>?_⟩;refine⟨_,I,aR,r,u,st,I,bF.grow s1,g,λaz up s2 nt ai=>?_⟩;have eh:=s1.trans s2;have hlen:=Paired.length cX;refine⟨_,I,g6,_,I,.inl (aI.of (s2 _ _ ag)),_,_,I,I,_,I,?_⟩;rw[aU,hlen];have bad:(decide ((jg st).length<=20)&&decide ((hh st).length<=120))=aE->∀q,az q=af->Q (.ref q) (upd az q (.lst [V.int (-5)])):=λak q aK=>by rw[ak,ars eM]at ay;exact ay.new bF eh aK I
  by_cases cq:(jg st).length<=20
  ·rw[arp (show¬(20:Int)<((jg st).length:Int)by omega)];refine eD ⟨_,I,up,_,I,.inl (aI.of ai),_,_,I,I,_,I,?_⟩;rw[aU];by_cases cF:(hh st).length<=120
   ·rw[arp (show¬(120:Int)<((hh st).length:Int)by omega)];rw[arq cq,arq cF,art (show(ah&&ah)=ah from I)]at ay;have Lf:=aiP g;refine eD ⟨_,I,_,I,g6,up,cs,jg st,hh st,I,s2 _ _ ag,Paired.imp cX λ_ _ _ e=>⟨s2 _ _ e.1,e.2⟩,RK g,ady g,ai,VL g,aG,λaZ s3 ip=>?_⟩;have a9:(bW (codes (tq (jg st) (hh st)))).length<=sizeLine:=by rw[e4];exact b3 ip a5
    refine⟨_,I,_,I,a9,eH,λa7 gW=>?_⟩;rw[e4];have s4:aw aZ (upd aZ a7 (.lst [aM (codes (tq (jg st) (hh st))).length])):=aw.new gW;refine⟨_,I,_,I,a9,λcb bc s5 i1 cw=>?_⟩;refine⟨a7,bc,_,_,I,I,s5 _ _ aW,cw,?_,λc_ hJ=>?_⟩
    ·show 1+_<=_;rw[aU,aU];show 1+(codes _).length<=_;exact b3 (show _<=1000001 by omega) a5
    ·refine ay.new bF ((eh.trans s3).trans (s4.trans s5)) hJ ?_;show _=(hg (jJ _)).map V.int;rw[ZE,<-m6];rfl
   ·rw[arq (show(120:Int)<((hh st).length:Int)by omega)];exact d6 ⟨eH,λq aK=>bad (by rw[arp cF];simp) q aK⟩
  ·rw[arq (show(20:Int)<((jg st).length:Int)by omega)];exact d6 (d6 ⟨eH,λq aK=>bad (by rw[arp cq];rfl) q aK⟩)
end
theorem VW:∀a b:dT,ltCps (codes a) (codes b)=hB a b
 |[],[]=>rfl
 |[],_::_=>rfl
 |_::_,[]=>rfl
 |x::r,y::t=>by
  have ih:=VW r t;show(decide (x.toNat<y.toNat)||(x.toNat==y.toNat&&ltCps (codes r) (codes t)))=(decide (x<y)||(x==y&&hB r t));have aS:decide (x.toNat<y.toNat)=decide (x<y):=by rw[mf];simp[DH]
  have aQ:(x.toNat==y.toNat)=(x==y):=by rw[mf];simp[QG]
  rw[ih,aS,aQ]
abbrev jq(a:dq):Str:=bW (codes a)
theorem RO(a:dq):(jq a).cps.toList=codes a:=by have:bf.a6 (bW (codes a))=codes a:=bl;exact this
theorem XM:∀(l:List dq)(p:dq),risingS (jq p) (l.map jq)=ah->(p::l).Pairwise kr
 |[],p,_=>bl
 |a::r,p,h=>by
  rw[dO]at h;unfold risingS at h;rw[e7,RO,RO,VW]at h;have ih:=XM r a h.2;have E5:kr p a:=by unfold kr;simpa using h.1
  refine qF.mpr ⟨λx ao=>?_,ih⟩;rcases ek.mp ao with rfl|ao
  ·exact E5
  ·exact VJ E5 ((qF.mp ih).1 x ao)
theorem anh{ns:List dq}{ys:List Str}(aO:ys.Perm (ns.map jq))(aP:sortedS ys=ah):ys=(jH ns).map jq:=by
 have inv:∀a:dq,(bf.a6 (jq a)).map pH=a:=λa=>by
  have:bf.a6 (bW (codes a))=codes a:=bl;rw[this];unfold codes;rw[dn];conv=>rhs;rw[<-j6 a]
  refine jB λc _=>?_;show pH c.toNat=c;simp
 have a9:(ys.map λy=>(bf.a6 y).map pH).Perm ns:=by
  have:=aO.map λy=>(bf.a6 y).map pH;rw[dn]at this;have e:ns.map ((λy=>(bf.a6 y).map pH)∘jq)=ns:=by
   conv=>rhs;rw[<-j6 ns]
   exact jB λa _=>inv a
  rwa[e]at this
 have a_:ys=(ys.map λy=>(bf.a6 y).map pH).map jq:=by
  rw[dn];conv=>lhs;rw[<-j6 ys]
  refine jB λy ahX=>?_;obtain⟨a,_,rfl⟩:=fq.mp (aO.mem_iff.mp ahX);show jq a=jq ((bf.a6 (jq a)).map pH);rw[inv]
 rw[a_]at aP⊢;congr 1;refine ac2 a9 ?_;generalize(ys.map λy=>(bf.a6 y).map pH)=zs at*;cases zs with
 |nil=>exact Z'
 |cons a r=>exact XM r a aP
section
variable{P:b6}{w:bX}{K:PySem.W.Frag}{ap:Str->Option ar}{base:Heap}{A:cu}
theorem ac7:jD "sorted"=U (.builtin "sorted"):=aD
theorem ac8:jD "tuple"=U (.type "tuple"):=aD
def Q5(H:ax)(Q:c9)(l:List dq):Prop:=∀(ae:ax)(p:Addr),aw H ae->H p=af->ae p=U (.tup (l.map nm))->Q (.ref p) ae
inductive GJ(vs:List V)(H:ax)(Q:c9)(asq:lM):Prop
 |mk (a:Addr) (ns:List dq) (h0:vs=[.ref a]) (ag:H a=U (.lst (ns.map nm))) (ai:ns.length<64) (aN:Q5 H Q (jH ns))
theorem MH(T:Txt K ap A):a0 P w K ap base a8 1 A.q1 A.sD ["names"] GJ:=by
 refine T.uz.F.ok amV (λvs H Q E h=>?_) (λb9 cV outer s H vs Q E aL h=>?_)
 ·obtain⟨_,_,rfl,_⟩:=h;rfl
 ·obtain⟨a,ns,rfl,ay,au,k⟩:=h;refine⟨_,bb (bE (i5 adp I T.Jt ac8 (aB (c4 adB I T.Js ac7 (aB (aj 0) aJ)) aJ))),?_⟩;have e:ns.map nm=(ns.map jq).map V.str:=by rw[dn];rfl
  rw[e]at ay;refine⟨_,I,a,ns.map jq,I,aI.of ay,by rw[aU];exact au,λys p aO aP E6=>?_⟩;rw[anh aO aP];have s1:aw H (upd H p (.lst (((jH ns).map jq).map V.str))):=aw.new E6;refine⟨p,_,I,.inl ⟨aI.of aW,λl au=>?_⟩⟩;refine k _ l (s1.trans (aw.new au)) (s1.free au) ?_;rw[aW,dn];rfl
inductive YA(A:cu)(vs:List V)(H:ax)(Q:c9)(asq:lM):Prop
 |mk (b p:Addr) (ns:List dq) (bu:jG) (h0:vs=[.ref b,.ref p]) (ag:H b=U (.tup (ns.map nm))) (ai:ns.length<=20) (aN:RecAt A.gE H p bu) (bD:GoodR bu) (cw:(oI bu ns=af->∀ae,aw H ae->Q .bZ ae)) (e_:∀m,oI bu ns=U m->Q5 H Q m)
theorem aiS{a:dq}{r l:List dq}:AJ (a::r) l=if a∈l then AJ r (l.erase a)else af:=by show(DI a l).bind (AJ r)=_;rw[Mh];split<;>rfl
theorem akM(T:Txt K ap A):a0 P w K ap base a8 2 A.vg A.yC ["bag","recipe"] (YA A):=by
 have cv:a0 P w K ap base a8 1 A.q1 A.sD ["names"] GJ:=MH T;refine T.IQ.F.ok ON (λvs H Q E h=>?_) (λb9 cV outer s H vs Q E aL h=>?_)
 ·obtain⟨_,_,_,_,rfl,_⟩:=h;rfl
 ·obtain⟨b,p,ns,bu,rfl,ak,au,⟨ii,bt,ga,bK,cS,hv⟩,EG,dS,co⟩:=h;refine⟨_,a3 (cQ (i:=2) ON.ba I (bA I) (i5 JJ I T.lN m5 (aB (aj 0) aJ))) (a3 (i6 gD I (gm (bH (aj 1) I)) (d9 (i:=3) ON.ba I (bA I)) (a3 (c5 (cJ WT (aj 3) (aj 2) me) (bb (bE gk)) dd) (bb (fE (iy PySem.F.plainAttrs_list PySem.F.slot_list_remove PySem.F.type_list_remove Mq (aj 2) (aB (aj 3) aJ)))))) (bb (bE (c2 cv aL I T.Ks T.uz.F.bJ T.uz.b .nil bG (aB (fj kx (aj 2) (bH (aj 1) I)) aJ))))),?_⟩;refine⟨_,I,b,_,I,.inr (eQ.of ak),λlf Ld=>?_⟩;have s1:aw H (upd H lf (.lst (ns.map nm))):=aw.new Ld;have ag:(upd H lf (.lst (ns.map nm))) lf=U (.lst (ns.map nm)):=aW;generalize(upd H lf (.lst (ns.map nm)))=H1 at*;have MB:bt≠lf:=bj cS Ld;refine⟨_,I,p,_,ii,_,_,I,s1 _ _ bK,T.jR,T.oe,ol _ _,bt,I,⟨_,aI.of (s1 _ _ cS)⟩,mr (K:=K) (a:=bt) (xs:=bu.takes.map nm) (λi σ ae=>∃(eL:Option V)(cur:List dq),σ=[U (.ref b),U (.ref p),U (.ref lf),eL]/\aw H ae/\ae lf=U (.lst (cur.map nm))/\cur.length<=20/\AJ (bu.takes.drop i) cur=AJ bu.takes ns) ⟨af,ns,I,s1,ag,au,by rw[rR]⟩ (λi σ ae _ h=>?_) ?_ ?_⟩
  ·obtain⟨_,_,_,s2,_⟩:=h;exact aI.of (s2 _ _ cS)
  ·rintro i x σ az av ⟨eL,cur,rfl,s2,ai,aF,he⟩;obtain⟨a,ay,rfl⟩:∃a,bu.takes[i]? =U a/\nm a=x:=by
    rw[dI]at av;cases q:bu.takes[i]? with
    |none=>rw[q]at av;cases av
    |some a=>rw[q]at av;exact⟨a,I,bS av⟩
   obtain⟨h1,J9⟩:=ej.mp ay;rw[kK h1,J9,aiS]at he;refine⟨_,I,_,I,lf,_,I,.inl (aI.of ai),I,TU _,_,I,?_⟩;show if(!iM (nm a) (cur.map nm))=ah then _ else _
   rw[LC];by_cases c:a∈cur
   ·rw[arq c];rw[art c]at he;obtain⟨j,a7,bc,c_,gN⟩:=XN c;refine eD ⟨_,I,.inl ⟨I,_,aI.of ai⟩,_,I,lf,_,_,j,I,I,ai,a7,bc,c_,?_⟩;rw[gN];exact⟨_,cur.erase a,I,s2.put Ld,aW,b3 (List.length_erase_le ..) aF,he⟩
   ·rw[arp c];rw[ars c]at he;refine d6 (dS ?_ az s2);unfold oI;rw[<-he];rfl
  ·rintro σ az ⟨eL,cur,rfl,s2,ai,aF,he⟩;have kW:bu.takes.drop (bu.takes.map nm).length=[]:=by rw[aU];exact xq
   rw[kW]at he;have he:U cur=AJ bu.takes ns:=he;have agw:=EG.oV;refine⟨_,I,_,I,p,_,ii,_,_,I,s2 _ _ bK,T.jR,T.pb,tH _ _,lf,ga,_,_,I,I,ai,s2 _ _ hv,?_,λq aK=>?_⟩
   ·rw[aU,aU];exact b3 (show _<=1000 by omega) a5
   ·rw[<-eU];have s3:aw az (upd az q (.lst ((cur++bu.gives).map nm))):=aw.new aK;refine⟨q,cur++bu.gives,I,aW,by rw[cA];omega,λbz lx s4 BS eW=>?_⟩;refine co (jH (cur++bu.gives)) ?_ bz lx ((s2.trans s3).trans s4) ((s2.trans s3).free BS) eW;unfold oI;rw[<-he];rfl
def pK(H:ax)(v:V)(o:Option (List dq)):Prop:=match o with
 |none=>v=.bZ
 |some m=>∃p,v=.ref p/\H p=U (.tup (m.map nm))
theorem pK.but{H ae:ax}{D:Addr}{v:V}{o:Option (List dq)}(h:pK H v o){l:List V}(cg:H D=U (.lst l))(b:ff D H ae):pK ae v o:=by
 cases o with
 |none=>exact h
 |some m=>obtain⟨p,rfl,e⟩:=h;exact⟨p,I,b _ _ (cH e cg df) e⟩
theorem pK.same{H ae:ax}{v:V}{o:Option (List dq)}(h:pK H v o)(s:aw H ae):pK ae v o:=by
 cases o with
 |none=>exact h
 |some m=>obtain⟨p,rfl,e⟩:=h;exact⟨p,I,s _ _ e⟩
inductive YB(A:cu)(vs:List V)(H:ax)(Q:c9)(asq:lM):Prop
 |mk (b r:Addr) (cI:List Addr) (ns:List dq) (hN:List jG) (h0:vs=[.ref b,.ref r]) (ag:H b=U (.tup (ns.map nm))) (ai:ns.length<=20) (aN:H r=U (.lst (cI.map V.ref))) (bD:Paired (RecAt A.gE H) cI hN) (cw:(∀bu∈hN,GoodR bu)) (e_:hN.length<=12) (iW:∀ae p(vs:List V),aw H ae->H p=af->ae p=U (.lst vs)->Paired (pK ae) vs (hN.map λbu=>oI bu ns)->Q (.ref p) ae)
theorem akN(T:Txt K ap A):a0 P w K ap base a8 3 A.vh A.yD ["bag","recipes"] (YB A):=by
 have cv:a0 P w K ap base a8 2 A.vg A.yC ["bag","recipe"] (YA A):=akM T;refine T.IR.F.ok OO (λvs H Q E h=>?_) (λb9 cV outer s H vs Q E aL h=>?_)
 ·obtain⟨_,_,_,_,_,rfl,_⟩:=h;rfl
 ·obtain⟨b,r,cI,ns,hN,rfl,ak,au,gK,cX,bM,aqs,k⟩:=h;refine⟨_,bb (bE (kB I OO.ba (gm (aj 1)) (ic (own:=[("recipe",2)]) I) (λ_ _ _ _ _=>d9 (i:=2) OO.ba I (bA I)) (λ_ _ _ _ _=>jY) (λ_ _ _ _ _=>c2 cv aL I T.afa T.IQ.F.bJ T.IQ.b .nil bG (aB (aj 0) (aB (aj 2) aJ))))),?_⟩;have hlen:=Paired.length cX;refine⟨_,I,r,I,⟨_,aI.of gK⟩,λD cg=>FA (K:=K) (a:=r) (xs:=cI.map V.ref) (λi ae=>aw H ae/\∃vs:List V,ae D=U (.lst vs)/\Paired (pK ae) vs ((hN.take i).map λbu=>oI bu ns)) ⟨aw.new cg,[],aW,by rw[qG];exact .nil⟩ (λi ae _ h=>aI.of (h.1 _ _ gK)) ?_ ?_⟩
  ·rintro i x H1 ao ⟨s1,xj,ag,zc⟩;obtain⟨p,aO,rfl⟩:∃p,cI[i]? =U p/\V.ref p=x:=by
    rw[dI]at ao;cases q:cI[i]? with
    |none=>rw[q]at ao;cases ao
    |some b=>rw[q]at ao;exact⟨b,I,bS ao⟩
   obtain⟨bu,n7,BW⟩:=Paired.getL cX aO;refine⟨xl,?_⟩;unfold pn;dsimp only;rw[art I];have B4:xj.length<sizeLine:=by have:=Paired.length zc;rw[aU,fo]at this;exact jw aG
   have hY:=j1 n7;refine⟨_,I,_,I,b,p,ns,bu,I,s1 _ _ ak,au,BW.same s1,bM bu (eN n7),λe az s2=>?_,λm e az q s2 aK aQ=>?_⟩
   ·refine⟨xj,s2 _ _ ag,B4,(s1.trans s2).put cg,xj++[.bZ],aW,?_⟩;rw[hY,eU];refine Paired.app (Paired.imp zc λv o _ h=>(h.same s2).but (s2 _ _ ag) ff.at) (.cons ?_ .nil);show pK _ _ (oI bu ns);rw[e];rfl
   ·refine⟨xj,s2 _ _ ag,B4,(s1.trans s2).put cg,xj++[.ref q],aW,?_⟩;rw[hY,eU];refine Paired.app (Paired.imp zc λv o _ h=>(h.same s2).but (s2 _ _ ag) ff.at) (.cons ?_ .nil);show pK _ _ (oI bu ns);rw[e];exact⟨q,I,by rw[aY (bQ (bj ag aK))];exact aQ⟩
  ·rintro H1 ⟨s1,xj,ag,zc⟩;rw[aU,hlen,hA]at zc;exact k H1 D xj s1 cg ag zc
end
end ck
namespace ck
open PySem PySem.Spec PyProof.Rows bL G
open Vanetm (State Use Recipe recipeAt given_ allNames stock nameOf firstUnit Reached)
theorem wA(l:List dq):(l.map d_).map cc=l.map nm:=by rw[dn];rfl
theorem aiw{l m:List dq}(h:l.map d_=m.map d_):l=m:=(PR λ_ _ e=>LL e).mp h
def ll(acc:List Reached)(cs:List Addr):List (List Key×V):=List.zipWith (λx c=>(x.names.map d_,V.ref c)) acc cs
theorem aiJ{acc:List Reached}{cs:List Addr}(h:cs.length=acc.length):(ll acc cs).length=acc.length:=by unfold ll;rw[List.length_zipWith,h,Nat.min_self]
theorem Fv{R:Addr->Reached->Prop}{b:List dq}:∀{cs:List Addr}{acc:List Reached},Paired R cs acc->(acc.find? (λx=>x.names==b)=af->eb (ll acc cs) (b.map d_)=af)/\∀x,acc.find? (λx=>x.names==b)=U x->∃c,eb (ll acc cs) (b.map d_)=U (.ref c)/\R c x
 |_,_,.nil=>⟨λ_=>I,λx h=>(nomatch h)⟩
 |c::cs,y::acc,.cons r t=>by
  obtain⟨ag,ai⟩:=Fv (b:=b) t;have e:ll (y::acc) (c::cs)=(y.names.map d_,V.ref c)::ll acc cs:=rfl;rw[e,nM];by_cases q:y.names=b
  ·have ak:(y.names==b)=ah:=by simpa using q
   rw[ak];refine⟨λh=>(nomatch h),λx h=>?_⟩;have:y=x:=bS h;subst this;exact⟨c,nI (by rw[q]),r⟩
  ·have ak:(y.names==b)=aE:=by simpa using q
   rw[ak];have aC:¬y.names.map d_=b.map d_:=λz=>q (aiw z);refine⟨λh=>?_,λx h=>?_⟩
   ·rw[mb aC];exact ag h
   ·obtain⟨cp,aS,aQ⟩:=ai x h;exact⟨cp,by rw[mb aC];exact aS,aQ⟩
theorem TP:∀{acc:List Reached}{i:Nat}{x:Reached},vF acc->acc[i]? =U x->acc.find? (λy=>y.names==x.names)=U x
 |[],i,x,_,h=>by simp at h
 |y::acc,i,x,ay,h=>by
  unfold vF at ay;rw[dO,hz]at ay;rw[nM];cases i with
  |zero=>
   have:y=x:=by simpa using h
   subst this;simp
  |succ i=>
   have ao:acc[i]? =U x:=by simpa using h
   have aC:(y.names==x.names)=aE:=by rw[beq_eq_false_iff_ne];intro z;exact ay.1 (by rw[z];exact fq.mpr ⟨x,eN ao,I⟩)
   rw[aC];exact TP ay.2 ao
theorem aim{acc:List Reached}{b:List dq}:AI acc b=(acc.find? (λx=>x.names==b)).isSome:=by unfold AI;rw[mf,List.find?_isSome,Hn]
structure lK(H:ax)(C F:Addr)(acc:List Reached)(cs bk:List Addr):Prop where
 c:H C=U (.e3 (ll acc cs))
 f:H F=U (.lst (bk.map V.ref))
 cs:Paired (λc x=>H c=U (.lst (x.course.map aM))/\c≠F) cs acc
 bk:Paired (λp x=>H p=U (.tup (x.names.map nm))) bk acc
structure qX(acc:List Reached):Prop where
 Ms:jK acc=aE
 Q':vF acc
 Bc:∀x∈acc,x.course.length<=6
theorem lK.same{H ae:ax}{C F:Addr}{acc:List Reached}{cs bk:List Addr}(h:lK H C F acc cs bk)(s:aw H ae):lK ae C F acc cs bk:=⟨s _ _ h.c,s _ _ h.f,Paired.imp h.cs λ_ _ _ e=>⟨s _ _ e.1,e.2⟩,Paired.imp h.bk λ_ _ _ e=>s _ _ e⟩
theorem lK.has{H:ax}{C F:Addr}{acc:List Reached}{cs bk:List Addr}(h:lK H C F acc cs bk)(b:List dq):(eb (ll acc cs) (b.map d_)).isSome=AI acc b:=by
 obtain⟨ag,ai⟩:=Fv (b:=b) h.cs;rw[aim];cases q:acc.find? (λx=>x.names==b)with
 |none=>rw[ag q];rfl
 |some x=>obtain⟨c,e,_⟩:=ai x q;rw[e];rfl
theorem lK.Bc{H:ax}{C F:Addr}{acc:List Reached}{cs bk:List Addr}(h:lK H C F acc cs bk)(m:qX acc){i:Nat}{x:Reached}(ao:acc[i]? =U x):∃c,eb (ll acc cs) (x.names.map d_)=U (.ref c)/\H c=U (.lst (x.course.map aM))/\c≠F:=(Fv (b:=x.names) h.cs).2 x (TP m.Q' ao)
theorem lK.more{H:ax}{C F q tA:Addr}{acc:List Reached}{cs bk:List Addr}{y:Reached}(h:lK H C F acc cs bk)(aC:AI acc y.names=aE)(aK:H q=U (.lst (y.course.map aM)))(Cu:q≠F)(aO:H tA=U (.tup (y.names.map nm))):lK (upd (upd H C (.e3 (putK (ll acc cs) (y.names.map d_) (.ref q)))) F (.lst (bk.map V.ref++[V.ref tA]))) C F (acc++[y]) (cs++[q]) (bk++[tA]):=by
 have Mv:C≠F:=cH h.c h.f df;have BQ:eb (ll acc cs) (y.names.map d_)=af:=by
  have:=h.has y.names;rw[aC]at this;cases e:eb (ll acc cs) (y.names.map d_)with
  |none=>rfl
  |some v=>rw[e]at this;cases this
 have iv:∀c l,c≠F->H c=U (.lst l)->(upd (upd H C (.e3 (putK (ll acc cs) (y.names.map d_) (.ref q)))) F (.lst (bk.map V.ref++[V.ref tA]))) c=U (.lst l):=λc l n e=>by rw[aY n,aY (cH e h.c df)];exact e
 have kt:∀c l,H c=U (.tup l)->(upd (upd H C (.e3 (putK (ll acc cs) (y.names.map d_) (.ref q)))) F (.lst (bk.map V.ref++[V.ref tA]))) c=U (.tup l):=λc l e=>by rw[aY (cH e h.f df),aY (cH e h.c df)];exact e
 refine⟨?_,?_,Paired.app (Paired.imp h.cs λ_ _ _ e=>⟨iv _ _ e.2 e.1,e.2⟩) (.cons ⟨iv _ _ Cu aK,Cu⟩ .nil),Paired.app (Paired.imp h.bk λ_ _ _ e=>kt _ _ e) (.cons (kt _ _ aO) .nil)⟩
 ·rw[aY Mv,aW,CC _ BQ];unfold ll;rw[List.zipWith_append (Paired.length h.cs).symm];rfl
 ·rw[aW,eU];rfl
theorem qX.more{acc:List Reached}{y:Reached}(m:qX acc)(aC:AI acc y.names=aE)(ag:acc.length≠300)(ai:y.names.length<=20)(aN:y.course.length<=6):qX (acc++[y]):=by
 obtain⟨a1,a2⟩:=Cn m.Ms;refine⟨FG (by rw[cA,j5];omega) λx ao=>?_,acP m.Q' aC,λx ao=>?_⟩
 ·rcases gn.mp ao with ao|ao
  ·exact a2 x ao
  ·rw[gp.mp ao];exact ai
 ·rcases gn.mp ao with ao|ao
  ·exact m.Bc x ao
  ·rw[gp.mp ao];exact aN
section
variable{P:b6}{w:bX}{K:PySem.W.Frag}{ap:Str->Option ar}{base:Heap}{A:cu}
def QP(C F:Addr)(H ae:ax):Prop:=∀c o,c≠C->c≠F->H c=U o->ae c=U o
inductive YG(A:cu)(vs:List V)(H:ax)(Q:c9)(asq:lM):Prop
 |mk (b r:Addr) (cI:List Addr) (s:State) (h0:vs=[.ref b,.ref r]) (ag:H b=U (.lst (s.first.map nm))) (ai:H r=U (.lst (cI.map V.ref))) (aN:Paired (RecAt A.gE H) cI s.recipes) (bD:Good s) (cw:(ur s=af->∀ae,aw H ae->Q .bZ ae)) (e_:∀acc,ur s=U acc->∀ae C F cs bk,aw H ae->H C=af->lK ae C F acc cs bk->qX acc->Q (.ref C) ae)
theorem akS(T:Txt K ap A):a0 P w K ap base a8 4 A.vl A.yH ["names","recipes"] (YG A):=by
 have cv:a0 P w K ap base a8 1 A.q1 A.sD ["names"] GJ:=MH T;have dB:a0 P w K ap base a8 3 A.vh A.yD ["bag","recipes"] (YB A):=akN T;refine T.IV.F.ok tJ (λvs H Q E h=>?_) (λb9 cV outer s H vs Q E aL h=>?_)
 ·obtain⟨_,_,_,_,rfl,_⟩:=h;rfl
 ·obtain⟨b,r,cI,st,rfl,ak,ahx,cX,g,dS,co⟩:=h;have a4:=n9 aL;have dW:de 1 _:=aL.mono a5;refine⟨_,a3 (cQ (i:=2) tJ.ba I (bA I) (alv a4 (c2 cv dW I T.Ks T.uz.F.bJ T.uz.b .nil bG (aB (aj 0) aJ)) (du aJ))) (a3 (cQ (i:=3) tJ.ba I (bA I) (i5 (adj I) I T.lN m5 (aB (aj 2) aJ))) (a3 (cQ (i:=4) tJ.ba I (bA I) dt) (a3 (qr gD (ji.pt (M7 (cJ tx (aj 4) (c4 eJ I T.dG PySem.boot_len (aB (aj 3) aJ)) (cY _)) (M8 (cJ tx (c4 eJ I T.dG PySem.boot_len (aB (zO a4 (aj 2) (eo gi (aj 3) (aj 4) (λ_ _=>I)) (λ_ _=>I)) aJ)) (c3 I T.LP) (cY _))))) (a3 (cQ (i:=5) tJ.ba I (bA I) (eo gi (aj 3) (aj 4) (λ_ _=>I))) (a3 (i6 gD I (F7 I T.x7 (aB (c2 dB aL I T.afb T.IR.F.bJ T.IR.b .nil bG (aB (aj 5) (aB (aj 1) aJ))) aJ)) (wZ I (mK (d9 (i:=6) tJ.ba I (bA I)) (mK (d9 (i:=7) tJ.ba I (bA I)) w0))) (a3 (c5 (ji.pt (rB (cJ l_ (aj 7) gk (cY _)) (rC (M4 (F5 a4 (aj 7) (aj 2)))))) (bb alS) dd) (a3 (c5 (ji.pt (rB (cJ gY (c4 adh I T.dG PySem.boot_len (aB (aj 2) aJ)) (c3 I T.LU) (cY _)) (rC (cJ nB (c4 eJ I T.dG PySem.boot_len (aB (aj 7) aJ)) (c3 I T.LX) (cY _))))) (bb (bE gk)) dd) (a3 (w2 a4 (aj 2) (aj 7) (fj kx (zO a4 (aj 2) (aj 5) (λ_ _=>I)) (du (aB (aj 6) aJ))) I) (bb (fE (iy PySem.F.plainAttrs_list PySem.F.slot_list_append PySem.F.type_list_append mI (aj 3) (aB (aj 7) aJ)))))))) (bb (w1 (i:=4) tJ.ba I (bA I) dt zu))))) (bb (bE (aj 2)))))),?_⟩;have Es:=g.fst;intro C iX;have s1:aw H (upd H C (.e3 [])):=aw.new iX;have cq:(upd H C (.e3 [])) C=U (.e3 []):=aW;generalize(upd H C (.e3 []))=H1 at*;refine⟨_,I,b,st.first,I,s1 _ _ ak,aG,λaz tA s2 ahl aQ=>?_⟩;refine⟨ec _,λdz kV=>?_⟩;have s3:aw az (upd az dz (.lst [])):=aw.new kV;have b0:(upd az dz (.lst [])) dz=U (.lst []):=aW;generalize(upd az dz (.lst []))=aZ at*;have fv:=s2.trans s3;refine⟨fv _ _ cq,tA,(jH st.first).map d_,I,by rw[wA];exact s3 _ _ aQ,?_⟩;have iI:(upd aZ C (.e3 [((jH st.first).map d_,V.ref dz)])) C=U (.e3 [((jH st.first).map d_,V.ref dz)]):=aW;have o_:∀c o,c≠C->aZ c=U o->(upd aZ C (.e3 [((jH st.first).map d_,V.ref dz)])) c=U o:=λc o n e=>by rw[aY n];exact e
  generalize(upd aZ C (.e3 [((jH st.first).map d_,V.ref dz)]))=bz at*;have s4:aw H bz:=λc o e=>o_ _ _ (bj e iX) (fv _ _ (s1 _ _ e));refine⟨_,I,C,_,I,iI,λF bs jn agd=>?_⟩;have s5:aw bz (upd bz F (.lst (bs.map V.ref))):=aw.new jn;have gu:(upd bz F (.lst (bs.map V.ref))) F=U (.lst (bs.map V.ref)):=aW;generalize(upd bz F (.lst (bs.map V.ref)))=cb at*;have Uj:H F=af:=s4.free jn;have R5:bz dz=U (.lst []):=o_ _ _ (cH b0 (fv _ _ cq) df) b0;have ajI:dz≠F:=bj R5 jn;have pg:lK cb C F [{names:=jH st.first,course:=[]}] [dz] bs:=by
   refine⟨s5 _ _ iI,gu,.cons ⟨s5 _ _ R5,ajI⟩ .nil,?_⟩;cases agd with
   |cons h t=>cases t;refine .cons (s5 _ _ ?_) .nil;rw[<-wA];exact h
  have l3:qX [({names:=jH st.first,course:=[]}:Reached)]:=by
   refine⟨FG bl λx ao=>?_,by unfold vF;simp,λx ao=>?_⟩
   ·rw[gp.mp ao];show(jH st.first).length<=20;rw[Rh];omega
   ·rw[gp.mp ao];exact ec _
  have Gm:=s4.trans s5;refine⟨λm σ ae=>asB λ(ho v6 pu:Option V)(ix:Nat)(acc:List Reached)(cs bk:List Addr)=>σ=[U (.ref b),U (.ref r),U (.ref C),U (.ref F),U (aM ix),ho,v6,pu]/\aw H ae/\lK ae C F acc cs bk/\qX acc/\lO st m ix acc=ur st/\302<=m+ix/\ix<=acc.length,⟨302,af,af,af,0,_,_,_,I,Gm,pg,l3,(ac3 Es).symm,bR _,ec _⟩,?_⟩;rintro m σ dj ⟨ho,v6,pu,ix,acc,cs,bk,rfl,c6,jt,Cj,f3,hm,aqE⟩;have iZ:=Cn Cj.Ms;have p9:=Paired.length jt.bk;have lW:=Paired.length jt.cs;obtain⟨m,rfl⟩:∃m',m=m'+1:=⟨m-1,aG⟩;refine⟨_,I,_,I,F,_,I,.inl (aI.of jt.f),_,_,I,I,_,I,?_⟩;rw[aU,p9];refine d5 (λq=>?_) (λq=>?_)
  ·have dD:ix<acc.length:=by have:=aru q;omega
   have ao:acc[ix]? =U acc[ix]:=gB dD;generalize acc[ix]=x at ao;obtain⟨wX,U2,ij⟩:=Paired.wa jt.bk ao;obtain⟨c,agl,age,aq4⟩:=jt.Bc Cj ao;have Be:gd dj C (.ref wX) (U (.ref c)):=by rw[<-agl];exact gd.t jt.c (by rw[wA];exact ij)
   refine⟨_,I,_,I,_,I,F,_,_,_,I,I,aI.of jt.f,eI (l4 U2),C,_,I,Be,c,_,I,.inl (aI.of age),_,_,I,I,_,I,?_⟩;rw[aU];have KU:lO st (m+1) ix acc=if x.course.length<6 then(n3 acc (cands st x)).bind λa=>lO st m (ix+1) a else U acc:=by
    conv=>lhs;unfold lO
    rw[ao]
   rw[KU]at f3;refine d5 (λbc=>?_) (λbc=>?_)
   ·have agZ:x.course.length<6:=by have:=aru bc;omega
    rw[art agZ]at f3;refine⟨λcj ae=>asB λ(ho v6 pu:Option V)(ix:Nat)(acc:List Reached)(cs bk:List Addr)=>cj=[U (.ref b),U (.ref r),U (.ref C),U (.ref F),U (aM ix),ho,v6,pu]/\aw H ae/\lK ae C F acc cs bk/\qX acc/\lO st m ix acc=ur st/\302<=m+ix/\ix<=acc.length,λcj ae h=>⟨m,t9 m,h⟩,?_⟩;refine⟨_,I,_,I,F,_,_,_,I,I,aI.of jt.f,eI (l4 U2),?_⟩;refine⟨_,I,_,I,wX,r,cI,x.names,st.recipes,I,ij,iZ.2 x (eN ao),c6 _ _ ahx,Paired.imp cX λ_ _ _ e=>e.same c6,g.hN,g.lA,λd3 bB ZT dp ze kf zd=>?_⟩;have ph:=jt.same dp;have ajC:bB≠C:=bQ (bj jt.c ze);have ajD:bB≠F:=bQ (bj jt.f ze);have Mv:C≠F:=cH jt.c jt.f df;have B4:=Paired.length zd;rw[aU]at B4;refine⟨bB,_,I,aI.of kf,Kk (K:=K) (a:=bB) (xs:=ZT) (λi σ ae=>asA λ(v6 pu:Option V)(fA:List Reached)(nY ms:List Addr)=>σ=[U (.ref b),U (.ref r),U (.ref C),U (.ref F),U (aM ix),U (.ref wX),v6,pu]/\QP C F d3 ae/\lK ae C F fA nY ms/\qX fA/\fA[ix]? =U x/\n3 acc (cands st x)=n3 fA (((ry st).drop i).filterMap (q6 x))) ⟨v6,pu,acc,cs,bk,I,λ_ _ _ _ e=>e,ph,Cj,ao,I⟩ (λi σ ae _ h=>?_) ?_ ?_⟩
    ·obtain⟨_,_,_,_,_,_,pV,_⟩:=h;exact aI.of (pV _ _ ajC ajD kf)
    ·rintro i v σ gr f9 av ⟨v6,pu,fA,nY,ms,rfl,pV,tF,wH,ww,fB⟩ mC;obtain⟨o,aA,EO⟩:=Paired.getL zd av;obtain⟨bu,n7,rfl⟩:∃bu,st.recipes[i]? =U bu/\oI bu x.names=o:=by
      rw[dI]at aA;cases q:st.recipes[i]? with
      |none=>rw[q]at aA;cases aA
      |some bu=>rw[q]at aA;exact⟨bu,I,bS aA⟩
     have E5:=pairs_at n7;obtain⟨f5,ahm⟩:=ej.mp E5;rw[kK f5,ahm,Af]at fB;have lB:aw gr (upd gr f9 (.tup [aM i,v])):=aw.new mC;have anC:(upd gr f9 (.tup [aM i,v])) f9=U (.tup [aM i,v]):=aW;generalize(upd gr f9 (.tup [aM i,v]))=g5 at*;have pW:QP C F d3 g5:=λc o b' cB e=>lB _ _ (pV c o b' cB e);have rD:=tF.same lB;have aqv:=Cn wH.Ms;have agi:=Paired.length tF.cs;have rl:=aiJ agi;refine⟨f9,_,I,eQ.of anC,I,_,_,I,_,_,I,I,?_⟩;cases q:oI bu x.names with
     |none=>
      rw[q]at EO;obtain rfl:v=.bZ:=EO;have K0:q6 x (i,bu)=af:=by unfold q6;rw[q];rfl
      rw[K0]at fB;exact⟨_,I,I,_,I,d6 (d6 ⟨_,_,fA,nY,ms,I,pW,rD,wH,ww,fB⟩)⟩
     |some jz=>
      rw[q]at EO;obtain⟨p,rfl,aO⟩:=EO;have K0:q6 x (i,bu)=U {names:=jz,course:=x.course++[i]}:=by unfold q6;rw[q];rfl
      rw[K0]at fB;have E4:g5 p=U (.tup (jz.map nm)):=pW _ _ (cH aO ph.c df) (cH aO ph.f df) aO;have fB:n3 acc (cands st x)=(ml fA {names:=jz,course:=x.course++[i]}).bind λa=>n3 a (((ry st).drop (i+1)).filterMap (q6 x)):=fB;refine⟨_,I,I,_,I,eD ⟨_,I,_,I,C,_,I,gd.t rD.c (by rw[wA];exact E4),_,I,?_⟩⟩;rw[rD.has];cases fU:AI fA jz with
      |true=>
       have ay:ml fA {names:=jz,course:=x.course++[i]}=U fA:=by unfold ml;rw[fU,art I]
       rw[ay]at fB;exact d6 ⟨_,_,fA,nY,ms,I,pW,rD,wH,ww,fB⟩
      |false=>
       have amz:aw H g5:=λc o e=>pW _ _ (bj e iX) (bj e Uj) (dp _ _ (c6 _ _ e));have stop:(fA.length=300\/20<jz.length)->Q .bZ g5:=λahe=>by
        have ay:ml fA {names:=jz,course:=x.course++[i]}=af:=by unfold ml;rw[fU,ars eM,art ahe]
        rw[ay]at fB;have fB:n3 acc (cands st x)=af:=fB;rw[fB]at f3;exact dS f3.symm g5 amz
       refine eD ⟨_,I,C,_,I,rD.c,I,_,I,?_⟩;rw[rl];by_cases aN:fA.length=300
       ·rw[arq (show V.int ((fA.length:Nat):Int)=V.int 300 by rw[aN];rfl)];exact d6 (d6 (stop (.inl aN)))
       ·rw[arp (show¬V.int ((fA.length:Nat):Int)=V.int 300 fromλz=>aN (by have:=V.int.inj z;omega))];refine eD ⟨_,I,p,_,I,.inr (eQ.of E4),_,_,I,I,_,I,?_⟩;rw[aU];by_cases bD:20<jz.length
        ·rw[arq (show(20:Int)<((jz.length:Nat):Int)by omega)];exact d6 (stop (.inr bD))
        ·rw[arp (show¬(20:Int)<((jz.length:Nat):Int)by omega)];have ay:ml fA {names:=jz,course:=x.course++[i]}=U (fA++[{names:=jz,course:=x.course++[i]}]):=by unfold ml;rw[fU,ars eM,ars (λz=>z.elim aN bD)]
         rw[ay]at fB;have fB:n3 acc (cands st x)=n3 (fA++[{names:=jz,course:=x.course++[i]}]) (((ry st).drop (i+1)).filterMap (q6 x)):=fB;obtain⟨x8,agm,KY,aq5⟩:=rD.Bc wH ww;have aea:g5 wX=U (.tup (x.names.map nm)):=pW _ _ (cH ij jt.c df) (cH ij jt.f df) (dp _ _ ij);have adR:gd g5 C (.ref wX) (U (.ref x8)):=by rw[<-agm];exact gd.t rD.c (by rw[wA];exact aea)
         refine eD ⟨_,I,_,I,C,_,I,adR,_,I,eH,λa7 gW=>?_⟩;have Gn:aw g5 (upd g5 a7 (.lst [aM i])):=aw.new gW;have J3:(upd g5 a7 (.lst [aM i])) a7=U (.lst [aM i]):=aW;generalize(upd g5 a7 (.lst [aM i]))=qU at*;refine⟨x8,a7,_,_,I,I,Gn _ _ KY,J3,?_,λbc i1=>?_⟩
         ·rw[aU];exact b3 (show _<=1000 by show _+1<=1000;omega) a5
         have aeg:x.course.map aM++[aM i]=(x.course++[i]).map aM:=by rw[eU];rfl
         rw[aeg];have XR:aw qU (upd qU bc (.lst ((x.course++[i]).map aM))):=aw.new i1;have ad3:(upd qU bc (.lst ((x.course++[i]).map aM))) bc=U (.lst ((x.course++[i]).map aM)):=aW;generalize(upd qU bc (.lst ((x.course++[i]).map aM)))=acu at*;have Gp:=Gn.trans XR;have Gf:=rD.same Gp;have MA:bc≠F:=bQ (bj (Gn _ _ rD.f) i1);refine⟨_,I,_,I,C,_,I,mW.t (k:=jz.map d_) Gf.c (by rw[wA];exact Gp _ _ E4) (by rw[rl];exact jw aG),?_⟩;have So:(upd acu C (.e3 (putK (ll fA nY) (jz.map d_) (.ref bc)))) F=U (.lst (ms.map V.ref)):=by rw[aY (bQ Mv)];exact Gf.f
         refine⟨_,I,.inl ⟨I,_,aI.of So⟩,_,I,F,_,_,I,I,So,?_,?_⟩
         ·rw[aU,Paired.length Gf.bk];exact jw aG
         have amt:=Gf.more (y:={names:=jz,course:=x.course++[i]}) fU ad3 MA (Gp _ _ E4);have iw:=wH.more (y:={names:=jz,course:=x.course++[i]}) fU aN (by show jz.length<=20;omega) (by show(x.course++[i]).length<=6;rw[cA,j5];omega);refine⟨_,_,_,_,_,I,λc o b' cB e=>?_,amt,iw,?_,fB⟩
         ·rw[aY cB,aY b'];exact Gp _ _ (pW _ _ b' cB e)
         ·rw[pA (ej.mp ww).1];exact ww
    ·rintro σ gr ⟨v6,pu,fA,nY,ms,rfl,pV,tF,wH,ww,fB⟩;have hd:(ry st).drop ZT.length=[]:=PJ (by rw[G.pairs_len,B4];exact bR _);rw[hd]at fB;have fB:n3 acc (cands st x)=U fA:=fB;rw[fB]at f3;have f3:lO st m (ix+1) fA=ur st:=f3;have amy:aw H gr:=λc o e=>pV _ _ (bj e iX) (bj e Uj) (dp _ _ (c6 _ _ e));have ahU:=(ej.mp ww).1;refine⟨_,I,_,_,I,I,U (.ref wX),v6,pu,ix+1,fA,nY,ms,?_,amy,tF,wH,f3,aG,ahU⟩;show[U (V.ref b),U (V.ref r),U (V.ref C),U (V.ref F),U (V.int (((ix:Nat):Int)+1)),U (V.ref wX),v6,pu]=_;rfl
   ·have agy:¬x.course.length<6:=λz=>bc (arq aG);rw[ars agy]at f3;exact⟨_,I,co acc f3.symm dj C F cs bk c6 iX jt Cj⟩
  ·have o5:acc.length<=ix:=by have:¬(((ix:Nat):Int)<((acc.length:Nat):Int)):=λz=>q (arq z);omega
   have KU:lO st (m+1) ix acc=U acc:=by unfold lO;rw[qC.mpr o5]
   rw[KU]at f3;exact⟨_,I,co acc f3.symm dj C F cs bk c6 iX jt Cj⟩
inductive Yr(A:cu)(vs:List V)(H:ax)(Q:c9)(asq:lM):Prop
 |mk (w r u c:Addr) (s:State) (t:dT) (h0:vs=[.ref w,.ref c]) (ag:dF A H w r u s) (ai:Good s) (aN:H c=U (.lst ((jk t).map V.int))) (bD:t.length<=4000) (cw:jh A w r u H Q s (eC s (.reach t)))
theorem akC(T:Txt K ap A):a0 P w K ap base a8 5 A.u7 A.yr ["workshop","codes"] (Yr A):=by
 have cv:a0 P w K ap base a8 3 A.q3 A.sF ["text"] GO:=MK T;have dB:a0 P w K ap base a8 1 A.pS A.q' ["codes"] (CU (K:=K)):=FY T;have fQ:a0 P w K ap base a8 4 A.vl A.yH ["names","recipes"] (YG A):=akS T;have h8:a0 P w K ap base a8 1 A.q1 A.sD ["names"] GJ:=MH T;refine T.IF.F.ok Gs (λvs H Q E h=>?_) (λb9 cV outer s H vs Q E aL h=>?_)
 ·obtain⟨_,_,_,_,_,_,rfl,_⟩:=h;rfl
 ·obtain⟨aR,r,u,c,st,t,rfl,bF,g,aF,bV,ay⟩:=h;have a4:=n9 aL;have dW:de 1 _:=aL.mono a5;have E8:de 3 _:=aL.mono a5;refine⟨_,a3 (cQ (i:=2) Gs.ba I (bA I) (c2 cv E8 I T.Ku T.uB.F.bJ T.uB.b .nil bG (aB (c2 dB dW I T.ED T.qT.F.bJ T.qT.b .nil bG (aB (aj 1) aJ)) aJ))) (a3 (c5 (cJ l_ (aj 2) gk (cY _)) (bb (bE (du (aB (c3 I T.zv) aJ)))) dd) (a3 (c5 (cJ nB (c4 eJ I T.dG PySem.boot_len (aB (aj 2) aJ)) (c3 I T.LS) (cY _)) (bb (bE (du (aB (c3 I T.tg) aJ)))) dd) (a3 (cQ (i:=3) Gs.ba I (bA I) (c2 fQ aL I T.aff T.IV.F.bJ T.IV.b .nil bG (aB (bH (aj 0) I) (aB (bH (aj 0) I) aJ)))) (a3 (c5 (cJ l_ (aj 3) gk (cY _)) (bb (bE (du (aB (c3 I T.L7) aJ)))) dd) (a3 (cQ (i:=4) Gs.ba I (bA I) (als a4 (aj 3) (c2 h8 dW I T.Ks T.uz.F.bJ T.uz.b .nil bG (aB (aj 2) aJ)) ⟨I,I,I,I⟩)) (a3 (c5 (cJ l_ (aj 4) gk (cY _)) (bb (bE (du (aB dt (aB dt aJ))))) dd) (bb (bE (fj kx (du (aB dt (aB (c4 eJ I T.dG PySem.boot_len (aB (aj 4) aJ)) aJ))) (aj 4)))))))))),?_⟩;have au:(jk t).length=t.length:=by simp[jk]
  refine⟨_,I,c,jk t,I,aI.of aF,aG,λH1 s1=>?_⟩;rw[Eb];have a9:(bW (t.map cm)).length+2<=sizeLine:=by rw[e4,aU];exact b3 (show _<=5000 by omega) a5
  have cZ:eC st (.reach t)=oJ (jF t) 1 λl=>ab8 l (oJ (ur st) 7 λall=>match all.find? λx=>x.names==jH l with
   |some x=>r4 st (1::lH x.course)
   |none=>r4 st [0,0]):=rfl
  have tP:bf.a6 (bW (t.map cm))=t.map cm:=rfl;refine⟨bW (t.map cm),I,a9,λcP az s2=>?_,λns cP az p s2 aO fb=>?_⟩
  ·rw[tP,wN]at cP;have cP:jF t=af:=by
    cases q:jF t with
    |none=>rfl
    |some l=>rw[q]at cP;cases cP
   rw[cZ,cP]at ay;exact⟨_,I,I,_,I,d6 ⟨eH,λl au=>ay.new bF (s1.trans s2) au I⟩⟩
  ·rw[tP,wN]at cP;obtain⟨l,kh,rfl⟩:∃l,jF t=U l/\l.map codes=ns:=by
    cases q:jF t with
    |none=>rw[q]at cP;cases cP
    |some l=>rw[q]at cP;exact⟨l,I,bS cP⟩
   rw[cZ,kh]at ay;have fb:az p=U (.lst (l.map nm)):=by rw[fb,dn];rfl
   refine⟨_,I,I,_,I,eD ?_⟩;refine⟨_,I,p,_,I,.inl (aI.of fb),_,_,I,I,_,I,?_⟩;rw[aU];have eh:=s1.trans s2;have ay:jh A aR r u H Q st (fl (decide (l.length<=10)) 5 (oJ (ur st) 7 λall=>match all.find? λx=>x.names==jH l with
    |some x=>r4 st (1::lH x.course)
    |none=>r4 st [0,0])):=ay
   unfold fl at ay;refine d5 (λag=>?_) (λag=>?_)
   ·have ag:(10:Int)<(l.length:Int):=aru ag;rw[ars (show¬decide (l.length<=10)=ah by simp;omega)]at ay;exact⟨eH,λq aK=>ay.new bF eh aK I⟩
   ·have ag:¬(10:Int)<(l.length:Int):=λz=>ag (arq z);rw[art (show decide (l.length<=10)=ah by simp;omega)]at ay;have aqF:l.length<=10:=aG;have af0:=bF.grow eh;obtain⟨aq,b,cI,bx,b5,dv,ei,fM,dm,eT,hy⟩:=id af0;refine⟨_,I,aR,_,aq,_,_,I,b5,T.dr,T.qk,tX _ _ _,_,I,aR,_,aq,_,_,I,b5,T.dr,T.lq,mc _ _ _,b,r,cI,st,I,fM,dv,ei,g,λcP aZ s3=>?_,λacc cP aZ C F cs bk s3 iX hv mH=>?_⟩
    ·rw[cP]at ay;exact⟨_,I,I,_,I,d6 ⟨eH,λq aK=>ay.new bF (eh.trans s3) aK I⟩⟩
    ·rw[cP]at ay;have ay:jh A aR r u H Q st (match acc.find? λx=>x.names==jH l with
      |some x=>r4 st (1::lH x.course)
      |none=>r4 st [0,0]):=ay
     refine⟨_,I,I,_,I,eD ?_⟩;refine⟨_,I,C,I,.inr ⟨_,.inl hv.c⟩,_,I,p,l,I,s3 _ _ fb,aG,λbz tA s4 ahl eW=>?_⟩;have XS:=s3.trans s4;refine⟨_,gd.t (k:=(jH l).map d_) (s4 _ _ hv.c) (by rw[wA];exact eW),?_⟩;obtain⟨ag,ai⟩:=Fv (b:=jH l) hv.cs;cases q:acc.find? (λx=>x.names==jH l)with
     |none=>rw[q]at ay;rw[ag q];exact⟨_,I,I,_,I,d6 ⟨iC,λq aK=>ay.new bF (eh.trans XS) aK I⟩⟩
     |some x=>
      rw[q]at ay;obtain⟨RS,bU,EQ,_⟩:=ai x q;rw[bU];have lW:=mH.Bc x (PT q);have UA:=s4 _ _ EQ;refine⟨_,I,I,_,I,eD ?_⟩;refine⟨_,I,RS,_,I,.inl (aI.of UA),iC,λa7 gW=>?_⟩;rw[aU];have s5:aw bz (upd bz a7 (.lst [V.int 1,aM x.course.length])):=aw.new gW;have gT:(upd bz a7 (.lst [V.int 1,aM x.course.length])) a7=U (.lst [V.int 1,aM x.course.length]):=aW;generalize(upd bz a7 (.lst [V.int 1,aM x.course.length]))=cb at*;refine⟨_,I,a7,RS,_,_,I,I,gT,s5 _ _ UA,?_,λbc i1=>?_⟩
      ·rw[aU];exact b3 (show _<=1000 by show 2+_<=1000;omega) a5
      ·refine ay.new bF (eh.trans (XS.trans s5)) i1 ?_;show _=(hg (1::lH x.course)).map V.int;rw[Fm];rfl
end
end ck
namespace ck
open PySem PySem.Spec PyProof.Rows bL G
open Vanetm (State Use Recipe recipeAt given_ allNames stock nameOf firstUnit)
theorem afz{s:State}(g:Good s){l:List dq}(ag:l.length<=10)(ai:∀a∈l,gb a=ah):Good {s with first:=l,uses:=[]}:=⟨g.lA,g.hN,ag,ai,ec _,(λu h=>nomatch h),(λk u h=>nomatch h),qE⟩
theorem afB{s:State}(g:Good s){r:jG}(ag:s.recipes.length<12)(ai:GoodR r):Good {s with recipes:=s.recipes++[r]}:=by
 have bM:∀u∈s.uses,hC {s with recipes:=s.recipes++[r]} u=hC s u:=λu a4=>by have au:=(g.gP u a4).1;unfold hC dw;show(((s.recipes++[r])[u.recipe]?).getD _).gives=_;rw[pA au]
 have hf:∀k,cn {s with recipes:=s.recipes++[r]} k=cn s k:=λk=>by
  unfold cn;show s.first.length+((s.uses.take k).flatMap _).length=s.first.length+_;congr 2;have:∀l:List Use,(∀u∈l,u∈s.uses)->l.flatMap (hC {s with recipes:=s.recipes++[r]})=l.flatMap (hC s):=by
   intro l;induction l with
   |nil=>intro _;rfl
   |cons x t ih=>intro h;rw[kM,kM,bM x (h x (eB _)),ih λu a4=>h u (fe _ a4)]
  exact this _ λu a4=>rV a4
 refine⟨?_,?_,g.fst,g.wQ,g.use,?_,?_,g.Cq⟩
 ·show(s.recipes++[r]).length<=12;rw[cA,j5];omega
 ·intro x ao;rcases gn.mp (show x∈s.recipes++[r]from ao)with ao|ao
  ·exact g.hN x ao
  ·rw[gp.mp ao];exact ai
 ·intro u a4;have:=g.gP u a4;refine⟨?_,this.2⟩;show u.recipe<(s.recipes++[r]).length;rw[cA];omega
 ·intro k u aH n aC;rw[hf];exact g.A6 k u aH n aC
theorem Uc:∀(l:List Nat){s t:State},Good s->(∀r∈l,r<s.recipes.length)->s.uses.length+l.length<=10->r3 l s=U t->Good t
 |[],s,t,g,_,_,h=>by have:U s=U t:=h;cases this;exact g
 |r::l,s,t,g,aL,au,h=>by
  have h:((iQ s (dw s r).takes (cE s)).bind λus=>r3 l (AH s {recipe:=r,units:=us}))=U t:=h;cases q:iQ s (dw s r).takes (cE s)with
  |none=>rw[q]at h;cases h
  |some us=>rw[q]at h;obtain⟨dK,dc,lu⟩:=M0 s _ _ us (Pf s) q;rw[cW]at au;refine Uc l (Kz g (aL r (eB _)) dK dc lu aG) (λx ao=>aL x (fe _ ao)) ?_ h;show(s.uses++[_]).length+l.length<=10;rw[cA,j5];omega
theorem kA{s:State}(g:Good s)(b:Bool)(n:Nat){x:xN}(h:b=ah->Good (pe s x)):Good (pe s (fl b n x)):=by
 unfold fl;cases b with
 |true=>exact h I
 |false=>exact g
theorem zN{α:Type}{s:State}(g:Good s)(o:Option α)(n:Nat){f:α->xN}(h:∀a,o=U a->Good (pe s (f a))):Good (pe s (oJ o n f)):=by
 unfold oJ;cases o with
 |none=>exact g
 |some a=>exact h a I
theorem afA{s:State}(g:Good s):∀c:H',Good (pe s (eC s c))
 | .begin t=>zN g _ 1 λl au=>kA g _ 5 λh=>afz g (by simpa using h) (ajA au)
 | .recipe t=>by
  have cZ:eC s (.recipe t)=oJ ((nC t).bind uu) 1 λr=>fl (decide (r.takes.length<=6)&&decide (r.gives.length<=6)) 5 (fl (decide (s.recipes.length<12)) 6 (.ok ({s with recipes:=s.recipes++[r]},hg [s.recipes.length]))):=by rw[<-XA];rfl
  rw[cZ];refine zN g _ 1 λr aL=>kA g _ 5 λag=>kA g _ 6 λai=>?_;obtain⟨a7,bc,c_,gN⟩:=XH aL;simp at ag;exact afB g (by simpa using ai) ⟨a7,ag.1,bc,ag.2,c_,gN⟩
 | .use r l=>by
  refine kA g _ 2 λag=>kA g _ 5 λai=>kA g _ 3 λaN=>kA g _ 4 λbD=>?_;obtain⟨n,rfl,aC⟩:=vI ag;rw[show((n:Nat):Int).toNat=n by omega]at aN bD;unfold xO at aN;simp only[e7,beq_iff_eq,jA,decide_eq_true_eq]at aN;obtain⟨co,fD,f7⟩:=aN;show Good (AH s {recipe:=((n:Nat):Int).toNat,units:=l.map λn=>n.toNat});rw[show((n:Nat):Int).toNat=n by omega];refine Kz g aC ?_ ((Jl _).mp f7) (λm hm=>?_) (by simpa using ai)
  ·show(l.map _).length=_;rw[aU];exact co
  ·obtain⟨i,av,rfl⟩:=fq.mp (show m∈l.map λn=>n.toNat from hm);have:=(fD i av).2;simpa using this
 | .back=>kA g _ 8 λ_=>by show Good {s with uses:=s.uses.dropLast};rw[aae];exact afD g _
 | .stock=>g
 | .plan=>g
 | .show r=>kA g _ 2 λ_=>g
 | .exchange k=>by refine kA g _ 2 λag=>kA g _ 3 λai=>?_;simp at ag;show Good (nS s k.toNat);have aH:k.toNat+1<s.uses.length:=aG;rw[Kb g aH ai];exact KA g (Ep g aH ai)
 | .told=>by show Good (AL s);rw[ZC];exact KA g (Pr g).1
 | .net=>kA g _ 5 λ_=>g
 | .reach t=>zN g _ 1 λl _=>kA g _ 5 λ_=>zN g _ 7 λall _=>by split<;>exact g
 | .follow l=>by refine kA g _ 2 λag=>kA g _ 5 λai=>zN g _ 3 λt bV=>?_;show Good t;refine Uc _ g (λr aL=>?_) (by rw[aU];simpa using ai) bV;obtain⟨i,av,rfl⟩:=fq.mp aL;obtain⟨n,rfl,aC⟩:=vI (jA.mp ag i av);rw[show((n:Nat):Int).toNat=n by omega];exact aC
 | .weigh t l=>zN g _ 1 λns _=>kA g _ 1 λ_=>kA g _ 2 λ_=>g
 | .need r=>kA g _ 2 λ_=>g
theorem afC:Good QO:=⟨ec _,(λr h=>nomatch h),ec _,(λr h=>nomatch h),ec _,(λr h=>nomatch h),(λk u h=>nomatch h),qE⟩
def gO:List gs:=[("begin",0,1),("recipe",0,1),("use",1,1),("back",0,0),("stock",0,0),("plan",0,0),("show",1,0),("exchange",1,0),("told",0,0),("net",0,0),("reach",0,1),("follow",0,1),("weigh",0,2),("need",1,0)]
theorem am7{p:Int}{n k:Nat}(h:lG p=U (n,k)):∃(m:Nat)(x:gs),p=(m:Int)/\gO[m]? =U x/\x.2=(n,k):=by
 unfold lG at h;by_cases dz:p=0
 ·rw[art dz]at h;cases h;exact⟨0,_,dz,I,I⟩
 rw[ars dz]at h;by_cases cq:p=1
 ·rw[art cq]at h;cases h;exact⟨1,_,cq,I,I⟩
 rw[ars cq]at h;by_cases cF:p=2
 ·rw[art cF]at h;cases h;exact⟨2,_,cF,I,I⟩
 rw[ars cF]at h;by_cases eV:p=3
 ·rw[art eV]at h;cases h;exact⟨3,_,eV,I,I⟩
 rw[ars eV]at h;by_cases iI:p=4
 ·rw[art iI]at h;cases h;exact⟨4,_,iI,I,I⟩
 rw[ars iI]at h;by_cases JE:p=5
 ·rw[art JE]at h;cases h;exact⟨5,_,JE,I,I⟩
 rw[ars JE]at h;by_cases JF:p=6
 ·rw[art JF]at h;cases h;exact⟨6,_,JF,I,I⟩
 rw[ars JF]at h;by_cases JG:p=7
 ·rw[art JG]at h;cases h;exact⟨7,_,JG,I,I⟩
 rw[ars JG]at h;by_cases x8:p=8
 ·rw[art x8]at h;cases h;exact⟨8,_,x8,I,I⟩
 rw[ars x8]at h;by_cases JH:p=9
 ·rw[art JH]at h;cases h;exact⟨9,_,JH,I,I⟩
 rw[ars JH]at h;by_cases JA:p=10
 ·rw[art JA]at h;cases h;exact⟨10,_,JA,I,I⟩
 rw[ars JA]at h;by_cases JB:p=11
 ·rw[art JB]at h;cases h;exact⟨11,_,JB,I,I⟩
 rw[ars JB]at h;by_cases JC:p=12
 ·rw[art JC]at h;cases h;exact⟨12,_,JC,I,I⟩
 rw[ars JC]at h;by_cases JD:p=13
 ·rw[art JD]at h;cases h;exact⟨13,_,JD,I,I⟩
 rw[ars JD]at h;cases h
theorem ado{l:List Int}{c:List (List Int)}{t:List Int}(h:Dk lG l=U (c,t)):asy λ(m:Nat)(x:gs)(r:List Int)(xs:List (List Int))=>l=(m:Int)::r/\gO[m]? =U x/\x.2.1<=r.length/\t_ x.2.2 (r.drop x.2.1)=U (xs,t)/\c=((m:Int)::r.take x.2.1)::xs:=by
 cases l with
 |nil=>cases h
 |cons p r=>
  unfold Dk at h;dsimp only at h;cases q:lG p with
  |none=>rw[q]at h;cases h
  |some ajV=>
   obtain⟨n,k⟩:=ajV;rw[q]at h;dsimp only at h;obtain⟨m,x,rfl,ao,e⟩:=am7 q;have aS:x.2.1=n:=by rw[e]
   have aQ:x.2.2=k:=by rw[e]
   subst aS;subst aQ;by_cases cq:r.length<x.2.1
   ·rw[art cq]at h;cases h
   ·rw[ars cq]at h;cases bc:t_ x.2.2 (r.drop x.2.1)with
    |none=>rw[bc]at h;cases h
    |some y=>obtain⟨xs,t'⟩:=y;rw[bc]at h;have h:=qI (bS h);obtain⟨ag,ai⟩:=h;subst ai;exact⟨m,x,r,xs,I,ao,aG,bc,ag.symm⟩
theorem amw{j:Nat}{l:List Int}{xs:List (List Int)}{t:List Int}(h:t_ (j+1) l=U (xs,t)):∃(m:Nat)(r:List Int)(rO:List (List Int)),l=(m:Int)::r/\m<=r.length/\xs=r.take m::rO/\t_ j (r.drop m)=U (rO,t):=by
 unfold t_ at h;cases l with
 |nil=>cases h
 |cons z r=>
  unfold PyFlat.row at h;dsimp only at h;by_cases c:0<=z/\z.toNat<=r.length
  ·rw[art c]at h;dsimp only at h;cases q:t_ j (r.drop z.toNat)with
   |none=>rw[q]at h;cases h
   |some y=>obtain⟨rO,t'⟩:=y;rw[q]at h;obtain⟨ag,ai⟩:=qI (bS h);subst ai;exact⟨z.toNat,r,rO,by rw[Int.toNat_of_nonneg c.1],c.2,ag.symm,q⟩
  ·rw[ars c]at h;cases h
theorem drop_cons{α:Type}{l r:List α}{i:Nat}{x:α}(h:l.drop i=x::r):l[i]? =U x/\l.drop (i+1)=r/\i<l.length:=by
 have av:i<l.length:=by
  by_cases c:i<l.length
  ·exact c
  ·rw[Dc aG]at h;cases h
 rw[kK av]at h;obtain⟨ag,ai⟩:=fN h;exact⟨by rw[gB av,ag],ai,av⟩
def jl(k e n r:V):List (Str×V):=bY "rows" r (bY "numbers" n (bY "end" e (bY "kind" k [])))
theorem b4(k e n r:V):(jl k e n r).lookup ("kind":Str)=U k:=by unfold jl;rw[el,ars aD,el,ars aD,el,ars aD,el,art I]
theorem Ec(k e n r:V):(jl k e n r).lookup ("end":Str)=U e:=by unfold jl;rw[el,ars aD,el,ars aD,el,art I]
theorem Ed(k e n r:V):(jl k e n r).lookup ("numbers":Str)=U n:=by unfold jl;rw[el,ars aD,el,art I]
theorem q5(k e n r:V):(jl k e n r).lookup ("rows":Str)=U r:=by unfold jl;rw[el,art I]
theorem adf(k e n r x:V):bY "end" x (jl k e n r)=jl k x n r:=by
 unfold jl;have ag:¬("kind":Str)="end":=aD;have ai:¬("kind":Str)="numbers":=aD;have aN:¬("kind":Str)="rows":=aD;have bD:¬("end":Str)="numbers":=aD;have cw:¬("end":Str)="rows":=aD;have e_:¬("numbers":Str)="rows":=aD;have cZ:∀k e n r:V,bY "rows" r (bY "numbers" n (bY "end" e (bY "kind" k [])))=[(("kind":Str),k),(("end":Str),e),(("numbers":Str),n),(("rows":Str),r)]:=λk e n r=>by simp only[bY,ag,ai,aN,bD,cw,e_,if_false]
 rw[cZ,cZ];simp only[bY,ag,if_false,if_true]
theorem ade(k e n r:V):(jl k e n r).length<1000:=by unfold jl;have h0:=gX "rows" r (bY "numbers" n (bY "end" e (bY "kind" k [])));have ag:=gX "numbers" n (bY "end" e (bY "kind" k []));have ai:=gX "end" e (bY "kind" k []);have aN:=gX "kind" k [];rw[j4]at aN;omega
inductive Ij(A:cu)(c8 H:ax)(o:Addr)(k:Str)(e:Nat)(nums:List Int)(rows:List (List Int)):Prop
 |mk (aq fL rw:Addr) (rs:List Addr) (h0:H o=U (.ins A.gc aq (jl (.str k) (aM e) (.ref fL) (.ref rw)))) (ag:H fL=U (.lst (nums.map V.int))) (ai:H rw=U (.lst (rs.map V.ref))) (aN:Paired (λp xs=>H p=U (.lst (xs.map V.int))/\p≠rw/\c8 p=af) rs rows) (bD:c8 fL=af) (cw:c8 rw=af)
theorem aI.but{K:PySem.W.Frag}{H ae:ax}{o c C aq:Addr}{bk:List (Str×V)}{xs:List V}(h:aI K H c xs)(aA:H o=U (.ins C aq bk))(b:ff o H ae):aI K ae c xs:=by
 rcases h with h|h
 ·left;rcases h with h|⟨ob,h⟩
  ·exact .inl (b _ _ (cH h aA df) h)
  ·exact .inr ⟨ob,b _ _ (cH h aA df) h⟩
 ·exact .inr h
section
variable{P:b6}{w:bX}{K:PySem.W.Frag}{ap:Str->Option ar}{base:Heap}{A:cu}
theorem Txt.anJ(T:Txt K ap A):∃u,ap "CALLS"=U u/\RelV (.ref A.tV) u:=⟨_,T.tV,I⟩
theorem RQ(cs:List Int){a b:Nat}(ag:a<=b)(ai:b<=cs.length):iJ (cs.map V.int) (U ((a:Nat):Int)) (U ((b:Nat):Int))=((cs.drop a).take (b-a)).map V.int:=by unfold iJ;rw[cG.oo,cG.oo,aU,mU (show a<=cs.length by omega),mU ai,<-Ht,<-Ai]
inductive Yf(K:PySem.W.Frag)(A:cu)(vs:List V)(H:ax)(Q:c9)(asq:lM):Prop
 |mk (o c aq:Addr) (k:Nat) (cs:List Int) (cl:List (List Int)) (t:List Int) (h0:vs=[.ref o,.ref c,aM k]) (ag:H o=U (.ins A.gc aq [])) (ai:aI K H c (cs.map V.int)) (aN:cs.length<=17000) (bD:Dk lG (cs.drop k)=U (cl,t)) (cw:∀(ae:ax)(m e:Nat)(x:gs)(nums:List Int)(rows:List (List Int)),ff o H ae->cl=((m:Int)::nums)::rows->gO[m]? =U x->nums.length=x.2.1->rows.length=x.2.2->cs.drop e=t->k<e->e<=cs.length->Ij A H ae o x.1 e nums rows->Q .bZ ae)
theorem akq(T:Txt K ap A)(Ii:A_ K A.tV gO=ah):a0 P w K ap base a8 1 A.uQ A.x_ ["self","calls","at"] (Yf K A):=by
 refine T.QS.F.ok OF (λvs H Q E h=>?_) (λb9 cV outer s H vs Q E aL h=>?_)
 ·obtain⟨_,_,_,_,_,_,_,rfl,_⟩:=h;rfl
 ·obtain⟨o,c,aq,k,cs,cl,t,rfl,aA,aF,au,ez,iu⟩:=h;refine⟨_,a3 (cQ (i:=3) OF.ba I (bA I) (aly (c3 I T.anJ) (eo gi (aj 1) (aj 2) (λ_ _=>I)) (λ_ _=>I) Ii)) (a3 (hn (aj 0) (eo o9 (aj 3) dt (λ_ _=>I)) I) (a3 (hn (aj 0) (fj pd (fj pd (aj 2) dt) (eo o9 (aj 3) dt (λ_ _=>I))) I) (a3 (hn (aj 0) (pf tM (aj 1) (ly (fj pd (aj 2) dt)) (ly (bH (aj 0) I))) I) (a3 (hn (aj 0) (du aJ) I) (bb (qr gD (cJ tx (c4 eJ I T.dG PySem.boot_len (aB (bH (aj 0) I) aJ)) (eo o9 (aj 3) dt (λ_ _=>I)) (cY _)) (a3 (cQ (i:=4) OF.ba I (bA I) (fj pd (bH (aj 0) I) dt)) (a3 (hn (aj 0) (fj pd (aj 4) (eo gi (aj 1) (bH (aj 0) I) (λ_ _=>I))) I) (bb (fE (iy PySem.F.plainAttrs_list PySem.F.slot_list_append PySem.F.type_list_append mI (bH (aj 0) I) (aB (pf tM (aj 1) (ly (aj 4)) (ly (bH (aj 0) I))) aJ)))))))))))),?_⟩;obtain⟨m,x,r,xs,gv,ao,aC,Lm,rfl⟩:=ado ez;obtain⟨h0,BV,aH⟩:=drop_cons gv;have km:(cs.map V.int)[k]? =U (V.int (m:Int)):=by rw[dI,h0];rfl
  have hK:r.length=cs.length-(k+1):=by rw[<-BV,j3]
  refine⟨_,I,_,I,c,_,_,_,I,I,aF,eI km,m,x,I,ao,λp aO=>?_⟩;refine⟨_,I,p,_,_,_,I,I,aO H,eI (j:=0) I,_,I,o,_,aq,_,I,aA,T.bI,T.b1,Ab,?_⟩;generalize nh:upd H o (.ins A.gc aq (bY "kind" (.str x.1) []))=H1;have kb:ff o H H1:=λy ob n e=>by rw[<-nh,aY n];exact e
  have l8:H1 o=U (.ins A.gc aq (bY "kind" (.str x.1) [])):=by rw[<-nh,aW]
  refine⟨_,I,_,_,I,I,_,I,p,_,_,_,I,I,aO H1,eI (j:=1) I,_,_,I,I,_,I,o,_,aq,_,I,l8,T.bI,T.ru,k7 (gX _ _ _) Aa,?_⟩;have aei:(V.int (((k:Nat):Int)+1+((x.2.1:Nat):Int)))=aM (k+1+x.2.1):=by show _=V.int ((k+1+x.2.1:Nat):Int);congr 1
  have UL:k+1+x.2.1<=cs.length:=aG;generalize jo:upd H1 o (.ins A.gc aq (bY "end" (.int (((k:Nat):Int)+1+((x.2.1:Nat):Int))) (bY "kind" (.str x.1) [])))=az;have sy:ff o H1 az:=λy ob n e=>by rw[<-jo,aY n];exact e
  have hM:az o=U (.ins A.gc aq (bY "end" (aM (k+1+x.2.1)) (bY "kind" (.str x.1) []))):=by rw[<-jo,aW,aei]
  have D5:ff o H az:=λy ob n e=>sy _ _ n (kb _ _ n e);have n5:=aI.but aF aA D5;refine⟨_,I,_,I,_,_,I,I,_,I,_,I,o,_,aq,_,_,I,hM,T.bI,T.ru,(by rw[el,art I]),_,I,c,_,I,n5,λfL qe=>?_⟩;have adD:iJ (cs.map V.int) (U (((k:Nat):Int)+1)) (U ((k+1+x.2.1:Nat):Int))=(r.take x.2.1).map V.int:=by have:=RQ cs (a:=k+1) (b:=k+1+x.2.1) aG UL;rw[show k+1+x.2.1-(k+1)=x.2.1 by omega,BV]at this;exact this
  rw[adD];have s3:aw az (upd az fL (.lst ((r.take x.2.1).map V.int))):=aw.new qe;have b0:(upd az fL (.lst ((r.take x.2.1).map V.int))) fL=U (.lst ((r.take x.2.1).map V.int)):=aW;generalize(upd az fL (.lst ((r.take x.2.1).map V.int)))=aZ at*;have l7:fL≠o:=bQ (bj hM qe);refine⟨_,I,o,_,aq,_,I,s3 _ _ hM,T.bI,T.wK,?_,?_⟩
  ·have a1:=gX "end" (aM (k+1+x.2.1)) (bY "kind" (.str x.1) []);have a2:=gX "kind" (.str x.1) [];rw[j4]at a2;omega
  generalize ik:upd aZ o (.ins A.gc aq (bY "numbers" (.ref fL) (bY "end" (aM (k+1+x.2.1)) (bY "kind" (.str x.1) []))))=bz;have kR:ff o aZ bz:=λy ob n e=>by rw[<-ik,aY n];exact e
  have qm:bz o=U (.ins A.gc aq (bY "numbers" (.ref fL) (bY "end" (aM (k+1+x.2.1)) (bY "kind" (.str x.1) [])))):=by rw[<-ik,aW]
  refine⟨ec _,λeX n8=>?_⟩;have s5:aw bz (upd bz eX (.lst [])):=aw.new n8;have gT:(upd bz eX (.lst [])) eX=U (.lst []):=aW;generalize(upd bz eX (.lst []))=cb at*;have zK:eX≠o:=bQ (bj qm n8);refine⟨_,I,o,_,aq,_,I,s5 _ _ qm,T.bI,T.oc,?_,?_⟩
  ·have A1:=gX "numbers" (.ref fL) (bY "end" (aM (k+1+x.2.1)) (bY "kind" (.str x.1) []));have a1:=gX "end" (aM (k+1+x.2.1)) (bY "kind" (.str x.1) []);have a2:=gX "kind" (.str x.1) [];rw[j4]at a2;omega
  have jn:bY "rows" (.ref eX) (bY "numbers" (.ref fL) (bY "end" (aM (k+1+x.2.1)) (bY "kind" (.str x.1) [])))=jl (.str x.1) (aM (k+1+x.2.1)) (.ref fL) (.ref eX):=rfl;generalize p6:upd cb o (.ins A.gc aq (bY "rows" (.ref eX) (bY "numbers" (.ref fL) (bY "end" (aM (k+1+x.2.1)) (bY "kind" (.str x.1) [])))))=dj;have Rf:ff o cb dj:=λy ob n e=>by rw[<-p6,aY n];exact e
  have aki:dj o=U (.ins A.gc aq (jl (.str x.1) (aM (k+1+x.2.1)) (.ref fL) (.ref eX))):=by rw[<-p6,aW];rfl
  have Rd:ff o aZ dj:=λy ob n e=>Rf _ _ n (s5 _ _ (kR _ _ n e));have ac1:ff o H dj:=λy ob n e=>Rd _ _ n (s3 _ _ (D5 _ _ n e));have aeb:dj fL=U (.lst ((r.take x.2.1).map V.int)):=Rd _ _ l7 b0;have aec:dj eX=U (.lst []):=Rf _ _ zK gT;have U9:H eX=af:=by
   cases q:H eX with
   |none=>rfl
   |some ob=>have:=kR _ _ zK (s3 _ _ (D5 _ _ zK q));rw[n8]at this;cases this
  have ag8:H fL=af:=by
   cases q:H fL with
   |none=>rfl
   |some ob=>have:=D5 _ _ l7 q;rw[qe]at this;cases this
  refine⟨λiw σ ae=>asA λ(v4:Option V)(e:Nat)(done rest:List (List Int))(rs:List Addr)=>σ=[U (.ref o),U (.ref c),U (aM k),U (.ref p),v4]/\ff o H ae/\ae o=U (.ins A.gc aq (jl (.str x.1) (aM e) (.ref fL) (.ref eX)))/\ae fL=U (.lst ((r.take x.2.1).map V.int))/\ae eX=U (.lst (rs.map V.ref))/\Paired (λp xs=>ae p=U (.lst (xs.map V.int))/\p≠eX/\H p=af) rs done/\xs=done++rest/\done.length+iw=x.2.2/\t_ iw (cs.drop e)=U (rest,t)/\k<e/\e<=cs.length/\done.length<=2,⟨x.2.2,af,k+1+x.2.1,[],xs,[],I,ac1,aki,aeb,aec,.nil,I,bl,?_,aG,UL,ec _⟩,?_⟩
  ·rw[<-BV]at Lm;rw[C']at Lm;exact Lm
  rintro iw σ d3 ⟨v4,e,done,rest,rs,rfl,vG,qn,lp,ph,zd,Lx,aqB,E9,agP,zg,hd2⟩;have Fg:x.2.2<=2:=by have key:gO.all (λx=>decide (x.2.2<=2))=ah:=aD;exact aru (jA.mp key x (eN ao))
  have U8:=Paired.length zd;refine⟨_,I,o,_,aq,_,_,I,qn,T.bI,T.oc,q5 _ _ _ _,eX,_,I,.inl (aI.of ph),_,I,p,_,_,_,I,I,aO d3,eI (j:=2) I,_,_,I,I,_,I,?_⟩;rw[aU,U8];refine d5 (λq=>?_) (λq=>?_)
  ·have dD:done.length<x.2.2:=by have:=aru q;omega
   obtain⟨iw,rfl⟩:∃m',iw=m'+1:=⟨iw-1,aG⟩;obtain⟨z,r',rO,ags,Ly,rfl,U6⟩:=amw E9;obtain⟨B6,wx,Fh⟩:=drop_cons ags;have aqO:r'.length=cs.length-(e+1):=by rw[<-wx,j3]
   have agn:(cs.map V.int)[e]? =U (V.int (z:Int)):=by rw[dI,B6];rfl
   have agf:=aI.but aF aA vG;refine⟨λcj ae=>asA λ(v4:Option V)(e:Nat)(done rest:List (List Int))(rs:List Addr)=>cj=[U (.ref o),U (.ref c),U (aM k),U (.ref p),v4]/\ff o H ae/\ae o=U (.ins A.gc aq (jl (.str x.1) (aM e) (.ref fL) (.ref eX)))/\ae fL=U (.lst ((r.take x.2.1).map V.int))/\ae eX=U (.lst (rs.map V.ref))/\Paired (λp xs=>ae p=U (.lst (xs.map V.int))/\p≠eX/\H p=af) rs done/\xs=done++rest/\done.length+iw=x.2.2/\t_ iw (cs.drop e)=U (rest,t)/\k<e/\e<=cs.length/\done.length<=2,λcj ae h=>⟨iw,t9 iw,h⟩,?_⟩;refine⟨_,I,o,_,aq,_,_,I,qn,T.bI,T.ru,Ec _ _ _ _,_,_,I,I,?_⟩;refine⟨_,I,_,I,_,I,o,_,aq,_,_,I,qn,T.bI,T.ru,Ec _ _ _ _,c,_,_,_,I,I,agf,eI agn,_,_,I,I,_,I,o,_,aq,_,I,qn,T.bI,T.ru,ade _ _ _ _,?_⟩;rw[adf];have aej:(V.int (((e:Nat):Int)+1+((z:Nat):Int)))=aM (e+1+z):=by show _=V.int ((e+1+z:Nat):Int);congr 1
   generalize Bw:upd d3 o (.ins A.gc aq (jl (.str x.1) (.int (((e:Nat):Int)+1+((z:Nat):Int))) (.ref fL) (.ref eX)))=gr;have pV:ff o d3 gr:=λy ob n e=>by rw[<-Bw,aY n];exact e
   have zL:gr o=U (.ins A.gc aq (jl (.str x.1) (aM (e+1+z)) (.ref fL) (.ref eX))):=by rw[<-Bw,aW,aej]
   have Jo:ff o H gr:=λy ob n e=>pV _ _ n (vG _ _ n e);have tF:gr eX=U (.lst (rs.map V.ref)):=pV _ _ zK ph;have KY:=aI.but aF aA Jo;refine⟨_,I,o,_,aq,_,_,I,zL,T.bI,T.oc,q5 _ _ _ _,.inl ⟨I,_,aI.of tF⟩,_,I,_,I,_,I,_,I,o,_,aq,_,_,I,zL,T.bI,T.ru,Ec _ _ _ _,_,I,c,_,I,KY,λmN E7=>?_⟩;have adE:iJ (cs.map V.int) (U (((e:Nat):Int)+1)) (U ((e+1+z:Nat):Int))=(r'.take z).map V.int:=by have:=RQ cs (a:=e+1) (b:=e+1+z) aG aG;rw[show e+1+z-(e+1)=z by omega,wx]at this;exact this
   rw[adE];have lB:aw gr (upd gr mN (.lst ((r'.take z).map V.int))):=aw.new E7;have Eo:(upd gr mN (.lst ((r'.take z).map V.int))) mN=U (.lst ((r'.take z).map V.int)):=aW;generalize(upd gr mN (.lst ((r'.take z).map V.int)))=g5 at*;have Wt:mN≠eX:=bQ (bj tF E7);have aj5:mN≠o:=bQ (bj zL E7);have iL:H mN=af:=by
    cases q:H mN with
    |none=>rfl
    |some ob=>have:=Jo _ _ aj5 q;rw[E7]at this;cases this
   refine⟨eX,_,_,I,I,lB _ _ tF,?_,?_⟩
   ·rw[aU,U8];exact jw aG
   have ajX:fL≠eX:=λz=>by rw[z]at b0;have:=kR _ _ zK b0;rw[n8]at this;cases this
   refine⟨_,e+1+z,done++[r'.take z],rO,rs++[mN],I,λy ob n eu=>?_,?_,?_,by rw[aW,eU];rfl,?_,by rw[Lx,j2];rfl,?_,?_,aG,aG,?_⟩
   ·rw[aY (bj eu U9)];exact lB _ _ (Jo _ _ n eu)
   ·rw[aY (bQ zK)];exact lB _ _ zL
   ·rw[aY ajX];exact lB _ _ (pV _ _ l7 lp)
   ·refine Paired.app (Paired.imp zd λy ob _ eu=>⟨?_,eu.2⟩) (.cons ⟨by rw[aY Wt];exact Eo,Wt,iL⟩ .nil);have akh:y≠o:=λz=>by rw[z,qn]at eu;cases eu.1
    rw[aY eu.2.1];exact lB _ _ (pV _ _ akh eu.1)
   ·rw[cA,j5];omega
   ·rw[<-wx,C']at U6;exact U6
   ·rw[cA,j5];omega
  ·have o5:done.length=x.2.2:=by have:¬((done.length:Int)<(x.2.2:Int)):=λz=>q (arq z);omega
   obtain rfl:iw=0:=aG;have E9:U ([],cs.drop e)=U (rest,t):=E9;obtain⟨ag,ai⟩:=qI (bS E9);subst ag;subst ai;rw[iP]at Lx;subst Lx;exact iu d3 m e x (r.take x.2.1) xs vG I ao (by rw[fo];omega) o5 I agP zg ⟨aq,fL,eX,rs,qn,lp,ph,zd,ag8,U9⟩
end
theorem cy{p:Prop}[Decidable p]{a b:Prop}(h:¬p)(k:b):if decide p=ah then a else b:=by rw[ars (by simpa using h)];exact k
theorem nx{p:Prop}[Decidable p]{a b:Prop}(h:p)(k:a):if decide p=ah then a else b:=by rw[art (by simpa using h)];exact k
theorem cz{a b:Str}(h:¬a=b):¬V.str a=V.str b:=λz=>h (V.str.inj z)
theorem C0{t:List Int}(h:t.all (λz=>xQ z 8)=ah):∃x:dT,xR t=U x/\jk x=t/\x.length=t.length:=by
 have ak:∀z∈t,(0:Int)<=z/\z<256:=λz a9=>by have:=jA.mp h z a9;unfold xQ at this;simp at this;exact this
 refine⟨t.map λb=>pH b.toNat,?_,?_,by rw[aU]⟩
 ·unfold xR;rw[art];unfold aph;rw[jA];intro z a9;have:=ak z a9;simp;omega
 ·unfold jk;rw[dn];conv=>rhs;rw[<-j6 t]
  refine jB λz a9=>?_;have:=ak z a9;show(((pH z.toNat).toNat:Nat):Int)=z;rw[UInt8.toNat_ofNat'];omega
section
variable{P:b6}{w:bX}{K:PySem.W.Frag}{ap:Str->Option ar}{base:Heap}{A:cu}
inductive Yl(A:cu)(vs:List V)(H:ax)(Q:c9)(asq:lM):Prop
 |mk (aR r u o:Addr) (s:State) (c8:ax) (m e:Nat) (x:gs) (nums:List Int) (rows:List (List Int)) (fV:H') (h0:vs=[.ref aR,.ref o]) (ag:dF A H aR r u s) (ai:Good s) (aN:dF A c8 aR r u s) (bD:Ij A c8 H o x.1 e nums rows) (cw:gO[m]? =U x) (e_:nums.length=x.2.1) (iW:rows.length=x.2.2) (sM:AM (((m:Int)::nums)::rows)=ah) (zb:xP (((m:Int)::nums)::rows)=U fV) (asr:jh A aR r u H Q s (eC s fV))
theorem akw(T:Txt K ap A)(B:ux K A.lh):a0 P w K ap base a8 10 A.sr A.yl ["workshop","call"] (Yl A):=by
 have acg:a0 P w K ap base a8 4 A.u1 A.yk ["workshop","codes"] (Yk A):=akv T;have cv:a0 P w K ap base a8 9 A.u9 A.yt ["workshop","codes"] (Ys A):=akD T;have dB:a0 P w K ap base a8 3 A.vb A.yx ["workshop","number","units"] (Yw A):=akH T;have fQ:a0 P w K ap base a8 1 A.u0 A.yj ["workshop"] (Yj A):=aku T;have h8:a0 P w K ap base a8 3 A.u' A.yv ["workshop"] (Yu A):=akF T;have oL:a0 P w K ap base a8 1 A.u6 A.yq ["workshop"] (Yq A):=akB T;have acm:a0 P w K ap base a8 2 A.u_ A.yu ["workshop","number"] (Yt A):=akE T;have acn:a0 P w K ap base a8 5 A.u2 A.ym ["workshop","k"] (Ym A):=akx T;have aco:a0 P w K ap base a8 5 A.va A.yw ["workshop"] (Yv A):=akG T B;have acp:a0 P w K ap base a8 4 A.u5 A.yp ["workshop"] (Yp A):=akA T;have ach:a0 P w K ap base a8 5 A.u7 A.yr ["workshop","codes"] (Yr A):=akC T;have aci:a0 P w K ap base a8 3 A.u3 A.yn ["workshop","course"] (Yn A):=aky T;have acj:a0 P w K ap base a8 4 A.vd A.yy ["workshop","codes","numbers"] (Yx A):=akI T;have ack:a0 P w K ap base a8 3 A.u4 A.yo ["workshop","number"] (Yo A):=akz T;refine T.Iz.F.ok amT (λvs H Q E h=>?_) (λb9 cV outer s H vs Q E aL h=>?_)
 ·obtain⟨_,_,_,_,_,_,_,_,_,_,_,_,rfl,_⟩:=h;rfl
 ·obtain⟨aR,r,u,o,st,c8,m,e,x,nums,rows,fV,rfl,bF,g,afZ,⟨aq,fL,eX,rs,aA,qe,n8,cX,_,_⟩,ao,ip,hK,dR,ez,ay⟩:=h;have hd:∀{n:Nat},n<=9->de n (cV.deeper (qK (dY "answer_call") (ct Gq) s.heap.objs.size A.sr b9)):=λh=>aL.mono h;refine⟨_,a3 (c5 (cJ gY (bH (aj 1) I) gL (cY _)) (bb (bE (c2 acg (hd a5) I T.aeU T.Iy.F.bJ T.Iy.b .nil bG (aB (aj 0) (aB (eo gi (bH (aj 1) I) dt (λ_ _=>I)) aJ))))) dd) (a3 (c5 (cJ gY (bH (aj 1) I) gL (cY _)) (bb (bE (c2 cv (hd a5) I T.ae2 T.IG.F.bJ T.IG.b .nil bG (aB (aj 0) (aB (eo gi (bH (aj 1) I) dt (λ_ _=>I)) aJ))))) dd) (a3 (c5 (cJ gY (bH (aj 1) I) gL (cY _)) (bb (bE (c2 dB (hd a5) I T.ae6 T.IK.F.bJ T.IK.b .nil bG (aB (aj 0) (aB (eo gi (bH (aj 1) I) dt (λ_ _=>I)) (aB (eo gi (bH (aj 1) I) dt (λ_ _=>I)) aJ)))))) dd) (a3 (c5 (cJ gY (bH (aj 1) I) gL (cY _)) (bb (bE (c2 fQ (hd a5) I T.aeT T.Iw.F.bJ T.Iw.b .nil bG (aB (aj 0) aJ)))) dd) (a3 (c5 (cJ gY (bH (aj 1) I) gL (cY _)) (bb (bE (c2 h8 (hd a5) I T.ae4 T.II.F.bJ T.II.b .nil bG (aB (aj 0) aJ)))) dd) (a3 (c5 (cJ gY (bH (aj 1) I) gL (cY _)) (bb (bE (c2 oL (hd a5) I T.ae0 T.IE.F.bJ T.IE.b .nil bG (aB (aj 0) aJ)))) dd) (a3 (c5 (cJ gY (bH (aj 1) I) gL (cY _)) (bb (bE (c2 acm (hd a5) I T.ae3 T.IH.F.bJ T.IH.b .nil bG (aB (aj 0) (aB (eo gi (bH (aj 1) I) dt (λ_ _=>I)) aJ))))) dd) (a3 (c5 (cJ gY (bH (aj 1) I) gL (cY _)) (bb (bE (c2 acn (hd a5) I T.aeW T.IA.F.bJ T.IA.b .nil bG (aB (aj 0) (aB (eo gi (bH (aj 1) I) dt (λ_ _=>I)) aJ))))) dd) (a3 (c5 (cJ gY (bH (aj 1) I) gL (cY _)) (bb (bE (c2 aco (hd a5) I T.ae5 T.IJ.F.bJ T.IJ.b .nil bG (aB (aj 0) aJ)))) dd) (a3 (c5 (cJ gY (bH (aj 1) I) gL (cY _)) (bb (bE (c2 acp (hd a5) I T.aeZ T.ID.F.bJ T.ID.b .nil bG (aB (aj 0) aJ)))) dd) (a3 (c5 (cJ gY (bH (aj 1) I) gL (cY _)) (bb (bE (c2 ach (hd a5) I T.ae1 T.IF.F.bJ T.IF.b .nil bG (aB (aj 0) (aB (eo gi (bH (aj 1) I) dt (λ_ _=>I)) aJ))))) dd) (a3 (c5 (cJ gY (bH (aj 1) I) gL (cY _)) (bb (bE (c2 aci (hd a5) I T.aeX T.IB.F.bJ T.IB.b .nil bG (aB (aj 0) (aB (eo gi (bH (aj 1) I) dt (λ_ _=>I)) aJ))))) dd) (a3 (c5 (cJ gY (bH (aj 1) I) gL (cY _)) (bb (bE (c2 acj (hd a5) I T.ae7 T.IL.F.bJ T.IL.b .nil bG (aB (aj 0) (aB (eo gi (bH (aj 1) I) dt (λ_ _=>I)) (aB (eo gi (bH (aj 1) I) dt (λ_ _=>I)) aJ)))))) dd) (bb (bE (c2 ack (hd a5) I T.aeY T.IC.F.bJ T.IC.b .nil bG (aB (aj 0) (aB (eo gi (bH (aj 1) I) dt (λ_ _=>I)) aJ))))))))))))))))),?_⟩;obtain⟨_,_,_,_,b5,dv,_,_,dm,_,_⟩:=id afZ;match m,ao,dR,ez with
  |0,ao,dR,ez=>
   obtain rfl:(("begin",0,1):gs)=x:=bS ao;obtain rfl:nums=[]:=kL ip;obtain⟨er,rfl⟩:∃er,rows=[er]:=rU.mp hK;obtain⟨dz,rfl,kV,_,zi⟩:∃dz,rs=[dz]/\H dz=U (.lst (er.map V.int))/\dz≠eX/\c8 dz=af:=by
    cases cX with
    |cons h t=>cases t;exact⟨_,I,h⟩
   have dR:(er.all (λz=>xQ z 8)&&decide (er.length<=4000))=ah:=dR;rw[e7]at dR;obtain⟨k5,aS,aQ,b0⟩:=C0 dR.1;have gv:=aru dR.2;have ez:(xR er).map ap8=U fV:=ez;rw[aS]at ez;obtain rfl:=bS ez;rw[<-aQ]at kV;exact⟨_,I,o,_,aq,_,_,I,aA,T.bI,T.b1,b4 _ _ _ _,I,_,I,nx I ⟨_,I,_,I,o,_,aq,_,_,I,aA,T.bI,T.oc,q5 _ _ _ _,eX,_,_,_,I,I,aI.of n8,eI (j:=0) I,aR,r,u,dz,st,k5,I,bF,g,kV,aG,ay⟩⟩
  |1,ao,dR,ez=>
   obtain rfl:(("recipe",0,1):gs)=x:=bS ao;obtain rfl:nums=[]:=kL ip;obtain⟨er,rfl⟩:∃er,rows=[er]:=rU.mp hK;obtain⟨dz,rfl,kV,_,zi⟩:∃dz,rs=[dz]/\H dz=U (.lst (er.map V.int))/\dz≠eX/\c8 dz=af:=by
    cases cX with
    |cons h t=>cases t;exact⟨_,I,h⟩
   have dR:(er.all (λz=>xQ z 8)&&decide (er.length<=4000))=ah:=dR;rw[e7]at dR;obtain⟨k5,aS,aQ,b0⟩:=C0 dR.1;have gv:=aru dR.2;have ez:(xR er).map aqf=U fV:=ez;rw[aS]at ez;obtain rfl:=bS ez;rw[<-aQ]at kV;exact⟨_,I,o,_,aq,_,_,I,aA,T.bI,T.b1,b4 _ _ _ _,I,_,I,cy (cz aD) ⟨_,I,o,_,aq,_,_,I,aA,T.bI,T.b1,b4 _ _ _ _,I,_,I,nx I ⟨_,I,_,I,o,_,aq,_,_,I,aA,T.bI,T.oc,q5 _ _ _ _,eX,_,_,_,I,I,aI.of n8,eI (j:=0) I,aR,r,u,dz,st,k5,I,bF,g,kV,aG,ay⟩⟩⟩
  |2,ao,dR,ez=>
   obtain rfl:(("use",1,1):gs)=x:=bS ao;obtain⟨jp,rfl⟩:∃jp,nums=[jp]:=rU.mp ip;obtain⟨er,rfl⟩:∃er,rows=[er]:=rU.mp hK;obtain⟨dz,rfl,kV,_,zi⟩:∃dz,rs=[dz]/\H dz=U (.lst (er.map V.int))/\dz≠eX/\c8 dz=af:=by
    cases cX with
    |cons h t=>cases t;exact⟨_,I,h⟩
   have dR:(Ig jp&&(er.all (λz=>Ig z)&&decide (er.length<=100)))=ah:=dR;rw[e7,e7]at dR;have gv:=aru dR.2.2;obtain rfl:aqj jp er=fV:=bS ez;exact⟨_,I,o,_,aq,_,_,I,aA,T.bI,T.b1,b4 _ _ _ _,I,_,I,cy (cz aD) ⟨_,I,o,_,aq,_,_,I,aA,T.bI,T.b1,b4 _ _ _ _,I,_,I,cy (cz aD) ⟨_,I,o,_,aq,_,_,I,aA,T.bI,T.b1,b4 _ _ _ _,I,_,I,nx I ⟨_,I,_,I,o,_,aq,_,_,I,aA,T.bI,T.wK,Ed _ _ _ _,fL,_,_,_,I,I,aI.of qe,eI (j:=0) I,_,I,o,_,aq,_,_,I,aA,T.bI,T.oc,q5 _ _ _ _,eX,_,_,_,I,I,aI.of n8,eI (j:=0) I,aR,r,u,dz,st,jp,er,I,bF,g,kV,gv,ay⟩⟩⟩⟩
  |3,ao,dR,ez=>obtain rfl:(("back",0,0):gs)=x:=bS ao;obtain rfl:nums=[]:=kL ip;obtain rfl:rows=[]:=kL hK;obtain rfl:ap7=fV:=bS ez;exact⟨_,I,o,_,aq,_,_,I,aA,T.bI,T.b1,b4 _ _ _ _,I,_,I,cy (cz aD) ⟨_,I,o,_,aq,_,_,I,aA,T.bI,T.b1,b4 _ _ _ _,I,_,I,cy (cz aD) ⟨_,I,o,_,aq,_,_,I,aA,T.bI,T.b1,b4 _ _ _ _,I,_,I,cy (cz aD) ⟨_,I,o,_,aq,_,_,I,aA,T.bI,T.b1,b4 _ _ _ _,I,_,I,nx I ⟨_,I,aR,r,u,st,I,bF,g,ay⟩⟩⟩⟩⟩
  |4,ao,dR,ez=>obtain rfl:(("stock",0,0):gs)=x:=bS ao;obtain rfl:nums=[]:=kL ip;obtain rfl:rows=[]:=kL hK;obtain rfl:aqh=fV:=bS ez;exact⟨_,I,o,_,aq,_,_,I,aA,T.bI,T.b1,b4 _ _ _ _,I,_,I,cy (cz aD) ⟨_,I,o,_,aq,_,_,I,aA,T.bI,T.b1,b4 _ _ _ _,I,_,I,cy (cz aD) ⟨_,I,o,_,aq,_,_,I,aA,T.bI,T.b1,b4 _ _ _ _,I,_,I,cy (cz aD) ⟨_,I,o,_,aq,_,_,I,aA,T.bI,T.b1,b4 _ _ _ _,I,_,I,cy (cz aD) ⟨_,I,o,_,aq,_,_,I,aA,T.bI,T.b1,b4 _ _ _ _,I,_,I,nx I ⟨_,I,aR,r,u,st,I,bF,g,ay⟩⟩⟩⟩⟩⟩
  |5,ao,dR,ez=>obtain rfl:(("plan",0,0):gs)=x:=bS ao;obtain rfl:nums=[]:=kL ip;obtain rfl:rows=[]:=kL hK;obtain rfl:aqd=fV:=bS ez;exact⟨_,I,o,_,aq,_,_,I,aA,T.bI,T.b1,b4 _ _ _ _,I,_,I,cy (cz aD) ⟨_,I,o,_,aq,_,_,I,aA,T.bI,T.b1,b4 _ _ _ _,I,_,I,cy (cz aD) ⟨_,I,o,_,aq,_,_,I,aA,T.bI,T.b1,b4 _ _ _ _,I,_,I,cy (cz aD) ⟨_,I,o,_,aq,_,_,I,aA,T.bI,T.b1,b4 _ _ _ _,I,_,I,cy (cz aD) ⟨_,I,o,_,aq,_,_,I,aA,T.bI,T.b1,b4 _ _ _ _,I,_,I,cy (cz aD) ⟨_,I,o,_,aq,_,_,I,aA,T.bI,T.b1,b4 _ _ _ _,I,_,I,nx I ⟨_,I,aR,r,u,st,I,bF,g,ay⟩⟩⟩⟩⟩⟩⟩
  |6,ao,dR,ez=>obtain rfl:(("show",1,0):gs)=x:=bS ao;obtain⟨jp,rfl⟩:∃jp,nums=[jp]:=rU.mp ip;obtain rfl:rows=[]:=kL hK;obtain rfl:aqg jp=fV:=bS ez;exact⟨_,I,o,_,aq,_,_,I,aA,T.bI,T.b1,b4 _ _ _ _,I,_,I,cy (cz aD) ⟨_,I,o,_,aq,_,_,I,aA,T.bI,T.b1,b4 _ _ _ _,I,_,I,cy (cz aD) ⟨_,I,o,_,aq,_,_,I,aA,T.bI,T.b1,b4 _ _ _ _,I,_,I,cy (cz aD) ⟨_,I,o,_,aq,_,_,I,aA,T.bI,T.b1,b4 _ _ _ _,I,_,I,cy (cz aD) ⟨_,I,o,_,aq,_,_,I,aA,T.bI,T.b1,b4 _ _ _ _,I,_,I,cy (cz aD) ⟨_,I,o,_,aq,_,_,I,aA,T.bI,T.b1,b4 _ _ _ _,I,_,I,cy (cz aD) ⟨_,I,o,_,aq,_,_,I,aA,T.bI,T.b1,b4 _ _ _ _,I,_,I,nx I ⟨_,I,_,I,o,_,aq,_,_,I,aA,T.bI,T.wK,Ed _ _ _ _,fL,_,_,_,I,I,aI.of qe,eI (j:=0) I,aR,r,u,st,jp,I,bF,g,ay⟩⟩⟩⟩⟩⟩⟩⟩
  |7,ao,dR,ez=>obtain rfl:(("exchange",1,0):gs)=x:=bS ao;obtain⟨jp,rfl⟩:∃jp,nums=[jp]:=rU.mp ip;obtain rfl:rows=[]:=kL hK;obtain rfl:ap9 jp=fV:=bS ez;exact⟨_,I,o,_,aq,_,_,I,aA,T.bI,T.b1,b4 _ _ _ _,I,_,I,cy (cz aD) ⟨_,I,o,_,aq,_,_,I,aA,T.bI,T.b1,b4 _ _ _ _,I,_,I,cy (cz aD) ⟨_,I,o,_,aq,_,_,I,aA,T.bI,T.b1,b4 _ _ _ _,I,_,I,cy (cz aD) ⟨_,I,o,_,aq,_,_,I,aA,T.bI,T.b1,b4 _ _ _ _,I,_,I,cy (cz aD) ⟨_,I,o,_,aq,_,_,I,aA,T.bI,T.b1,b4 _ _ _ _,I,_,I,cy (cz aD) ⟨_,I,o,_,aq,_,_,I,aA,T.bI,T.b1,b4 _ _ _ _,I,_,I,cy (cz aD) ⟨_,I,o,_,aq,_,_,I,aA,T.bI,T.b1,b4 _ _ _ _,I,_,I,cy (cz aD) ⟨_,I,o,_,aq,_,_,I,aA,T.bI,T.b1,b4 _ _ _ _,I,_,I,nx I ⟨_,I,_,I,o,_,aq,_,_,I,aA,T.bI,T.wK,Ed _ _ _ _,fL,_,_,_,I,I,aI.of qe,eI (j:=0) I,aR,r,u,st,jp,I,bF,g,ay⟩⟩⟩⟩⟩⟩⟩⟩⟩
  |8,ao,dR,ez=>obtain rfl:(("told",0,0):gs)=x:=bS ao;obtain rfl:nums=[]:=kL ip;obtain rfl:rows=[]:=kL hK;obtain rfl:aqi=fV:=bS ez;exact⟨_,I,o,_,aq,_,_,I,aA,T.bI,T.b1,b4 _ _ _ _,I,_,I,cy (cz aD) ⟨_,I,o,_,aq,_,_,I,aA,T.bI,T.b1,b4 _ _ _ _,I,_,I,cy (cz aD) ⟨_,I,o,_,aq,_,_,I,aA,T.bI,T.b1,b4 _ _ _ _,I,_,I,cy (cz aD) ⟨_,I,o,_,aq,_,_,I,aA,T.bI,T.b1,b4 _ _ _ _,I,_,I,cy (cz aD) ⟨_,I,o,_,aq,_,_,I,aA,T.bI,T.b1,b4 _ _ _ _,I,_,I,cy (cz aD) ⟨_,I,o,_,aq,_,_,I,aA,T.bI,T.b1,b4 _ _ _ _,I,_,I,cy (cz aD) ⟨_,I,o,_,aq,_,_,I,aA,T.bI,T.b1,b4 _ _ _ _,I,_,I,cy (cz aD) ⟨_,I,o,_,aq,_,_,I,aA,T.bI,T.b1,b4 _ _ _ _,I,_,I,cy (cz aD) ⟨_,I,o,_,aq,_,_,I,aA,T.bI,T.b1,b4 _ _ _ _,I,_,I,nx I ⟨_,I,aR,r,u,st,I,bF,g,ay⟩⟩⟩⟩⟩⟩⟩⟩⟩⟩
  |9,ao,dR,ez=>obtain rfl:(("net",0,0):gs)=x:=bS ao;obtain rfl:nums=[]:=kL ip;obtain rfl:rows=[]:=kL hK;obtain rfl:aqc=fV:=bS ez;exact⟨_,I,o,_,aq,_,_,I,aA,T.bI,T.b1,b4 _ _ _ _,I,_,I,cy (cz aD) ⟨_,I,o,_,aq,_,_,I,aA,T.bI,T.b1,b4 _ _ _ _,I,_,I,cy (cz aD) ⟨_,I,o,_,aq,_,_,I,aA,T.bI,T.b1,b4 _ _ _ _,I,_,I,cy (cz aD) ⟨_,I,o,_,aq,_,_,I,aA,T.bI,T.b1,b4 _ _ _ _,I,_,I,cy (cz aD) ⟨_,I,o,_,aq,_,_,I,aA,T.bI,T.b1,b4 _ _ _ _,I,_,I,cy (cz aD) ⟨_,I,o,_,aq,_,_,I,aA,T.bI,T.b1,b4 _ _ _ _,I,_,I,cy (cz aD) ⟨_,I,o,_,aq,_,_,I,aA,T.bI,T.b1,b4 _ _ _ _,I,_,I,cy (cz aD) ⟨_,I,o,_,aq,_,_,I,aA,T.bI,T.b1,b4 _ _ _ _,I,_,I,cy (cz aD) ⟨_,I,o,_,aq,_,_,I,aA,T.bI,T.b1,b4 _ _ _ _,I,_,I,cy (cz aD) ⟨_,I,o,_,aq,_,_,I,aA,T.bI,T.b1,b4 _ _ _ _,I,_,I,nx I ⟨_,I,aR,r,u,st,I,bF,g,ay⟩⟩⟩⟩⟩⟩⟩⟩⟩⟩⟩
  |10,ao,dR,ez=>
   obtain rfl:(("reach",0,1):gs)=x:=bS ao;obtain rfl:nums=[]:=kL ip;obtain⟨er,rfl⟩:∃er,rows=[er]:=rU.mp hK;obtain⟨dz,rfl,kV,_,zi⟩:∃dz,rs=[dz]/\H dz=U (.lst (er.map V.int))/\dz≠eX/\c8 dz=af:=by
    cases cX with
    |cons h t=>cases t;exact⟨_,I,h⟩
   have dR:(er.all (λz=>xQ z 8)&&decide (er.length<=4000))=ah:=dR;rw[e7]at dR;obtain⟨k5,aS,aQ,b0⟩:=C0 dR.1;have gv:=aru dR.2;have ez:(xR er).map aqe=U fV:=ez;rw[aS]at ez;obtain rfl:=bS ez;rw[<-aQ]at kV;exact⟨_,I,o,_,aq,_,_,I,aA,T.bI,T.b1,b4 _ _ _ _,I,_,I,cy (cz aD) ⟨_,I,o,_,aq,_,_,I,aA,T.bI,T.b1,b4 _ _ _ _,I,_,I,cy (cz aD) ⟨_,I,o,_,aq,_,_,I,aA,T.bI,T.b1,b4 _ _ _ _,I,_,I,cy (cz aD) ⟨_,I,o,_,aq,_,_,I,aA,T.bI,T.b1,b4 _ _ _ _,I,_,I,cy (cz aD) ⟨_,I,o,_,aq,_,_,I,aA,T.bI,T.b1,b4 _ _ _ _,I,_,I,cy (cz aD) ⟨_,I,o,_,aq,_,_,I,aA,T.bI,T.b1,b4 _ _ _ _,I,_,I,cy (cz aD) ⟨_,I,o,_,aq,_,_,I,aA,T.bI,T.b1,b4 _ _ _ _,I,_,I,cy (cz aD) ⟨_,I,o,_,aq,_,_,I,aA,T.bI,T.b1,b4 _ _ _ _,I,_,I,cy (cz aD) ⟨_,I,o,_,aq,_,_,I,aA,T.bI,T.b1,b4 _ _ _ _,I,_,I,cy (cz aD) ⟨_,I,o,_,aq,_,_,I,aA,T.bI,T.b1,b4 _ _ _ _,I,_,I,cy (cz aD) ⟨_,I,o,_,aq,_,_,I,aA,T.bI,T.b1,b4 _ _ _ _,I,_,I,nx I ⟨_,I,_,I,o,_,aq,_,_,I,aA,T.bI,T.oc,q5 _ _ _ _,eX,_,_,_,I,I,aI.of n8,eI (j:=0) I,aR,r,u,dz,st,k5,I,bF,g,kV,aG,ay⟩⟩⟩⟩⟩⟩⟩⟩⟩⟩⟩⟩
  |11,ao,dR,ez=>
   obtain rfl:(("follow",0,1):gs)=x:=bS ao;obtain rfl:nums=[]:=kL ip;obtain⟨er,rfl⟩:∃er,rows=[er]:=rU.mp hK;obtain⟨dz,rfl,kV,_,zi⟩:∃dz,rs=[dz]/\H dz=U (.lst (er.map V.int))/\dz≠eX/\c8 dz=af:=by
    cases cX with
    |cons h t=>cases t;exact⟨_,I,h⟩
   have dR:(er.all (λz=>Ig z)&&decide (er.length<=100))=ah:=dR;rw[e7]at dR;have gv:=aru dR.2;obtain rfl:aqa er=fV:=bS ez;exact⟨_,I,o,_,aq,_,_,I,aA,T.bI,T.b1,b4 _ _ _ _,I,_,I,cy (cz aD) ⟨_,I,o,_,aq,_,_,I,aA,T.bI,T.b1,b4 _ _ _ _,I,_,I,cy (cz aD) ⟨_,I,o,_,aq,_,_,I,aA,T.bI,T.b1,b4 _ _ _ _,I,_,I,cy (cz aD) ⟨_,I,o,_,aq,_,_,I,aA,T.bI,T.b1,b4 _ _ _ _,I,_,I,cy (cz aD) ⟨_,I,o,_,aq,_,_,I,aA,T.bI,T.b1,b4 _ _ _ _,I,_,I,cy (cz aD) ⟨_,I,o,_,aq,_,_,I,aA,T.bI,T.b1,b4 _ _ _ _,I,_,I,cy (cz aD) ⟨_,I,o,_,aq,_,_,I,aA,T.bI,T.b1,b4 _ _ _ _,I,_,I,cy (cz aD) ⟨_,I,o,_,aq,_,_,I,aA,T.bI,T.b1,b4 _ _ _ _,I,_,I,cy (cz aD) ⟨_,I,o,_,aq,_,_,I,aA,T.bI,T.b1,b4 _ _ _ _,I,_,I,cy (cz aD) ⟨_,I,o,_,aq,_,_,I,aA,T.bI,T.b1,b4 _ _ _ _,I,_,I,cy (cz aD) ⟨_,I,o,_,aq,_,_,I,aA,T.bI,T.b1,b4 _ _ _ _,I,_,I,cy (cz aD) ⟨_,I,o,_,aq,_,_,I,aA,T.bI,T.b1,b4 _ _ _ _,I,_,I,nx I ⟨_,I,_,I,o,_,aq,_,_,I,aA,T.bI,T.oc,q5 _ _ _ _,eX,_,_,_,I,I,aI.of n8,eI (j:=0) I,aR,r,u,dz,st,er,I,bF,g,kV,gv,bQ (bj dv zi),bQ (bj dm zi),ay⟩⟩⟩⟩⟩⟩⟩⟩⟩⟩⟩⟩⟩
  |12,ao,dR,ez=>
   obtain rfl:(("weigh",0,2):gs)=x:=bS ao;obtain rfl:nums=[]:=kL ip;obtain⟨er,bK,rfl⟩:∃er bK,rows=[er,bK]:=match rows,hK with|[a,b],_=>⟨a,b,I⟩
   obtain⟨dz,cq,rfl,kV,KX⟩:∃dz cq,rs=[dz,cq]/\H dz=U (.lst (er.map V.int))/\H cq=U (.lst (bK.map V.int)):=by
    cases cX with
    |cons h t=>
     cases t with
     |cons ai k4=>cases k4;exact⟨_,_,I,h.1,ai.1⟩
   have dR:((er.all (λz=>xQ z 8)&&decide (er.length<=4000))&&(bK.all (λz=>Ig z)&&decide (bK.length<=100)))=ah:=dR;rw[e7,e7,e7]at dR;obtain⟨k5,aS,aQ,b0⟩:=C0 dR.1.1;have gv:=aru dR.1.2;have ft:=aru dR.2.2;have ez:((xR er).map λx=>aqk x bK)=U fV:=ez;rw[aS]at ez;obtain rfl:=bS ez;rw[<-aQ]at kV;exact⟨_,I,o,_,aq,_,_,I,aA,T.bI,T.b1,b4 _ _ _ _,I,_,I,cy (cz aD) ⟨_,I,o,_,aq,_,_,I,aA,T.bI,T.b1,b4 _ _ _ _,I,_,I,cy (cz aD) ⟨_,I,o,_,aq,_,_,I,aA,T.bI,T.b1,b4 _ _ _ _,I,_,I,cy (cz aD) ⟨_,I,o,_,aq,_,_,I,aA,T.bI,T.b1,b4 _ _ _ _,I,_,I,cy (cz aD) ⟨_,I,o,_,aq,_,_,I,aA,T.bI,T.b1,b4 _ _ _ _,I,_,I,cy (cz aD) ⟨_,I,o,_,aq,_,_,I,aA,T.bI,T.b1,b4 _ _ _ _,I,_,I,cy (cz aD) ⟨_,I,o,_,aq,_,_,I,aA,T.bI,T.b1,b4 _ _ _ _,I,_,I,cy (cz aD) ⟨_,I,o,_,aq,_,_,I,aA,T.bI,T.b1,b4 _ _ _ _,I,_,I,cy (cz aD) ⟨_,I,o,_,aq,_,_,I,aA,T.bI,T.b1,b4 _ _ _ _,I,_,I,cy (cz aD) ⟨_,I,o,_,aq,_,_,I,aA,T.bI,T.b1,b4 _ _ _ _,I,_,I,cy (cz aD) ⟨_,I,o,_,aq,_,_,I,aA,T.bI,T.b1,b4 _ _ _ _,I,_,I,cy (cz aD) ⟨_,I,o,_,aq,_,_,I,aA,T.bI,T.b1,b4 _ _ _ _,I,_,I,cy (cz aD) ⟨_,I,o,_,aq,_,_,I,aA,T.bI,T.b1,b4 _ _ _ _,I,_,I,nx I ⟨_,I,_,I,o,_,aq,_,_,I,aA,T.bI,T.oc,q5 _ _ _ _,eX,_,_,_,I,I,aI.of n8,eI (j:=0) I,_,I,o,_,aq,_,_,I,aA,T.bI,T.oc,q5 _ _ _ _,eX,_,_,_,I,I,aI.of n8,eI (j:=1) I,aR,r,u,dz,cq,st,k5,bK,I,bF,g,kV,aG,KX,ft,ay⟩⟩⟩⟩⟩⟩⟩⟩⟩⟩⟩⟩⟩⟩
  |13,ao,dR,ez=>obtain rfl:(("need",1,0):gs)=x:=bS ao;obtain⟨jp,rfl⟩:∃jp,nums=[jp]:=rU.mp ip;obtain rfl:rows=[]:=kL hK;obtain rfl:aqb jp=fV:=bS ez;exact⟨_,I,o,_,aq,_,_,I,aA,T.bI,T.b1,b4 _ _ _ _,I,_,I,cy (cz aD) ⟨_,I,o,_,aq,_,_,I,aA,T.bI,T.b1,b4 _ _ _ _,I,_,I,cy (cz aD) ⟨_,I,o,_,aq,_,_,I,aA,T.bI,T.b1,b4 _ _ _ _,I,_,I,cy (cz aD) ⟨_,I,o,_,aq,_,_,I,aA,T.bI,T.b1,b4 _ _ _ _,I,_,I,cy (cz aD) ⟨_,I,o,_,aq,_,_,I,aA,T.bI,T.b1,b4 _ _ _ _,I,_,I,cy (cz aD) ⟨_,I,o,_,aq,_,_,I,aA,T.bI,T.b1,b4 _ _ _ _,I,_,I,cy (cz aD) ⟨_,I,o,_,aq,_,_,I,aA,T.bI,T.b1,b4 _ _ _ _,I,_,I,cy (cz aD) ⟨_,I,o,_,aq,_,_,I,aA,T.bI,T.b1,b4 _ _ _ _,I,_,I,cy (cz aD) ⟨_,I,o,_,aq,_,_,I,aA,T.bI,T.b1,b4 _ _ _ _,I,_,I,cy (cz aD) ⟨_,I,o,_,aq,_,_,I,aA,T.bI,T.b1,b4 _ _ _ _,I,_,I,cy (cz aD) ⟨_,I,o,_,aq,_,_,I,aA,T.bI,T.b1,b4 _ _ _ _,I,_,I,cy (cz aD) ⟨_,I,o,_,aq,_,_,I,aA,T.bI,T.b1,b4 _ _ _ _,I,_,I,cy (cz aD) ⟨_,I,o,_,aq,_,_,I,aA,T.bI,T.b1,b4 _ _ _ _,I,_,I,cy (cz aD) ⟨_,I,_,I,o,_,aq,_,_,I,aA,T.bI,T.wK,Ed _ _ _ _,fL,_,_,_,I,I,aI.of qe,eI (j:=0) I,aR,r,u,st,jp,I,bF,g,ay⟩⟩⟩⟩⟩⟩⟩⟩⟩⟩⟩⟩⟩⟩
  |n+14,ao,_,_=>exact aro ao (by have:gO[n+14]? =af:=qC.mpr (by show 14<=n+14;omega);rw[this];intro z;cases z)
end
end ck
namespace ck
open PySem PySem.Spec PyProof.Rows bL G
open Vanetm (State Use Recipe recipeAt given_ allNames stock nameOf firstUnit Reached)
theorem B8(l:List Nat):(hg l).length=l.length:=by unfold hg;rw[aU]
theorem Pq(t:dT):(jJ t).length=t.length+1:=by unfold jJ;rw[cW,aU]
theorem kz{b:Bool}{n:Nat}{x:xN}{m:Nat}(hm:1<=m)(h:b=ah->(ky x).length<=m):(ky (fl b n x)).length<=m:=by
 unfold fl;cases b with
 |true=>exact h I
 |false=>exact hm
theorem zM{α:Type}{o:Option α}{n:Nat}{f:α->xN}{m:Nat}(hm:1<=m)(h:∀a,o=U a->(ky (f a)).length<=m):(ky (oJ o n f)).length<=m:=by
 unfold oJ;cases o with
 |none=>exact hm
 |some a=>exact h a I
theorem ajQ{s:State}(g:Good s)(h:QN s=ah):(tq (jg s) (hh s)).length<=61500:=by
 rw[Yc,e7]at h;have ag:=aru h.1;have ai:=aru h.2;have bV:=VL g;rw[<-m6,<-LK bV];have eW:∀a c:List Nat,(bf.f6 [32,59,32] [a,[],c]).length=a.length+(3+(0+(3+c.length))):=λa c=>by show(a++([32,59,32]++([]++([32,59,32]++c)))).length=_;simp only[cA];rfl
 rw[eW];have dP:(bf.f6 [44,32] ((jg s).map λF=>codes (gQ F))).length<=60040:=by
  have a1:=B_ [44,32] ((jg s).map λF=>codes (gQ F));have a2:=z6 (f:=λl:List Nat=>l.length+([44,32]:List Nat).length) (m:=3002) (l:=(jg s).map λF=>codes (gQ F)) λx ao=>by obtain⟨F,hm,rfl⟩:=fq.mp ao;have ag:=RK g F hm;have ai:=TZ ag.1;show _+2<=3002;omega
  rw[aU]at a2;omega
 have eE:(bf.f6 [32] (ht (hh s))).length<=960:=by
  have a1:=B_ [32] (ht (hh s));have hi:(ht (hh s)).length<=120:=by unfold ht;rw[aU];have:=tZ (l2 (hh s)) (cf (hh s).length);rw[e8]at this;omega
  have a2:=z6 (f:=λl:List Nat=>l.length+([32]:List Nat).length) (m:=8) (l:=ht (hh s)) λx ao=>by
   unfold ht at ao;obtain⟨i,av,rfl⟩:=fq.mp ao;have av:=j8.mp av;have h1:=gC.mp av.1;have aC:(hh s)[i]? =U ((hh s)[i]):=gB h1;have BI:(hh s)[i]∉(hh s).take i:=by have:=av.2;unfold l2 at this;rw[v_ aC]at this;simpa using this
   obtain⟨dP,wk,aS⟩:=bV.later aC BI;have K_:=(ej.mp aS).1;have:=VR (i:=i) (j:=kP (hh s) i) aG (by rw[(bV.other wk aC aS).1];omega);show _+1<=8;omega
  omega
 omega
theorem XD{s:State}:∀(f:Nat)(seen last all:List Reached),(∀x∈seen,x.course.length+f<=6)->(∀x∈last,x∈seen)->qM s f seen last=U all->∀x∈all,x.course.length<=6
 |0,seen,last,all,h,_,e,x,ao=>by have:U seen=U all:=e;cases this;have:=h x ao;omega
 |f+1,seen,last,all,h,au,e,x,ao=>by
  unfold qM at e;dsimp only at e;split at e
  ·cases e
  ·refine XD f _ _ all (λy a_=>?_) (λy a_=>pB _ a_) e x ao;rcases gn.mp a_ with a_|a_
   ·have:=h y a_;omega
   ·obtain⟨z,a9,Sn⟩:=T6 a_;have:=h z (au z a9);omega
theorem acN{s:State}(g:Good s):∀c:H',(ky (eC s c)).length<=61900
 | .begin t=>zM aG λl _=>kz aG λ_=>by show 1<=_;omega
 | .recipe t=>zM aG λr _=>kz aG λ_=>kz aG λ_=>by show 1<=_;omega
 | .use r l=>kz aG λ_=>kz aG λ_=>kz aG λ_=>kz aG λ_=>by show 2<=_;omega
 | .back=>kz aG λ_=>by show 1<=_;omega
 | .stock=>by
  show(hg ((cE s).length::(cE s).flatMap λn=>n::jJ (dh s n))).length<=_;rw[B8,cW];have a1:=lT (f:=λn=>n::jJ (dh s n)) (m:=14) (l:=cE s) λm hm=>by have:=(wM (g.GH hm)).1;rw[cW,Pq];omega
  have:=rH g;omega
 | .plan=>by
  show(hg (s.uses.length::s.uses.flatMap λu=>u.recipe::lH u.units)).length<=_;rw[B8,cW];have a1:=lT (f:=λu:Use=>u.recipe::lH u.units) (m:=8) (l:=s.uses) λy a_=>by have:=(g.gP y a_).2.2;show(lH y.units).length+1<=8;unfold lH;rw[cW];omega
  have:=g.use;omega
 | .show r=>kz aG λh=>by obtain⟨n,rfl,aC⟩:=vI h;show(hg (jJ (qN (dw s ((n:Nat):Int).toNat)))).length<=_;rw[B8,Pq,show((n:Nat):Int).toNat=n by omega];have fW:=g.recAt aC;have Me:=xa (dw s n).takes fW.fw;have Fw:=xa (dw s n).gives fW.p4;have g1:=fW.oq;have g2:=fW.oV;unfold qN;rw[cA,cA];show _+(4+_)+1<=_;omega
 | .exchange k=>kz aG λ_=>kz aG λ_=>by show 1<=_;omega
 | .told=>by show 1<=_;omega
 | .net=>kz aG λh=>by show(hg (jJ (tq (jg s) (hh s)))).length<=_;rw[B8,Pq];have:=ajQ g h;omega
 | .reach t=>zM aG λl _=>kz aG λ_=>zM aG λall jV=>by
  split
  ·rename_i x ao;show(hg (1::lH x.course)).length<=_;rw[B8];unfold lH;rw[cW,cW];have:=XD 6 [{names:=jH s.first,course:=[]}] [{names:=jH s.first,course:=[]}] all (λy a_=>by rw[gp.mp a_];exact bR _) (λy a_=>a_) jV x (PT ao);omega
  ·show 2<=_;omega
 | .follow l=>kz aG λ_=>kz aG λ_=>zM aG λt _=>by show 1<=_;omega
 | .weigh t l=>zM aG λns _=>kz aG λ_=>kz aG λ_=>by show 2<=_;omega
 | .need r=>kz aG λ_=>by show 1<=_;omega
theorem adq{f:Nat}{p:Int}{r:List Int}{cs:List (List (List Int))}(h:qJ lG f (p::r)=U cs):asy λ(f':Nat)(c:List (List Int))(t:List Int)(nY:List (List (List Int)))=>Dk lG (p::r)=U (c,t)/\qJ lG f' t=U nY/\cs=c::nY:=by
 cases f with
 |zero=>cases h
 |succ f=>
  unfold qJ at h;cases q:Dk lG (p::r)with
  |none=>rw[q]at h;cases h
  |some dC=>
   obtain⟨c,t⟩:=dC;rw[q]at h;dsimp only at h;cases bc:qJ lG f t with
   |none=>rw[bc]at h;cases h
   |some nY=>rw[bc]at h;exact⟨f,c,t,nY,I,bc,(bS h).symm⟩
theorem aiQ{α:Type}{l:List α}(h:l.length=1):∃a,l=[a]:=rU.mp h
theorem asw{α:Type}{l:List α}(h:l.length=2):∃a b,l=[a,b]:=match l,h with
 |[a,b],_=>⟨a,b,I⟩
theorem ass:∀{k:Nat}{l:List Int}{xs:List (List Int)}{t:List Int},t_ k l=U (xs,t)->xs.length=k
 |0,l,xs,t,h=>by unfold t_ at h;cases h;rfl
 |k+1,l,xs,t,h=>by obtain⟨m,r,rO,_,_,rfl,q⟩:=amw h;rw[cW,ass q]
theorem asu{l:List Int}{c:List (List Int)}{t:List Int}(h:Dk lG l=U (c,t)):H7 c=c/\(AM c=ah->∃k,xP c=U k):=by
 have k5:∀{t:List Int}{b:Bool},(t.all (λz=>xQ z 8)&&b)=ah->∃x,xR t=U x:=λh=>by rw[e7]at h;obtain⟨x,e,_⟩:=C0 h.1;exact⟨x,e⟩
 have asx:∀{t:List Int}{b c:Bool},((t.all (λz=>xQ z 8)&&b)&&c)=ah->∃x,xR t=U x:=λh=>k5 (Z8.mp h).1;obtain⟨m,x,r,xs,rfl,ao,aL,Lm,rfl⟩:=ado h;have au:=ass Lm;have aC:(r.take x.2.1).length=x.2.1:=by rw[fo];omega
 generalize r.take x.2.1=ns at aC;have hm:m<14:=(ej.mp ao).1;clear h Lm aL;obtain rfl|rfl|rfl|rfl|rfl|rfl|rfl|rfl|rfl|rfl|rfl|rfl|rfl|rfl:m=0\/m=1\/m=2\/m=3\/m=4\/m=5\/m=6\/m=7\/m=8\/m=9\/m=10\/m=11\/m=12\/m=13:=aG;all_goals(have e:=bS ao;subst e;(first|(obtain rfl:=kL aC)|(obtain⟨n,rfl⟩:=aiQ aC));(first|(obtain rfl:=kL au)|(obtain⟨y,rfl⟩:=aiQ au)|(obtain⟨y,z,rfl⟩:=asw au));refine⟨I,λh=>?_⟩;first|exact⟨_,I⟩|exact(k5 h).elim λx e=>⟨_,(congrArg (Option.map _) e).trans I⟩|exact(asx h).elim λx e=>⟨_,(congrArg (Option.map λx=>aqk x z) e).trans I⟩)
theorem asv{cs:List (List (List Int))}:∀{f:Nat}{l:List Int},qJ lG f l=U cs->cs.map H7=cs:=by
 induction cs with
 |nil=>intro f l h;rfl
 |cons c cs ih=>
  intro f l h;cases l with
  |nil=>cases f<;>cases h
  |cons p r=>obtain⟨f',cp,t,nY,ag,ai,e⟩:=adq h;obtain⟨rfl,rfl⟩:=fN e;rw[dO,(asu ag).1,ih ai]
theorem RB(l:List Int):ab1 l=qJ lG l.length l:=by
 unfold ab1;cases q:qJ lG l.length l with
 |none=>rfl
 |some cs=>show U (cs.map H7)=U cs;rw[asv q]
theorem anv{s:State}{c:List (List Int)}{k:H'}(h:xP c=U k):r5 s c=(pe s (eC s k),ky (eC s k)):=by
 unfold r5;rw[h];dsimp only;unfold Vanetm.step;cases eC s k with
 |ok x=>rfl
 |error n=>rfl
end ck
namespace ck
open PySem PySem.Spec PyProof.Rows bL G
open Vanetm (State Use Recipe recipeAt given_ allNames stock nameOf firstUnit)
section
variable{P:b6}{w:bX}{K:PySem.W.Frag}{ap:Str->Option ar}{base:Heap}{A:cu}
theorem dF.aof{H ae:ax}{aR r u d:Addr}{s:State}{cO:Obj}{v:dE}(h:dF A H aR r u s)(hd:H d=U (.dV cO v))(k:∀c ob,c≠d->H c=U ob->ae c=U ob):dF A ae aR r u s:=by obtain⟨lQ,b,cI,bx,ag,ai,aN,bD,cw,e_,iW⟩:=h;have iv:∀c l,H c=U (.lst l)->ae c=U (.lst l):=λc l e=>k c _ (cH e hd df) e;have Mb:∀c C aq bk,H c=U (.ins C aq bk)->ae c=U (.ins C aq bk):=λc C aq bk e=>k c _ (cH e hd df) e;exact⟨lQ,b,cI,bx,Mb _ _ _ _ ag,iv _ _ ai,Paired.imp aN λp bu _⟨jm,bt,ga,a1,a2,hi⟩=>⟨jm,bt,ga,Mb _ _ _ _ a1,iv _ _ a2,iv _ _ hi⟩,iv _ _ bD,iv _ _ cw,Paired.imp e_ λp us _⟨jm,eY,a1,a2⟩=>⟨jm,eY,Mb _ _ _ _ a1,iv _ _ a2⟩,iW⟩
inductive O0(K:PySem.W.Frag)(vs:List V)(H:ax)(Q:c9)(asq:lM):Prop
 |mk (c:Addr) (l:List Int) (h0:vs=[.ref c]) (ag:aI K H c (l.map V.int)) (ai:l.length<=17000) (aN:ab0 l=ah) (bD:∀(ae:ax)(p:Addr),ae p=U (.lst ((DF l).map V.int))->Q (.ref p) ae)
theorem akJ(T:Txt K ap A)(B:ux K A.lh)(Ii:A_ K A.tV gO=ah):a0 P w K ap base a8 11 A.su A.yz ["calls"] (O0 K):=by
 have acs:a0 P w K ap base a8 1 A.uZ A.yi ["self"] (Yi A):=akt T;have acr:a0 P w K ap base a8 1 A.uQ A.x_ ["self","calls","at"] (Yf K A):=akq T Ii;have acq:a0 P w K ap base a8 10 A.sr A.yl ["workshop","call"] (Yl A):=akw T B;refine T.acf.F.ok w_ (λvs H Q E h=>?_) (λb9 cV outer s H vs Q E aL h=>?_)
 ·obtain⟨_,_,rfl,_⟩:=h;rfl
 ·obtain⟨c,l,rfl,aF,au,dR,k⟩:=h;have gK:de 2 _:=aL.mono a5;refine⟨_,a3 (cQ (i:=1) w_.ba I (bA I) (W0 T.ajo acs gK I T.Kr T.Q1.b .nil bG)) (a3 (cQ (i:=2) w_.ba I (bA I) (du aJ)) (a3 (cQ (i:=3) w_.ba I (bA I) dt) (a3 (qr gD (cJ tx (aj 3) (c4 eJ I T.dG PySem.boot_len (aB (aj 0) aJ)) (cY _)) (a3 (cQ (i:=4) w_.ba I (bA I) (wY T.ajl acr gK I T.Ko T.QS.b .nil bG (aB (aj 0) (aB (aj 3) aJ)))) (a3 (M3 (cQ (i:=5) w_.ba I (bA I) (c2 acq aL I T.aeV T.Iz.F.bJ T.Iz.b .nil bG (aB (aj 1) (aB (aj 4) aJ))))) (a3 (fE (iy PySem.F.plainAttrs_list PySem.F.slot_list_append PySem.F.type_list_append mI (aj 2) (aB (c4 eJ I T.dG PySem.boot_len (aB (aj 5) aJ)) aJ))) (a3 (fE (iy PySem.F.plainAttrs_list PySem.F.slot_list_extend PySem.F.type_list_extend zC (aj 2) (aB (aj 5) aJ))) (bb (cQ (i:=3) w_.ba I (bA I) (bH (aj 4) I)))))))) (bb (bE (aj 2)))))),?_⟩;obtain⟨all,jV,afI,aqt⟩:∃all,qJ lG l.length l=U all/\all.all AM=ah/\all.length<=240:=by
   unfold ab0 at dR;rw[RB]at dR;cases q:qJ lG l.length l with
   |none=>rw[q]at dR;cases dR
   |some all=>rw[q]at dR;dsimp only at dR;rw[e7]at dR;have ai:=dR.2;unfold aql at ai;rw[e7]at ai;exact⟨all,I,ai.1,aru dR.1⟩
  have af8:DF l=Dm (Dl r5 aqm all):=by unfold DF;rw[RB,jV]
  intro aR J2 nw ajP new_;refine⟨aR,J2,I,aW,λH1 r u co dW ahO KL=>⟨I,?_⟩⟩;have s0:aw H (upd (upd H J2 (.own aR)) aR (.ins A.e1 J2 [])):=λy ob e=>by rw[aY (bj e nw),aY (bj e ajP)];exact e
  have s1:aw H H1:=λy ob e=>co y ob (s0 _ _ e) (bj e nw);have BV:H r=af:=s0.free dW;have ahN:H u=af:=s0.free ahO;refine⟨ec _,λa6 l0=>?_⟩;have s2:aw H1 (upd H1 a6 (.lst [])):=aw.new l0;have aQ:(upd H1 a6 (.lst [])) a6=U (.lst []):=aW;generalize(upd H1 a6 (.lst []))=az at*;have B0:H a6=af:=s1.free l0;refine⟨λiw σ ae=>asE λ(v4 ho:Option V)(n f:Nat)(rest:List (List (List Int)))(u:Addr)(s:State)(iT:List Int)(qV:ax)=>σ=[U (.ref c),U (.ref aR),U (.ref a6),U (aM n),v4,ho]/\aw H ae/\dF A qV aR r u s/\qV a6=af/\aw qV ae/\H u=af/\Good s/\ae a6=U (.lst (iT.map V.int))/\rest.length=iw/\n<=l.length/\qJ lG f (l.drop n)=U rest/\rest.all AM=ah/\DF l=iT++Dm (Dl r5 s rest)/\iT.length+62000*rest.length<=240*62000,⟨all.length,af,af,0,l.length,all,u,QO,[],H1,I,s1.trans s2,KL,l0,s2,ahN,afC,aQ,I,ec _,by rw[rR];exact jV,afI,by rw[af8];rfl,by rw[j4];omega⟩,?_⟩;rintro iw σ aZ ⟨v4,ho,n,f,rest,G8,st,iT,qV,rfl,s3,KN,lZ,Pc,Vd,g3,b0,hK,ip,zf,EI,Uv,agS⟩;have Uy:=s3.seq aF;refine⟨_,I,_,I,c,_,I,.inl Uy,_,_,I,I,_,I,?_⟩;rw[aU];refine d5 (λq=>?_) (λq=>?_)
  ·have dD:n<l.length:=by have:=aru q;omega
   have ET:l.drop n=l[n]::l.drop (n+1):=kK dD;rw[ET]at zf;obtain⟨f',cl,t,w6,ez,agh,rfl⟩:=adq zf;rw[<-ET]at ez;obtain⟨iw,rfl⟩:∃m',iw=m'+1:=⟨w6.length,by rw[<-hK];rfl⟩;have ahA:w6.length=iw:=by have:w6.length+1=iw+1:=hK;omega
   rw[nK,e7]at EI;obtain⟨fV,UK⟩:=(asu ez).2 EI.1;have ahh:=anv (s:=st) UK;refine⟨λcj ae=>asE λ(v4 ho:Option V)(n f:Nat)(rest:List (List (List Int)))(u:Addr)(s:State)(iT:List Int)(qV:ax)=>cj=[U (.ref c),U (.ref aR),U (.ref a6),U (aM n),v4,ho]/\aw H ae/\dF A qV aR r u s/\qV a6=af/\aw qV ae/\H u=af/\Good s/\ae a6=U (.lst (iT.map V.int))/\rest.length=iw/\n<=l.length/\qJ lG f (l.drop n)=U rest/\rest.all AM=ah/\DF l=iT++Dm (Dl r5 s rest)/\iT.length+62000*rest.length<=240*62000,λcj ae h=>⟨iw,t9 iw,h⟩,?_⟩;refine⟨_,I,_,I,?_⟩;intro o mo no ajN aq6;generalize ik:upd (upd aZ mo (.own o)) o (.ins A.gc mo [])=bz;have s4:aw aZ bz:=λy ob e=>by rw[<-ik,aY (bj e no),aY (bj e ajN)];exact e
   have qm:bz o=U (.ins A.gc mo []):=by rw[<-ik,aW]
   refine⟨o,c,mo,n,l,cl,t,I,qm,s4.seq Uy,au,ez,λcb m e x nums rows A5 lW ao qe ahB ahL fu zg afJ=>⟨I,?_⟩⟩;subst lW;have hO:aw aZ cb:=λy ob e=>A5 _ _ (bj e no) (s4 _ _ e);have gT:=hO _ _ b0;refine⟨a6,_,gT,trivial,λcO=>?_⟩;generalize p6:upd cb a6 (.dV cO (.lst (iT.map V.int)))=dj;have Bl:dj a6=U (.dV cO (.lst (iT.map V.int))):=by rw[<-p6,aW]
   have i2:∀y ob,y≠a6->cb y=U ob->dj y=U ob:=λy ob n e=>by rw[<-p6,aY n];exact e
   have ant:aw qV dj:=λy ob e=>i2 _ _ (bj e lZ) (hO _ _ (Pc _ _ e));have Ut:=KN.grow ant;have sP:dF A bz aR r G8 st:=KN.grow (Pc.trans s4);have XQ:aw H dj:=λy ob e=>i2 _ _ (bj e B0) (hO _ _ (s3 _ _ e));have Uh:Ij A bz dj o x.1 e nums rows:=by obtain⟨aq,fL,eX,rs,a1,a2,hi,qY,oO,pN⟩:=afJ;have J6:=s4 _ _ b0;refine⟨aq,fL,eX,rs,i2 _ _ (cH a1 gT df) a1,i2 _ _ (bQ (bj J6 oO)) a2,i2 _ _ (bQ (bj J6 pN)) hi,Paired.imp qY λp xs _ h=>⟨i2 _ _ (bQ (bj J6 h.2.2)) h.1,h.2⟩,oO,pN⟩
   refine⟨_,I,_,I,aR,r,G8,o,st,bz,m,e,x,nums,rows,fV,I,Ut,g3,sP,Uh,ao,qe,ahB,EI.1,UK,λd3 p ZK vG af1 Ls ahk kf=>?_⟩;obtain⟨_,_,_,_,b5,dv,_,_,dm,_,_⟩:=id Ut;have akd:a6≠aR:=bQ (cH b5 Bl df);have aka:a6≠r:=bQ (cH dv Bl df);have akb:a6≠G8:=bQ (cH dm Bl df);have Sp:=vG _ _ Bl akd aka akb;refine⟨Sp,?_⟩;generalize Bw:upd d3 a6 (.lst (iT.map V.int))=gr;have Fp:∀y ob,y≠a6->d3 y=U ob->gr y=U ob:=λy ob n e=>by rw[<-Bw,aY n];exact e
   have R_:gr a6=U (.lst (iT.map V.int)):=by rw[<-Bw,aW]
   have Ws:p≠a6:=bQ (bj Bl ahk);have WW:=Fp _ _ Ws kf;have wd:=acN g3 fV;have aqH:iT.length+62000*(w6.length+1)<=240*62000:=agS;refine⟨_,I,.inl ⟨I,_,aI.of R_⟩,_,I,p,_,I,.inl (aI.of WW),a6,_,_,I,I,R_,?_,?_⟩
   ·rw[aU];exact k7 (show _<=240*62000 by omega) a5
   rw[aU];generalize Uo:upd gr a6 (.lst (iT.map V.int++[V.int (((ky (eC st fV)).length:Nat):Int)]))=g5;have qh:∀y ob,y≠a6->gr y=U ob->g5 y=U ob:=λy ob n e=>by rw[<-Uo,aY n];exact e
   have Eo:g5 a6=U (.lst (iT.map V.int++[V.int (((ky (eC st fV)).length:Nat):Int)])):=by rw[<-Uo,aW]
   have MU:=qh _ _ Ws WW;refine⟨_,I,.inl ⟨I,_,aI.of Eo⟩,_,I,a6,p,_,_,I,I,Eo,MU,?_,?_⟩
   ·rw[cA,aU,aU,j5];exact b3 (show _<=240*62000 by omega) a5
   generalize Ul:upd g5 a6 (.lst (iT.map V.int++[V.int (((ky (eC st fV)).length:Nat):Int)]++(ky (eC st fV)).map V.int))=qU;have B':∀y ob,y≠a6->d3 y=U ob->qU y=U ob:=λy ob n e=>by rw[<-Ul,aY n];exact qh _ _ n (Fp _ _ n e)
   have J3:qU a6=U (.lst ((iT++((ky (eC st fV)).length:Int)::ky (eC st fV)).map V.int)):=by rw[<-Ul,aW];simp
   obtain⟨aq,fL,eX,rs,a1,_,_,_,_,_⟩:=Uh;obtain⟨_,_,_,_,x1,x2,_,_,md,_,_⟩:=KN.grow Pc;have x4:=vG _ _ a1 (bQ (bj x1 no)) (bQ (bj x2 no)) (bQ (bj md no));have aj2:o≠a6:=bQ (bj b0 no);refine⟨_,I,o,_,aq,_,_,I,B' _ _ aj2 x4,T.bI,T.ru,Ec _ _ _ _,?_⟩;have kw:dF A (λy=>if y=a6 then af else d3 y) aR r ZK (pe st (eC st fV)):=af1.aof Sp λy ob n e=>by show(if y=a6 then af else d3 y)=U ob;rw[ars n];exact e
   have dp:∀y ob,H y=U ob->d3 y=U ob:=λy ob e=>vG _ _ (XQ _ _ e) (bj e nw) (bj e BV) (bj e Vd);refine⟨_,_,e,f',w6,ZK,pe st (eC st fV),iT++((ky (eC st fV)).length:Int)::ky (eC st fV),λy=>if y=a6 then af else d3 y,I,λy ob eu=>B' _ _ (bj eu B0) (dp _ _ eu),kw,art I,λy ob eu=>?_,?_,afA g3 fV,J3,ahA,zg,by rw[ahL];exact agh,EI.2,?_,?_⟩
   ·have eu:(if y=a6 then af else d3 y)=U ob:=eu;by_cases n:y=a6
    ·rw[art n]at eu;cases eu
    ·rw[ars n]at eu;exact B' _ _ n eu
   ·rcases Ls with rfl|Ls
    ·exact Vd
    ·exact XQ.free Ls
   ·rw[Uv];show iT++Dm ((r5 st _).2::Dl r5 (r5 st _).1 w6)=_;rw[ahh];show iT++((((ky (eC st fV)).length:Int)::ky (eC st fV))++Dm (Dl r5 (pe st (eC st fV)) w6))=_;rw[j2]
   ·rw[cA,cW];omega
  ·have o5:l.length<=n:=by have:¬(((n:Nat):Int)<((l.length:Nat):Int)):=λz=>q (arq z);omega
   rw[Dc o5]at zf;have zf:U []=U rest:=by cases f<;>exact zf
   obtain rfl:=bS zf;refine⟨_,I,k aZ a6 ?_⟩;rw[b0,Uv];show _=U (dE.lst ((iT++[]).map V.int));rw[iP]
end
end ck
namespace ck
open PySem PySem.Spec PyProof.Rows bL
section
variable(K:PySem.W.Frag)
inductive gf(x:Str):Prop
 |mk (a:PySem.W.nsIn K k9 x=U af)
inductive eg(x:Str)(n:Int):Prop
 |mk {t:Tok} (a:PySem.W.nsIn K k9 x=U (U (.int n t)))
inductive jj(x y:Str):Prop
 |mk {t:Tok} (a:PySem.W.nsIn K k9 x=U (U (.str y t)))
inductive lg(x:Str)(c:Addr):Prop
 |mk (a:PySem.W.nsIn K k9 x=U (U (.ref c)))
inductive bh(x:Str)(st:Stmt)(f:Addr):jd->Prop
 |mk {l9:ar} {cO an:Option Addr} {hP:Array (Option ar)} {cc gS pm cd dC:ar} (a:PySem.W.nsIn K k9 x=U (U (.ref f))) (l:K.lookup f=U ⟨l9,cO,.func (PySem.W.fnOf x x (mn st) (lP st) (ct st) .none cc gS pm an cd dC),hP⟩) (c:PySem.W.codeIn K cd x=ah) (k:PySem.W.keepIn K (.ref f)=ah):bh x st f (PySem.W.fnOf x x (mn st) (lP st) (ct st) .none cc gS pm an cd dC)
inductive cM(C:Addr)(x kE:Str)(st:Stmt)(f:Addr):jd->Prop
 |mk {l9:ar} {cO an:Option Addr} {hP:Array (Option ar)} {cc gS pm cd dC:ar} (a:PySem.W.findIn K (.ref C) x=U (U (.ref f))) (i:PySem.W.isFn K (.ref f)=ah) (l:K.lookup f=U ⟨l9,cO,.func (PySem.W.fnOf x kE (mn st) (lP st) (ct st) .none cc gS pm an cd dC),hP⟩) (c:PySem.W.codeIn K cd kE=ah) (k:PySem.W.keepIn K (.ref f)=ah):cM C x kE st f (PySem.W.fnOf x kE (mn st) (lP st) (ct st) .none cc gS pm an cd dC)
inductive iF(C:Addr):Prop
 |mk (a:PySem.W.plainGet K C Qh=ah) (b:PySem.W.hasDictIn K C=ah) (c:PySem.W.plainOver K C=ah) (d:PySem.W.findIn K (.ref C) "__setattr__"=U (U (.builtin "object.__setattr__"))) (e:PySem.W.makesIn K C=ah) (f:PySem.W.keepIn K (.ref C)=ah)
inductive fz(C:Addr)(f:Str):Prop
 |mk (a:PySem.W.findIn K (.ref C) f=U af)
end
section
variable{K:PySem.W.Frag}{h:Heap}{ap:Str->Option ar}{x kE y:Str}{st:Stmt}{f C:Addr}{n:Int}{fd:jd}
section
variable(X:K.In h)(G:h.Ns k9 ap)
include X G
theorem gf.g:gf K x->ap x=af
 |⟨a⟩=>PySem.W.mg_none_of X G a
theorem eg.g:eg K x n->∃u,ap x=U u/\RelV (.int n) u
 |⟨a⟩=>⟨_,PySem.W.mg_of X G a,_,I⟩
theorem jj.g:jj K x y->∃u,ap x=U u/\RelV (.str y) u
 |⟨a⟩=>⟨_,PySem.W.mg_of X G a,_,I⟩
theorem lg.g:lg K x C->ap x=U (.ref C)
 |⟨a⟩=>PySem.W.mg_of X G a
theorem bh.g:bh K x st f fd->ap x=U (.ref f)
 |⟨a,_,_,_⟩=>PySem.W.mg_of X G a
end
theorem bh.F:bh K x st f fd->r9 K x x st f fd
 |⟨_,l,c,k⟩=>T3 l c k
theorem cM.F:cM K C x kE st f fd->r9 K x kE st f fd
 |⟨_,_,l,c,k⟩=>T3 l c k
theorem cM.m:cM K C x kE st f fd->hF K C x f
 |⟨a,i,_,_,k⟩=>⟨a,i,k⟩
theorem iF.c:iF K C->j_ K C
 |⟨a,b,c,d,_,_⟩=>⟨a,b,c,d⟩
theorem iF.m:iF K C->cM K C "__init__" kE st f fd->pM K C f
 |⟨_,_,_,_,e,k⟩,⟨a,i,_,_,_⟩=>⟨e,a,i,k⟩
theorem fz.no:fz K C x->hV K C x
 |⟨a⟩=>a
theorem bh.fs{k0:Str}(z:bh K x st f fd)(e:∀(cc gS pm:ar)(an:Option Addr)(cd dC:ar)(g0:ar),ue (PySem.W.fnOf x x (mn st) (lP st) (ct st) .none cc gS pm an cd dC) ⟨[g0],[]⟩=pure (([k0]:List Str).zip [g0]):=by exactλ_ _ _ _ _ _ _=>I):cK K x x st [k0] f fd:=⟨z.F,z.F.binds λcc gS pm an cd dC us au=>match us,au with|[g0],_=>e cc gS pm an cd dC g0⟩
theorem cM.fs{k0:Str}(z:cM K C x kE st f fd)(e:∀(cc gS pm:ar)(an:Option Addr)(cd dC:ar)(g0:ar),ue (PySem.W.fnOf x kE (mn st) (lP st) (ct st) .none cc gS pm an cd dC) ⟨[g0],[]⟩=pure (([k0]:List Str).zip [g0]):=by exactλ_ _ _ _ _ _ _=>I):cK K x kE st [k0] f fd:=⟨z.F,z.F.binds λcc gS pm an cd dC us au=>match us,au with|[g0],_=>e cc gS pm an cd dC g0⟩
theorem bh.fH{k0 dK:Str}(z:bh K x st f fd)(e:∀(cc gS pm:ar)(an:Option Addr)(cd dC:ar)(g0 iA:ar),ue (PySem.W.fnOf x x (mn st) (lP st) (ct st) .none cc gS pm an cd dC) ⟨[g0,iA],[]⟩=pure (([k0,dK]:List Str).zip [g0,iA]):=by exactλ_ _ _ _ _ _ _ _=>I):cK K x x st [k0,dK] f fd:=⟨z.F,z.F.binds λcc gS pm an cd dC us au=>match us,au with|[g0,iA],_=>e cc gS pm an cd dC g0 iA⟩
theorem cM.fH{k0 dK:Str}(z:cM K C x kE st f fd)(e:∀(cc gS pm:ar)(an:Option Addr)(cd dC:ar)(g0 iA:ar),ue (PySem.W.fnOf x kE (mn st) (lP st) (ct st) .none cc gS pm an cd dC) ⟨[g0,iA],[]⟩=pure (([k0,dK]:List Str).zip [g0,iA]):=by exactλ_ _ _ _ _ _ _ _=>I):cK K x kE st [k0,dK] f fd:=⟨z.F,z.F.binds λcc gS pm an cd dC us au=>match us,au with|[g0,iA],_=>e cc gS pm an cd dC g0 iA⟩
theorem bh.r8{k0 dK dc:Str}(z:bh K x st f fd)(e:∀(cc gS pm:ar)(an:Option Addr)(cd dC:ar)(g0 iA iB:ar),ue (PySem.W.fnOf x x (mn st) (lP st) (ct st) .none cc gS pm an cd dC) ⟨[g0,iA,iB],[]⟩=pure (([k0,dK,dc]:List Str).zip [g0,iA,iB]):=by exactλ_ _ _ _ _ _ _ _ _=>I):cK K x x st [k0,dK,dc] f fd:=⟨z.F,z.F.binds λcc gS pm an cd dC us au=>match us,au with|[g0,iA,iB],_=>e cc gS pm an cd dC g0 iA iB⟩
theorem cM.r8{k0 dK dc:Str}(z:cM K C x kE st f fd)(e:∀(cc gS pm:ar)(an:Option Addr)(cd dC:ar)(g0 iA iB:ar),ue (PySem.W.fnOf x kE (mn st) (lP st) (ct st) .none cc gS pm an cd dC) ⟨[g0,iA,iB],[]⟩=pure (([k0,dK,dc]:List Str).zip [g0,iA,iB]):=by exactλ_ _ _ _ _ _ _ _ _=>I):cK K x kE st [k0,dK,dc] f fd:=⟨z.F,z.F.binds λcc gS pm an cd dC us au=>match us,au with|[g0,iA,iB],_=>e cc gS pm an cd dC g0 iA iB⟩
theorem all_mk{P:b6}{w:bX}{fa:Addr}(X:K.In h)(G:h.Ns k9 ap)(nk:ap "answers"=U (.ref fa)){TF Tc To Tn Tt Tf Te Tg TC Tv Tj TA TG TH SE SF SG SI SH SD SA Sy Sz Sx SJ Tw Td Tp Tr Ts Tu SM SP SR SN SQ SO Ss Sv Su Kc Sr Sw S9 Th TJ Ta S' Tb Ti SK TB Tx Tz TL S_ SU S3 TK S7 SS S5 S1 S4 SW S6 S0 S2 Tq SX S8 SY Sq SV Kd c7 fg e1 et gE gc Pz:Addr}{q' sE vY q_ sF q9 q8 yF yU yO yI yS yV yW yd pY vW yf ye yc vV vT vU yb yg yP yE yJ yL yM yN sA yi vX sC m7 q7 vP vQ ya vR vO vS yA yG yX sD yC yD yH yh yT yQ yR vZ yB yk yt yY yx yj yv yq yu ym yw yp yr yK yn yy yo x_ yl yz:jd}(dG:gf K "len")(vH:gf K "range")(x7:gf K "enumerate")(D_:gf K "zip")(D6:gf K "min")(D9:gf K "sum")(Js:gf K "sorted")(Jr:gf K "reversed")(lN:gf K "list")(Jt:gf K "tuple")(Jq:gf K "dict")(D8:gf K "set")(D7:gf K "ord")(Jp:gf K "any")(q4:gf K "all")(Cc:jj K "LETTERS" "abcdefghijklmnopqrstuvwxyz")(Fq:jj K "DIGITS" "0123456789")(L5:jj K "SIGNS" " ~*|()-")(L9:jj K "UNKNOWN" "?")(LQ:eg K "LONGEST_NAME" (12))(L6:jj K "TENSOR" "*")(L3:jj K "PAR" "|")(L8:jj K "TURN" "~")(LM:jj K "ARROW" "-o")(LN:jj K "BLANK" " ")(LR:eg K "LONGEST_TEXT" (2000))(LZ:eg K "MOST_PENDING" (100))(LP:eg K "LONGEST_COURSE" (6))(LU:eg K "MOST_BAGS" (300))(LX:eg K "MOST_IN_BAG" (20))(zv:eg K "NO_SUCH_TEXT" (-1))(tf:eg K "NO_SUCH_NUMBER" (-2))(L':eg K "WRONG_UNITS" (-3))(L2:eg K "NOT_INDEPENDENT" (-3))(LO:eg K "CANNOT_BE_DONE" (-3))(L_:eg K "WRONG_NAMES" (-4))(tg:eg K "TOO_MANY" (-5))(L4:eg K "RECIPES_FULL" (-6))(L7:eg K "TOO_MUCH_REACHED" (-7))(L1:eg K "NOTHING_TO_TAKE_BACK" (-8))(LV:eg K "MOST_BEGINNING" (10))(Fs:eg K "MOST_NAMES" (6))(L0:eg K "MOST_RECIPES" (12))(Ft:eg K "MOST_USES" (10))(LW:eg K "MOST_CONCLUSIONS" (20))(LY:eg K "MOST_LEAVES" (120))(LS:eg K "MOST_ASKED_FOR" (10))(Kp:lg K "Reader" c7)(Br:lg K "Use" fg)(Kr:lg K "Workshop" e1)(Ez:lg K "Order" et)(Kq:lg K "Recipe" gE)(Ko:lg K "Call" gc)(tV:lg K "CALLS" Pz)(pS:bh K "text_of" Oz TF q')(q2:bh K "codes_of" N8 Tc sE)(sv:bh K "is_name_sign" Og To vY)(pR:bh K "is_name" Oe Tn q_)(q3:bh K "names_of" Om Tt sF)(pQ:bh K "dual_node" N' Tf q9)(pP:bh K "dual" N_ Te q8)(vj:bh K "end_of_formula" Oa Tg yF)(vz:bh K "tensor_of" Oy TC yU)(vt:bh K "put_in_brackets" Oq Tv yO)(vm:bh K "formula_form" Od Tj yI)(vx:bh K "stretch_at" Ow TA yS)(vA:bh K "token_at" OA TG yV)(vB:bh K "tokens_of" OB TH yW)(uU:cM K c7 "__init__" "Reader.__init__" NB SE yd)(oP:cM K c7 "last_sign" "Reader.last_sign" NC SF pY)(sm:cM K c7 "put" "Reader.put" ND SG vW)(uW:cM K c7 "take" "Reader.take" NF SI yf)(uV:cM K c7 "start_part" "Reader.start_part" NE SH ye)(uT:cM K c7 "go_on" "Reader.go_on" NA SD yc)(sl:cM K c7 "end_part" "Reader.end_part" Nz SA vV)(sj:cM K c7 "end_chain" "Reader.end_chain" Nx Sy vT)(sk:cM K c7 "end_formula" "Reader.end_formula" Ny Sz vU)(uS:cM K c7 "end_bracket" "Reader.end_bracket" Nw Sx yb)(uX:cM K c7 "whole" "Reader.whole" NG SJ yg)(vu:bh K "read_formula" Ot Tw yP)(vi:bh K "conclusions_of" N9 Td yE)(vn:bh K "leaf_units" Oh Tp yJ)(vp:bh K "link_form" Oj Tr yL)(vq:bh K "link_forms" Ol Ts yM)(vr:bh K "net_form" Oo Tu yN)(qZ:cM K fg "__init__" "Use.__init__" NI SM sA)(uZ:cM K e1 "__init__" "Workshop.__init__" NL SP yi)(sq:cM K e1 "unit_names" "Workshop.unit_names" NN SR vX)(q0:cM K e1 "given_units" "Workshop.given_units" NJ SN sC)(mj:cM K e1 "stock" "Workshop.stock" NM SQ m7)(pO:cM K e1 "has_recipe" "Workshop.has_recipe" NK SO q7)(sg:cM K et "__init__" "Order.__init__" Nq Ss vP)(sh:cM K et "let_in" "Order.let_in" Nt Sv vQ)(uR:cM K et "is_ready" "Order.is_ready" Nr Su ya)(lh:cM K et "new_units" "Order.new_units" Nu Kc vR)(sf:cM K et "add" "Order.add" Np Sr vO)(si:cM K et "new_uses" "Order.new_uses" Nv Sw vS)(ve:bh K "are_independent" N3 S9 yA)(vk:bh K "exchanged_order" Ob Th yG)(vC:bh K "told_order" OC TJ yX)(q1:bh K "bag_of" N6 Ta sD)(vg:bh K "bag_behind" N5 S' yC)(vh:bh K "bags_behind" N7 Tb yD)(vl:bh K "first_courses" Oc Ti yH)(uY:cM K gE "__init__" "Recipe.__init__" NH SK yh)(vy:bh K "tensor_names" Ox TB yT)(vv:bh K "read_recipe" Ou Tx yQ)(vw:bh K "recipe_form" Ov Tz yR)(sx:bh K "weight_of" OE TL vZ)(vf:bh K "are_kept" N4 S_ yB)(u1:bh K "answer_begin" NP SU yk)(u9:bh K "answer_recipe" NW S3 yt)(vD:bh K "units_fit" OD TK yY)(vb:bh K "answer_use" N0 S7 yx)(u0:bh K "answer_back" NO SS yj)(u':bh K "answer_stock" NY S5 yv)(u6:bh K "answer_plan" NU S1 yq)(u_:bh K "answer_show" NX S4 yu)(u2:bh K "answer_exchange" NQ SW ym)(va:bh K "answer_told" NZ S6 yw)(u5:bh K "answer_net" NT S0 yp)(u7:bh K "answer_reach" NV S2 yr)(vo:bh K "least_units" Oi Tq yK)(u3:bh K "answer_follow" NR SX yn)(vd:bh K "answer_weigh" N1 S8 yy)(u4:bh K "answer_need" NS SY yo)(uQ:cM K gc "__init__" "Call.__init__" Nn Sq x_)(sr:bh K "answer_call" Gq SV yl)(su:bh K "answers" N2 Kd yz)(Xm:iF K c7)(od:fz K c7 "pending")(l6:fz K c7 "part")(Xo:iF K fg)(tp:fz K fg "recipe_number")(qj:fz K fg "units")(Xp:iF K e1)(lq:fz K e1 "recipes")(qk:fz K e1 "beginning")(ha:fz K e1 "uses")(Xl:iF K et)(zE:fz K et "old_uses")(FI:fz K et "old_units")(zF:fz K et "places")(wL:fz K et "new_numbers")(Xn:iF K gE)(oe:fz K gE "takes")(pb:fz K gE "gives")(Xk:iF K gc)(b1:fz K gc "kind")(ru:fz K gc "end")(wK:fz K gc "numbers")(oc:fz K gc "rows")(b:ux K Kc)(adt:A_ K Pz gO=ah):∃fd:jd,(∀(s:aT)(us:List ar),us.length=(["calls"]:List Str).length->Ao s fd ⟨us,[]⟩ ((["calls"]:List Str).zip us))/\∀base:Heap,K.In base->base.Ns k9 ap->a0 P w K ap base a8 11 fa fd ["calls"] (O0 K):=by
 obtain rfl:Kd=fa:=by have e:=nk.symm.trans (bh.g X G su);cases e;rfl
 have T:Txt K ap (⟨TF,Tc,To,Tn,Tt,Tf,Te,Tg,TC,Tv,Tj,TA,TG,TH,SE,SF,SG,SI,SH,SD,SA,Sy,Sz,Sx,SJ,Tw,Td,Tp,Tr,Ts,Tu,SM,SP,SR,SN,SQ,SO,Ss,Sv,Su,Kc,Sr,Sw,S9,Th,TJ,Ta,S',Tb,Ti,SK,TB,Tx,Tz,TL,S_,SU,S3,TK,S7,SS,S5,S1,S4,SW,S6,S0,S2,Tq,SX,S8,SY,Sq,SV,Kd,c7,fg,e1,et,gE,gc,Pz,q',sE,vY,q_,sF,q9,q8,yF,yU,yO,yI,yS,yV,yW,yd,pY,vW,yf,ye,yc,vV,vT,vU,yb,yg,yP,yE,yJ,yL,yM,yN,sA,yi,vX,sC,m7,q7,vP,vQ,ya,vR,vO,vS,yA,yG,yX,sD,yC,yD,yH,yh,yT,yQ,yR,vZ,yB,yk,yt,yY,yx,yj,yv,yq,yu,ym,yw,yp,yr,yK,yn,yy,yo,x_,yl,yz⟩:cu):=⟨gf.g X G dG,gf.g X G vH,gf.g X G x7,gf.g X G D_,gf.g X G D6,gf.g X G D9,gf.g X G Js,gf.g X G Jr,gf.g X G lN,gf.g X G Jt,gf.g X G Jq,gf.g X G D8,gf.g X G D7,gf.g X G Jp,gf.g X G q4,jj.g X G Cc,jj.g X G Fq,jj.g X G L5,jj.g X G L9,eg.g X G LQ,jj.g X G L6,jj.g X G L3,jj.g X G L8,jj.g X G LM,jj.g X G LN,eg.g X G LR,eg.g X G LZ,eg.g X G LP,eg.g X G LU,eg.g X G LX,eg.g X G zv,eg.g X G tf,eg.g X G L',eg.g X G L2,eg.g X G LO,eg.g X G L_,eg.g X G tg,eg.g X G L4,eg.g X G L7,eg.g X G L1,eg.g X G LV,eg.g X G Fs,eg.g X G L0,eg.g X G Ft,eg.g X G LW,eg.g X G LY,eg.g X G LS,bh.fs pS,bh.g X G pS,bh.fs q2,bh.g X G q2,bh.fs sv,bh.g X G sv,bh.fs pR,bh.g X G pR,bh.fs q3,bh.g X G q3,bh.fs pQ,bh.g X G pQ,bh.fs pP,bh.g X G pP,bh.fH vj,bh.g X G vj,bh.fs vz,bh.g X G vz,bh.fH vt,bh.g X G vt,bh.fs vm,bh.g X G vm,bh.fH vx,bh.g X G vx,bh.fH vA,bh.g X G vA,bh.fs vB,bh.g X G vB,cM.fs uU,cM.fs oP,cM.m oP,cM.r8 sm,cM.m sm,cM.fH uW,cM.m uW,cM.fH uV,cM.m uV,cM.fH uT,cM.m uT,cM.fH sl,cM.m sl,cM.fs sj,cM.m sj,cM.fs sk,cM.m sk,cM.fs uS,cM.m uS,cM.fs uX,cM.m uX,bh.fs vu,bh.g X G vu,bh.fs vi,bh.g X G vi,bh.fs vn,bh.g X G vn,bh.fH vp,bh.g X G vp,bh.fs vq,bh.g X G vq,bh.fH vr,bh.g X G vr,cM.r8 qZ,cM.fs uZ,cM.fs sq,cM.m sq,cM.fs q0,cM.m q0,cM.fs mj,cM.m mj,cM.fH pO,cM.m pO,cM.fH sg,cM.fH sh,cM.m sh,cM.fH uR,cM.m uR,cM.fH lh,cM.m lh,cM.fH sf,cM.m sf,cM.fs si,cM.m si,bh.fH ve,bh.g X G ve,bh.fH vk,bh.g X G vk,bh.fs vC,bh.g X G vC,bh.fs q1,bh.g X G q1,bh.fH vg,bh.g X G vg,bh.fH vh,bh.g X G vh,bh.fH vl,bh.g X G vl,cM.r8 uY,bh.fs vy,bh.g X G vy,bh.fs vv,bh.g X G vv,bh.fs vw,bh.g X G vw,bh.fH sx,bh.g X G sx,bh.fH vf,bh.g X G vf,bh.fH u1,bh.g X G u1,bh.fH u9,bh.g X G u9,bh.r8 vD,bh.g X G vD,bh.r8 vb,bh.g X G vb,bh.fs u0,bh.g X G u0,bh.fs u',bh.g X G u',bh.fs u6,bh.g X G u6,bh.fH u_,bh.g X G u_,bh.fH u2,bh.g X G u2,bh.fs va,bh.g X G va,bh.fs u5,bh.g X G u5,bh.fH u7,bh.g X G u7,bh.fH vo,bh.g X G vo,bh.fH u3,bh.g X G u3,bh.r8 vd,bh.g X G vd,bh.fH u4,bh.g X G u4,cM.r8 uQ,bh.fH sr,bh.g X G sr,bh.fs su,bh.g X G su,lg.g X G Kp,iF.c Xm,iF.m Xm uU,fz.no od,fz.no l6,lg.g X G Br,iF.c Xo,iF.m Xo qZ,fz.no tp,fz.no qj,lg.g X G Kr,iF.c Xp,iF.m Xp uZ,fz.no lq,fz.no qk,fz.no ha,lg.g X G Ez,iF.c Xl,iF.m Xl sg,fz.no zE,fz.no FI,fz.no zF,fz.no wL,lg.g X G Kq,iF.c Xn,iF.m Xn uY,fz.no oe,fz.no pb,lg.g X G Ko,iF.c Xk,iF.m Xk uQ,fz.no b1,fz.no ru,fz.no wK,fz.no oc,lg.g X G tV⟩;refine⟨yz,?_,λbase _ _=>akJ T b adt⟩;cases su;exactλs us a4=>match us,a4 with|[_],_=>.of_eq I
end
end ck
namespace PySem.W.Fast
def tw3488460820521618801:=0
def tw14391132541691551238:=0
def tw16272294874776088980:=0
def tw9260639474406716323:=0
def tw10155282675201641852:=0
def tw5932944104946412685:=0
def tw1605282638901908454:=0
def tw1964480858981886368:=0
def tw6173660120015624405:=0
def tw1261667708368147421:=0
def tw2172255027519426270:=0
def tw14924936424060516368:=0
def tw4094488694498055662:=0
def tw15014630410471889356:=0
def tw17319787448300575540:=0
def tw17463040588681096457:=0
def tw15024948718623932276:=0
def tw14656816684547462369:=0
def tw10275812451812774357:=0
def tw15273898323268226037:=0
def tw6462633286552464585:=0
def tw5549119282142763612:=0
def tw7590741571822786493:=0
def tw9168119463241875728:=0
def tw12751310626123253499:=0
def tw10100856867582424441:=0
def tw15473186685286858802:=0
def tw5030175987953332019:=0
def tw3862276733954111626:=0
def tw3730789184642481062:=0
def tw8976013673097725609:=0
def tw7843721761144035196:=0
def tw17699094442878145514:=0
def tw9219094958079521476:=0
def tw3849004348854257264:=0
def tw984226980629103170:=0
def tw1328186172448790648:=0
def tw2860918073323933982:=0
def tw8784643930077194050:=0
def tw7548868595237767509:=0
def tw14967013344665340210:=0
def tw4811862965655980343:=0
def tw7189564664966984284:=0
def tw2653910018221736621:=0
def tw8796244992601371070:=0
def tw10159176298365676010:=0
def tw509898662915918618:=0
def tw1054586275046884432:=0
def tw7086019221509779883:=0
def tw17626382275215289745:=0
def tw14418330467979952857:=0
def tw2100567294663921241:=0
def tw17001748405972626325:=0
def tw4891137382099494541:=0
def tw1561739594837319590:=0
def tw9864423804406247470:=0
def tw11313475923226990194:=0
def tw10294910988789857978:=0
def tw2250817969709572824:=0
def tw1736280838233120603:=0
def tw10332730773243309039:=0
def tw6726814461069010332:=0
def tw11464077781626349744:=0
def tw195704892123831356:=0
def tw6339696354704484915:=0
def tw14829163159798381611:=0
def tw5181976784387608292:=0
def tw17306363801490997792:=0
def tw11102194856850794967:=0
def tw2906883982481065524:=0
def tw17927527256469569343:=0
def tw2459545282683268268:=0
def tw15512864760401006699:=0
def tw457573604284650165:=0
def tw10033663782631778694:=0
def tw15689675594995073617:=0
def tw1273014328609372682:=0
def tw1235469359838529115:=0
def tw13094932790478865021:=0
def tw10675198195506557541:=0
def tw1027227833900926140:=0
def tw11256479877190748816:=0
def tw8642014292823757528:=0
def tw10688038646848288797:=0
def tw4251214986964448523:=0
def tw12779455500914604822:=0
def tw6737079185596303656:=0
def tw2910744348054545566:=0
def tw18385863959058575010:=0
def tw12431548731554561361:=0
def tw11694077945923374406:=0
def tw12184469811500787054:=0
def tw5381256178303198371:=0
def tw454870366686167328:=0
def tw4898219990182909930:=0
def tw7724639477254449302:=0
def tw8638358849878940733:=0
def tw14746890757083620014:=0
def tw9723388586671282617:=0
def tw6084689237859638249:=0
def tw11284184557743957508:=0
def tw6230061894195398534:=0
def tw3430724503581773256:=0
def tw7847654436767697663:=0
def tw18260997519061430759:=0
def tw17582606269793216486:=0
def tw4400039287928604018:=0
def tw16830118970078444300:=0
def tw7916532133886556418:=0
def tw6097327694647215028:=0
def tw14243350414002613313:=0
def tw6711201498303479122:=0
def tw2716772337379983881:=0
def tw195478454520836707:=0
def tw806777833425964338:=0
def tw17336504492241436839:=0
def tw2720597391581581495:=0
def tw2060217726286226915:=0
def tw14007369273147659277:=0
def tw13614271062184587078:=0
def tw16635803668727737702:=0
def tw9953563832764817171:=0
def tw13478694639527150167:=0
def tw8503431195656520574:=0
def tw8568124498592185339:=0
def tw18082958155039715285:=0
def tw14959306545384876136:=0
def tw3655353781916484311:=0
def tw8623948478796032465:=0
def tw8435974052382630502:=0
def tw10976159496587804075:=0
def tw5937660912264306367:=0
def tw15265932497496349479:=0
def tw18095610102518654361:=0
def tw2757008218716298619:=0
def tw695266473461588121:=0
def tw11263805193172872236:=0
def tw4765394712277133063:=0
def tw15338713134136290626:=0
def tw1861109499393451282:=0
def tw927141398407993104:=0
def tw11449928832611642185:=0
def tw7276527727603771199:=0
def tw14641080145996797292:=0
def tw5720610737055884161:=0
def tw6684624166074875591:=0
def tw15166740450578086707:=0
def tw12830734812688553382:=0
def tw3117595710466902474:=0
def tw11376937975603669333:=0
def tw10839529675476349472:=0
def tw4999970737742706579:=0
def tw6369393069386361095:=0
def tw484430080850528518:=0
def tw2114995396378895580:=0
def tw14199681022522820973:=0
def tw5464148976729315332:=0
def tw18116537889579545675:=0
def tw4808786848157635831:=0
def tw12904531483555235326:=0
def tw14305567878604684908:=0
def tw8620875013259703831:=0
def tw5554915287079540053:=0
def tw6906941635495891922:=0
def tw13918953386708569773:=0
def tw230588730031050887:=0
def tw2238564372017443227:=0
def tw15884715253145713326:=0
def tw5627963724270934278:=0
def tw4804272363692676665:=0
def tw11038616331888792912:=0
def tw3161945588728828481:=0
def tw11043415801666525434:=0
def tw7978712534807916273:=0
def tw10778022555918136883:=0
def tw12671720930243162525:=0
def tw13771787293794939341:=0
def tw9910233793799470399:=0
def tw16297217154673907116:=0
def tw14406823510121021645:=0
def tw6018269160483926685:=0
def tw15141613164726238625:=0
def tw8911952755269066146:=0
def tw15087889389969948445:=0
def tw12264629786453193565:=0
def tw14602239772253873466:=0
def tw16972922467198567552:=0
def tw6584509414620142239:=0
def tw15704706475853645995:=0
def tw4522228655731675103:=0
def tw15944138540105604496:=0
def tw14636513861980496327:=0
def tw7308847785672443802:=0
def tw16059922724188720571:=0
def tw2748440227686379179:=0
def tw17194933036790189155:=0
def tw1310625896929888799:=0
def tw15888164502066744357:=0
def tw3227375891424208704:=0
def tw13041240961491094823:=0
def tw13759622736944443323:=0
def tw17453222553328124530:=0
def tw1237650542081189647:=0
def tw6125466815520603815:=0
def tw16267676473385739442:=0
def tw14403377574594179516:=0
def tw2534891976307589465:=0
def tw9092855274640406157:=0
def tw12338938364438131103:=0
def tw13012102117726561679:=0
def tw7282156961905351942:=0
def tw8924680131246526753:=0
def tw17745904483676526124:=0
def tw2289269211961276204:=0
def tw13204152793407536006:=0
end PySem.W.Fast
open PySem PySem.W PyProof.Rows
set_option maxRecDepth 100000 in
set_option maxHeartbeats 0 in
theorem PySem.Challenge.cw_goodsplans_s01_answers_holds : PySem.Challenge.rw_goodsplans_s01_answers.Holds := by
  w_on; k_headS; (case hw => exact ⟨[.list [.int 4]], by decide +kernel, by decide +kernel⟩)
  k_fillS
  refine bL.aoM (r := PySem.Challenge.rw_goodsplans_s01_answers) (k := 11) (CX := bL.a8) (ps := ["calls"]) (sp := ck.O0) (by decide +kernel) rfl rfl ⟨rfl, by decide, by decide⟩ (fun w h Y => PySem.W.kIn_of Y) ?F ?S (fun _ _ _ _ z => z)
  case F =>
    intro w ap fa h Y fJ G BN
    apply ck.all_mk fJ G BN
    all_goals first | (constructor; all_goals k_is) | kernel_rfl
  case S =>
    intro K H xs a lV Fe dR ao
    cases ao with
    | cons ag ai =>
      cases ai
      cases ag with
      | lst aP ay =>
        have e := bL.Vk a.1 _ ay
        subst e
        have q : ((Codec.inLen 0 17000 a.1 && a.1.all (Codec.inInt (_root_.Int.negSucc 999999999999999999) (_root_.Int.ofNat 1000000000000000000))) && true) = true := Fe
        rw [Bool.and_eq_true, Bool.and_eq_true] at q
        exact ⟨_, a.1, rfl, aP, (Codec.inNat_iff.mp q.1.1).2, dR, fun ae p aO => .lst (bL.aI.of aO) (bL.R0 _)⟩
