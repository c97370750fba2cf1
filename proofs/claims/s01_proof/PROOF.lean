import PyProof.Rows.All
import Wide.All
import OpenK.AllK
import Wide.FinOn
import PyProof.EqAt
import PyProof.EqKinds
import PyProof.TupleCall
import KE.BitLaws
import Open.SpecLaws
import KE.OsHead
import KE.OsGo
import SySpec
import KE.KRevIter
import KE.KSortTupG
import PyProof.Rows.SortShellAny
import PyProof.CollectIter
import PyProof.DictRoadsH
import PyProof.TupleKey
import PyProof.AttrMiss
import PyProof.AttrMissHeap
import KE.KDictOf
import KE.KDictSum
import PySem.Challenge.RW_landdays_s01_answers
import KE.KEqDict
import PyWqazcs
set_option Elab.async false
set_option linter.all false
set_option maxRecDepth 100000
set_option maxHeartbeats 2000000
open PySem renaming Addr->aa,Value->af,Str->ak,Shared->am,wpAny_bind->ao,wpAny->aw,Expr->az,starEach->aB,model->aH,Heap->aJ,eval->aO,World->aT,Program->a0,wpAny_pure->a8,Pos->bf,sizeLine->bx,Obj->bD,FuncData->bI,Around->b8,Stmt->cv,cLine->cH,backTo->eK,IsZip->eQ,compEnvC->e9,pyNext->e_,sizeLine_eq->fu,Env->fA,wpAny_seqItems->fG,Scope->fQ,Tok->fR,wpAny_field->f6,argBest->f8,compareOp->gw,call->gG,cellsFrom->iz,mainGlobals->iY,wpAny_updateSeq->je,wpAny_holding->jf,swapsWith->jg,wpAny_letGo->jF,CmpOp->jH,field->j6,wpAny_nextOf_list_item->kt,attributeBase->kx,sysModules->kz,NameKind->kB,mem_of_lookup->kT,foldedSetIterable->kU,plainId_quiet->kX,wpAny_setField_rec->lU,valueAt->l5,behindInMarks->mN,richCompare->mQ,wpAny_mono->mT,codeAny->mU,codeAny_builtin->nV,tupleKeyHash->oe,tupleKind->og,rawInt->oh,PassesOwn->o5,Paired->o6,wpAny_nextOf_list_end->p6,wpAny_truthy_bool->p8,wpAny_call_entry->p9,wpAny_loadPart'->p_,wpAny_onRaise->qg,typeLookup->qj,IsTupleKey->qk,PyData->ql,wpAny_tryCatch->rz,updateSeq->rD,binaryOp->rE,Params->rG,rule->rH,wpAny_callSpecial?_slot->sS,wpAny_isInstance->tp,wpAny_specialOf->tq,wpAny_attempt->tv,bootBuiltins->tw,pushCells->tE,bindL->tH,bindC->tI,builtinLookup_eq_fast->uT,wpAny_pyIter_list->uW,wpAny_newObj_type->uX,wpAny_passesOwn->u4,typeLookup_type->u5,wpAny_rule->u9,call_meets->u_,seqItems?->va,eqIsQuiet->vb,Result->vd,putAt->ve,notedBy->xu,getItem->xw,callerA->xx,Keyword->xy,BindsTo->xz,revObj->xA,isTrue->xB,Reads->xC,Model->xD,wpAny_Call_Name_kw->Ax,wpAny_typeOf->AM,sliceBounds->AO,assignEach->AS,pyIter->AV,pyHash->AW,assign->AX,tupleKind_room_in1->EI,wpAny_pyIter_zip->EU,pushCells_keeps->EX,letOwnedTupleGo->EY,wpAny_newTuple->E5,isSubtype_stop->E6,codeAny_mono->Fb,subscripted->Fc,IsRangeIter->Fd,DictEntry->Fe,bindArgs->Ff,Operator->Fg,IntMulOk->Fh,holding->Fj,wpAny_pyIter_tuple->No,call_function_tree->Np,wpAny_execs_nil->NC,Within->ND,callType_codes->NG,call_meetsIn->NU,wpAny_of_eq->NW,keywordEach->NX,wpAny_Name->NY,reduceHash->NZ,entryOfKey->N0,builtinsNs->N1,storeName->N4,wpAny_pyNext_range_end->abk,wpAny_pyNext_list_item->abl,wpAny_pyIter_rangeiter->abm,wpAny_Assign_Subscript->abn,richCompare_meets_room->abo,wpAny_pyNext_list_end->abD,wpAny_isTrue_Compare1->abE,wpAny_loadName_local->abO,boot_len->abP,attributeErrorLeaves->abQ,wpAny_loadName_cell->abV,wpAny_setItem_heap->ab9,wpAny_pyIter_range->ab_,wpAny_pyHash_tuple->aca,wpAny_getItem_heap->acb,sub_AttributeError->acd,getattributeRaised->ace,wpAny_pyIter_enum->aco,wpAny_assign_Name->acp,wpAny_Call_method->acq,slot_list_getitem->acr,wpAny_getItem_of->acD,wpAny_forIn_list->acE
open Sy renaming edges->aj,Ring->aC,fine->aV,before->aY,turn->bc,step->bz,onStretch->bN,pts->bQ,area->bR,cut->b6,onRing->b_,bare->ce,tidy->cu,inRing->cB,openEdges->cJ,rolled->de,meet->dj,ringOk->dz,wayOk->dJ,stretches->dN,through->dZ,says->ef,crosses->eB,firstAt->eJ,joined->fh,shareOf->fH,walk->fI,twice->fJ,half->fK,tells->gZ,State->ia,Parcel->iy,besides->iA,withShare->jG,simple->j5,Registry->kZ,flat->k4,along->k5,Shares->l6,now->tG,ratNums->u7,acted->xt,sum->xE,Call->AU,Ans->Fi
open PySem.W renaming Frag->ax,WData->f9,fnOf->lW,findIn->qe,emptyDict->rn,keepIn->rx,WellAll->rF,instObj->tl,Codec->tJ,codeIn->xi,mg_of->xj,nsIn->xn,hasDictIn->EA,plainGet->EF,plainOver->M7,methodObj->M8,takerIn->Ng,makesIn->Nh,lookIn->Nq,length_le_weightAllW->Z1,cellsFrom_some->aas,callWith_K->aaN,handedIn->aa4,WRecords->aa5,KeqHits->aba,WalkOS->abp,isFn->abR
open List renaming length_map->bS,mem_cons_self->cc,mem_cons->cO,mem_map->cY,map_append->dw,mem_of_getElem?->dA,map_cons->dB,length_cons->dI,getElem?_eq_getElem->d9,map_map->d_,mem_append->eI,mem_cons_of_mem->e8,getElem?_eq_some_iff->gD,mem_singleton->gY,getElem?_map->hZ,all_eq_true->iu,getD_eq_getElem?_getD->iV,pairwise_cons->iX,filter_eq_self->jz,length_append->jY,range->j4,foldl_cons->kv,nodup_cons->kW,any_eq_true->lV,take_succ_eq_append_getElem->nJ,mem_append_right->nM,pairwise_map->nR,forIn_cons->nU,mem_range->nZ,map_take->n_,mem_filter->oU,length_set->oV,forIn_nil->oY,map_drop->o0,getElem?_set->p7,ext_getElem?->ro,length_take->rp,of_mem_zip->rq,find?_cons->rs,any_cons->rA,all_cons->rB,drop_eq_nil_of_le->sT,pairwise_append->sV,getElem?_of_mem->sW,append_of_mem->sX,nodup_append->s_,filter_cons->tc,cons_append->tf,take_append_drop->uS,length_nil->uY,length->u6,drop_eq_getElem_cons->w6,take_of_length_le->w8,length_filter_le->w9,mem_append_left->w_,map_congr_left->xa,length_flatMap->xb,zip_cons_cons->xc,getElem_mem->xg,append_nil->xh,map_nil->xp,mem_of_find?_eq_some->Ao,mergeSort_perm->Aq,size_toArray->Au,reverse_cons->Av,append_assoc->Aw,zipIdx_cons->Az,length_drop->AA,find?_map->AE,drop_drop->AF,all_map->AJ,range'->AL,length_filter_eq_length_iff->Ej,getElem?_append_right->Em,getElem?_append_left->En,perm_append_comm->Et,mem_iff_getElem->Eu,length_pos_iff->Ew,filterMap_cons->Ex,eraseDups_cons->Ey,forIn_toArray->EB,foldl_append->EG,filter_congr->EH,take_length->EJ,mem_flatMap->EL,getElem_zip->EM,find?_some->ES,filter_map->ET,mapM_cons->EV,take_nil->EZ,any_map->E8,map_id->Fa,dropLast_concat_getLast->MB,pairwise_iff_getElem->MH,pairwise_mergeSort->ML,range_succ_eq_map->MO,flatMap_singleton->MP,mem_of_mem_take->MR,mem_of_mem_drop->MT,getElem?_set_ne->MU,getElem?_modify->MV,dropLast_concat->MW,flatMap_append->MX,filter_sublist->MY,take_sublist->Nb,length_range->Nc,getElem_drop->Nd,any_eq_false->Nf,range'_succ->Nl,lookup_cons->Nm,getElem_inj->Nn,nodup_nil->Nw,sum_cons->Ny,Nodup->NT,getLast?_eq_some_getLast->Z8,idxOf_lt_length_of_mem->aah,perm_ext_iff_of_nodup->aap,getElem_append_right->aau,getElem_append_left->aaB,getElem?_take_of_lt->aaC,pairwise_singleton->aaE,length_eq_zero_iff->aaF,filter_cons_of_pos->aaG,filter_append_perm->aaH,zipWith_cons_cons->aaK,getElem?_set_self->aaL,append_eq_nil_iff->aaM,length_replicate->aaP,getElem?_zipWith->aaQ,dropLast_eq_take->aaR,range_eq_range'->aaY,length_dropLast->aaZ,getElem_toArray->aa0,getElem_of_mem->aa8,zip_nil_right->abd,mem_filterMap->abe,length_zipIdx->abf,getElem_idxOf->abg,getElem?_drop->abh,filter_filter->abi,zip_nil_left->abv,getElem_take->abw,flatMap_cons->abx,find?_isSome->aby,map_reverse->abL,getElem_map->abM,ext_getElem->abN,replicate->ab2,drop_zero->ab3,mapM_nil->ach,zipWith->acz,all_nil->acA
open PySem.Heap renaming get?_push_of_some->bV,lt_size->cq,get?_push_size->dM,size_push->iw,get?_update_self->jX,get?_update_other->lR,SameBut->oa,IsList->NP
open Ne renaming symm->ci
open Or renaming inl->cj,inr->gF
open Nat renaming le_refl->cs,le_trans->dY,ne_of_lt->fg,lt_of_lt_of_le->jA,zero_le->j0,ne_of_gt->o4,lt_irrefl->qf,mul_pos->qh,mul_le_mul->ry,lt_of_le_of_lt->sY,mod_eq_of_lt->th,le_of_lt->AK,le_succ->AN,lt_succ_iff_lt_or_eq->Er,min_eq_right->EO,succ_pos->E_,add_mod_right->Ni,zero_add->NJ,sub_zero->NK,sub_self->NL,mod_self->NM,lt_or_ge->NN,le_of_eq->NO,add_le_add_right->aa7,gcd_dvd_right->abK,mul_lt_mul''->abT,min_eq_left->ab0,div_le_self->ab1,mul_comm->acF,add_zero->acG
open PySem.Obj renaming mapSeq->cM
open PySem.Value renaming ref->c7,type->ky,bool->lY,int->rC,none->tD,isInt->xr,str->AR,notImplemented->aaO,isStrOf->abW,float->acu,bytes->acv
open Bool renaming and_eq_true->dc,false_ne_true->gu,not_eq_true'->h_,eq_false_iff->mK,noConfusion->mL,eq_iff_iff->mM,false_eq_true->nP,or_eq_true->oX,or_eq_false_iff->rj,true_and->ts,false_or->xl,not_eq_false'->Ar,false_and->AG,and_false->AH,xor_false->EW,or_false->E2,and_true->E3,xor_true->Nz,and_eq_true_iff->aa2,not_eq_false->abB,not_false->ab8,xor_self->ack,xor_comm->acl,true_or->acC
open Sum renaming inl->eX,inr->AT
open Int renaming toNat->fz,natCast_nonneg->sZ,gcd->tF,toNat_natCast->Ay,toNat_of_nonneg->Ez,natAbs_natCast->EE,lt_trichotomy->Nj,mul_le_mul_of_nonneg_left->aac,ediv_pos_of_pos_of_dvd->aav,sub_eq_add_neg->abz,natCast_pos->ab4,natCast_mul->ab5,emod_nonneg->ab6,ediv_nonneg->ab7,mul_nonneg->aci,mul_le_mul->acj,ofNat_dvd->acB,le_trans->acH
open SyNeutral renaming whole32->fF,step->jC,sizeOf->uV,callOf->EC,asked1->ED,start->aaT,asked->aaU,play->aa3
open Prod renaming ext->f7,snd->kA,fst->l4,ext_iff->acy
open Classical renaming byContradiction->gs,propDecidable->aad,choose->aaS,em->abA
open PyProof.Rows renaming lexLt->ib,IntsAre->iB,envOfC->mV,arrOf->mW,callWith_type1->nL,Call_->o7,AllBare->vc,IsTup->vf,intBits_le->Am,boot_list->Ep,boot_min->MF,subscriptTail->NS,boot_range->N2,Subscript_->N3,sortedAll_old->ZX,sortedAll_at->ZZ,boot_max->Z7,subscriptTail_builtinR->abu,lt_int->abY,gt_int->abZ
open PySem.Builtin.SmallTypes renaming nextOf->iW,ownedTupleIsFree->lQ,ownedTupleHandOut->Ei
open PySem.PassesOwn renaming never->jB
open PyWqazcs renaming whole->jD,shape->nW,answers->As,answers_asked->MI
open PySem.Str renaming ofString->jE
open Rat renaming div_mul_cancel->jZ,le_of_lt->kY,inv_pos->lX,not_lt->mS,mul_inv_cancel->nQ,div_def->tz,intCast_inj->uZ,num_mkRat->xm,mkRat_eq_div->EN,mkRat_mul_right->MZ,den_mkRat->NA,sub_eq_add_neg->abj,mkRat_eq_zero->abC,intCast_mul->abU,neg_mkRat->acn
open PySem.F renaming slot_zip_next->ku,plainAttrs_list->sO,args_zip_next_1->sP,plain_min_loop->sQ,entry_zip_next->sR,plain_max_loop->uR,plain_extend_loop->Ai,slot_list_extend->Ap,slot_dict_getitem->MC,type_list_extend->MD,entry_min_loop->MJ,entry_max_loop->MK,slot_list_append->MM,slot_dict_get->MN,slot_list_getattribute->ZY,entry_extend_loop->Z_,type_list_append->aae,args_list_init_2->aaf,typeCall_list_1->aai,slot_tuple_hash->aaj,slot_list_index->aak,plain_list_iadd->aal,plainAttrs_dict->aam,entry_list_init->aan,args_dict_get_3->aao,entry_dict_get->aat,slot_dict_pop->aaz,slot_list_reverse->aaI,called_list->aaJ,plain_min->aaV,entry_min->aaW,kind_min->aa6,slot_list_pop->abb,args_list_extend_2->abt,entry_list_extend->abG
open False renaming elim->lZ
open PySem.Around renaming under_plainId->nN
open List.cons renaming inj->n0
open PyFlat renaming played->oZ,told->xq,calls->AI,rows->E9,call->NF
open True renaming intro->qi
open PySem.Builtin.Int renaming intBits->rm
open PySem.Heap.SameBut renaming update->sU
open Option.some renaming inj->ta
open ForInStep renaming yield->tj,done->aa9
open NLines renaming flat->tx
open PySem.PyData renaming eqv->tA,depth->E4,depthAll->abr,eqvAll->abS
open PySem.Calls renaming spliced_cons->uU,spliced_nil->xf,callWith_builtin->Es,evalArgs_plain->MQ,Name_function_global->aag
open PySem.Builtin.Builtins renaming bindParams->wZ
open PySem.Builtin.List renaming listExtendWith->w4,listTooLong->Ah,listSameRef->El,listItems->Eo,listLengthHint->ZV,listUpdate->Z2
open PySem.Shared renaming TypeIs->xk,heap->NE
open PySem.W.Codec renaming encAll->xo,app->AQ,denoteAll->ER,withinAll->abF
open Option renaming isNone_iff_eq_none->Aj,isSome_map->M_,bind_some->Na,map_some->Nk,map_eq_some_iff->aaA,isSome_some->aaX,getD_none->abc
open PySem.Builtin.Range renaming rangeSize->Ak,rangeFitsLong->ZT,small->aaa
open List.Perm renaming eq_of_pairwise->Al,trans->aa1
open Array renaming size_push->AB,forIn_toList->aa_,toList->acm
open PySem.ReadsAll renaming cons->AD,nil->Nu
open PySem.Builtin.Tuple renaming tupleHashOf->Ek,tupleCompareSizes->ZS,tupleItemsOf->acV
open PySem.W.WData renaming weightAll->EQ
open PySem.SeqAt renaming shaped->E7,EqAt->NR,eqAt_reads->abq
open PySem.NameKind renaming free->Nt,cell->abs
open PySem.Paired renaming length->Nv,snoc->acg
open PySem.Reads renaming tuple->NH,int->NV,unique->acf
open PySem.Walks renaming list->NQ,tuple->acs,range->act
open List.Nodup renaming length_le_of_subset->ZU
open PySem.pyHashByItsType renaming reduced->ZW
open PySem.Builtin.Dict renaming addKeywords->Z0,updateFrom->Z3,pairItems->Z4
open List.Pairwise renaming sublist->Z5,and_mem->Z6,of_map->Z9,nil->aar,imp_of_mem->acW,imp->acX
open PySem.AutoSeq1 renaming sub_tuple_tuple->aab
open List.Sublist renaming slnil->aaq
open PySem.SeqAt.EqAt renaming str_int->aaw,int_str->aax,int_int->aay
open PySem.Heap.IsList renaming push->aaD
open PySem.Data.seq renaming inj->abH
open PySem.Data renaming pastItsLine->abI
open Prod.mk renaming injEq->abJ
open PySem.IsRange renaming new->abX
open PySem.Obj.mk renaming inj->acw
open PySem.CmpOp renaming NotIn->acx
open PySem.Challenge renaming pw_landdays_s01_answers->acJ
open PySem.Heap.IsSliceOf renaming new->acK
open PyProof.Rows.G renaming sorted_tups->acL
open PySem.W.Looks renaming here->acM
open PySem.EqMixed renaming ne_str_int->acN,ne_str_bool->acO,ne_int_str->acP,ne_bool_str->acQ,eq_str_int->acR,eq_str_bool->acS,eq_int_str->acT,eq_bool_str->acU
def aL:=@if_neg
def aM:=@if_pos
def cy:=@absurd
def c9:=@congrArg
def eg:=@decide_eq_true_eq
def fB:=@of_decide_eq_true
def iC:=@of_decide_eq_false
def kC:=@decide_eq_true
def k6:=@if_true
def mX:=@decide_eq_false
def oi:=@if_false
def o8:=@decide_eq_false_iff_not
def xF:=@and_congr_right
local macro_rules|`(tactic|decide)=>`(tactic|decide +kernel)
namespace L2
open PySem PySem.Spec PyProof.Rows
abbrev bg:=Sum Int ak
def se:bg->af->Bool
 |.inl k,v=>xr k v
 |.inr x,v=>abW x v
def YV(w:aT):bg->Int
 |.inl k=>hashInt k
 |.inr x=>hashStr w x
def mY:∀{k:bg}{v:af},se k v=true->(∃i t,k=eX i/\v=rC i t)\/(∃x t,k=AT x/\v=AR x t)
 |.inl i,v,h=>by obtain⟨t,e⟩:=Value.isInt_shape (k:=i) (v:=v) h;grind
 |.inr x,v,h=>by obtain⟨t,e⟩:=Value.isStrOf_shape (x:=x) (v:=v) h;grind
def Qn(i:Int)(t:fR):se (.inl i) (.int i t)=true:=by simp[se,xr]
def RD(x:ak)(t:fR):se (.inr x) (.str x t)=true:=by simp[se,abW]
def Ws(a b:Int):decide ((eX a:bg)=eX b)=(a==b):=by grind
def Xj(a b:ak):decide ((AT a:bg)=AT b)=decide (a=b):=by grind
def VZ(a:Int)(b:ak):decide ((eX a:bg)=AT b)=false:=by grind
def Xr(a:ak)(b:Int):decide ((AT a:bg)=eX b)=false:=by grind
def cF(c:a0)(w:aT):PySem.KeyKind c w bg where
 is:=se
 hash:=YV w
 inj:=λv a b l f=>by
  rcases mY l with⟨i,t,rfl,rfl⟩|⟨x,t,rfl,rfl⟩
  ·rcases mY f with⟨j,u,rfl,e⟩|⟨y,u,rfl,e⟩;·grind
   grind
  ·rcases mY f with⟨j,u,rfl,e⟩|⟨y,u,rfl,e⟩;·grind
   grind
 byValue:=λk v h=>by rcases mY h with⟨i,t,rfl,rfl⟩|⟨x,t,rfl,rfl⟩<;>rfl
 pyHash:=λd h=>by
  rcases mY d with⟨i,t,rfl,rfl⟩|⟨x,t,rfl,rfl⟩;·exact wpAny_pyHash_int h
  ·exact wpAny_pyHash_str h
 eqBool:=λg d h=>by
  rcases mY g with⟨i,t,rfl,rfl⟩|⟨x,t,rfl,rfl⟩
  ·rcases mY d with⟨j,u,rfl,rfl⟩|⟨y,u,rfl,rfl⟩;·rw[Ws] at h;exact wpAny_eqBool_int h
   ·rw[VZ] at h;exact aax i t y u _ _ _ _ h
  ·rcases mY d with⟨j,u,rfl,rfl⟩|⟨y,u,rfl,rfl⟩;·rw[Xr] at h;exact aaw x t j u _ _ _ _ h
   ·rw[Xj] at h;exact wpAny_eqBool_str h
 «strs»:=λk x t v h=>by
  rcases mY h with⟨i,u,rfl,e⟩|⟨y,u,rfl,e⟩;·grind
  ·injection e with m _;subst m;cases v<;>rfl
def OI(a:a0)(w:aT)(i:Int)(t:fR):(cF a w).is (.inl i) (.int i t)=true:=Qn i t
def OC(a:a0)(w:aT)(x:ak)(t:fR):(cF a w).is (.inr x) (.str x t)=true:=RD x t
inductive V where
 |aS|bl (b:Bool)|int (i:Int)|str (x:ak)|jx (b:Array UInt8)|wY (b:UInt64)|ref (a:aa)|ty (n:String)
 deriving DecidableEq
def bM:V->af->Prop
 |.aS,u=>u=tD
 |.bl b,u=>u=lY b
 |.int i,u=>∃t,u=rC i t
 |.str x,u=>∃t,u=AR x t
 |.jx b,u=>∃t,u=acv b t
 |.wY b,u=>∃t,u=acu b t
 |.ref a,u=>u=c7 a
 |.ty n,u=>u=ky n
abbrev bF:List V->List af->Prop:=Paired bM
def bF.length(r:bF a b):a.length=b.length:=Nv r
def bF.get:∀{a:List V}{b:List af}{i:Nat}{x:V},bF a b->a[i]?=some x->∃u,b[i]?=some u/\bM x u
 |_,_,_,_,.nil,e=>by simp at e
 |_,_,0,_,.cons r _,e=>by grind
 |_,_,i+1,x,.cons _ t,e=>by
  obtain⟨u,d,c⟩:=bF.get (i:=i) (x:=x) t<|by grind
  grind
def bF.append:∀{b a:List V}{d c:List af},bF b d->bF a c->bF (b++a) (d++c)
 |_,_,_,_,.nil,s=>s
 |_,_,_,_,.cons r t,s=>.cons r<|bF.append t s
def bF.take:∀{a:List V}{b:List af}(n:Nat),bF a b->bF (a.take n) (b.take n)
 |_,_,0,_=>.nil
 |_,_,_+1,.nil=>.nil
 |_,_,n+1,.cons r t=>.cons r<|bF.take n t
def bF.drop:∀{a:List V}{b:List af}(n:Nat),bF a b->bF (a.drop n) (b.drop n)
 |_,_,0,r=>r
 |_,_,_+1,.nil=>.nil
 |_,_,n+1,.cons _ t=>bF.drop n t
def ik:Option V->Option af->Prop
 |some v,some u=>bM v u
 |none,none=>True
 |_,_=>False
def KV{a:Type}:List (a×V)->List (a×af)->Prop:=Paired λ(p:a×V)(q:a×af)=>p.1=q.1/\bM p.2 q.2
def kV:bg->V
 |.inl i=>.int i
 |.inr x=>.str x
inductive HO where
 |aq (xs:List V)
 |a9 (xs:List V)
 |dK (kvs:List (bg×V))|dT (kvs:List (List bg×V))
 |set (S:Int->Bool) (n:Nat)
 |bA (C dx:aa) (fs:List (ak×V))
 |be (x:aa)
 |xd (fs:List (ak×V))
 |D0 (f x:aa)
 |Ea (lo hi:Int)
 |kr (o:bD) (u:HO)
 |sL (ps:Array af)
 |ext (φ:aJ->Prop)
abbrev Hp:=aa->Option HO
def bv(H:Hp)(a:aa)(o:HO):Hp:=λb=>if b=a then some o else H b
def pf:bv H a o a=some o:=by unfold bv;grind
def ew(h:b≠a):bv H a o b=H b:=by unfold bv;grind
def l7{H:Hp}(h:H a=some o)(c:H b=none):a≠b:=by grind
section
variable (P:a0) (w:aT)
def eA(H:Hp)(h:aJ)(a:aa):HO->Prop
 |.aq d=>d.length<=bx/\∃(c:List af)(n:Nat),bF d c/\h.get? a=some { cls:=.type "list",data:=.seq c.toArray n}
 |.a9 d=>d.length<=bx/\∃c:List af,bF d c/\vf h a c.toArray
 |.dK b=>b.length<=bx/\(a==kz)=false/\∃m,KV b m/\h.DictOf (cF P w) a m
 |.dT b=>b.length<=bx/\(a==kz)=false/\∃d:List (List bg×aa×af),
  Paired (λ(p:List bg×V)(q:List bg×aa×af)=>p.1=q.1/\H q.2.1=some (.a9<|p.1.map kV)/\bM p.2 q.2.2) b d/\
  ∃o y B,h.get? a=some o/\o.ExactDict/\o.data=.dict y B/\y.toList=d.map (N0 (og (cF P w)))/\(d.map (·.1)).Nodup
 |.set S n=>h.SetOf (intKind P w) a S n
 |.bA C k i=>H k=some (.be a)/\i.length<=1000/\k≠a/\h.get? a=some (tl C k)/\
  ∃g,h.Ns1 k g/\(∀f,ik (i.lookup f) (g f))/\ND g (i.map (·.1))
 |.be _=>∃o,h.get? a=some o
 |.xd i=>∃g,h.Ns1 a g/\∀f,ik (i.lookup f) (g f)
 |.Ea lo A=>∃t u v,h.get? a=some { cls:=.type "range",data:=.fields #[.int lo t,.int A u,.int 1 v]}
 |.kr o u=>h.get? a=some o/\eA H h a u
 |.sL z=>h.get? a=some { cls:=.none,data:=.fields z}
 |.D0 f x=>h.get? a=some (M8 (.ref f)<|.ref x)
 |.ext l=>l h/\(∃o,h.get? a=some o)/\∀s r:aJ,l s->(∀o,s.get? a=some o->r.get? a=some o)->l r
def ek(H:Hp)(h:aJ):Prop:=∀a o,H a=some o->eA P w H h a o
end
def eA.lt(x:eA b w H h a o):a<h.objs.size:=by
 cases o with
 |aq d=>obtain⟨_,_,_,_,e⟩:=x;exact cq e
 |a9 d=>obtain⟨_,_,_,p⟩:=x;exact p.lt
 |dK c=>obtain⟨_,_,_,_,o,_,_,e,_⟩:=x;exact cq e
 |dT c=>obtain⟨_,_,_,_,o,_,_,e,_⟩:=x;exact cq e
 |set S n=>obtain⟨o,_,_,_,e,_⟩:=x;exact cq e
 |bA C m g=>obtain⟨_,_,_,e,_⟩:=x;exact cq e
 |be y=>obtain⟨_,e⟩:=x;exact cq e
 |xd g=>obtain⟨_,⟨_,_,_,e,_⟩,_⟩:=x;exact cq e
 |Ea lo l=>obtain⟨_,_,_,e⟩:=x;exact cq e
 |kr k u=>obtain⟨e,_⟩:=x;exact cq e
 |sL j=>exact cq<|show h.get? a=some _ from x
 |D0 f y=>exact cq<|show h.get? a=some _ from x
 |ext i=>obtain⟨_,⟨_,e⟩,_⟩:=x;exact cq e
def Paired.sj:∀{g:List i}{e:List h},Paired d g e->(∀a b,d a b->c a b)->Paired c g e
 |_,_,.nil,_=>.nil
 |_,_,.cons r t,f=>.cons (f _ _ r)<|Paired.sj t f
def eA.qY(x:eA g w H h a o)(k:∀b u,(b=a\/H b=some (.be a))->h.get? b=some u->I.get? b=some u)(R:∀b,H b=some (.be a)->M b=some (.be a))(Y:∀b s,H b=some (.a9 s)->M b=some (.a9 s)):eA g w M I a o:=by
 induction o with
 |aq s=>obtain⟨z,m,n,r,e⟩:=x;exact⟨z,m,n,r,k _ _ (.inl rfl) e⟩
 |a9 s=>obtain⟨z,m,r,i,e,c⟩:=x;exact⟨z,m,r,i,k _ _ (.inl rfl) e,c⟩
 |dK E=>obtain⟨z,y,N,r,i,j,l,e,c⟩:=x;exact⟨z,y,N,r,i,j,l,k _ _ (.inl rfl) e,c⟩
 |dT E=>obtain⟨z,y,s,r,i,j,l,e,c⟩:=x;exact⟨z,y,s,Paired.sj r (by grind),i,j,l,k _ _ (.inl rfl) e,c⟩
 |set S n=>obtain⟨i,j,l,t,e,c⟩:=x;exact⟨i,j,l,t,k _ _ (.inl rfl) e,c⟩
 |bA C dx T=>obtain⟨d,z,O,e,D,⟨B,j,l,U,c⟩,r⟩:=x;exact⟨R _ d,z,O,k _ _ (.inl rfl) e,D,⟨B,j,l,k _ _ (.inr d) U,c⟩,r⟩
 |be y=>obtain⟨i,e⟩:=x;exact⟨i,k _ _ (.inl rfl) e⟩
 |xd T=>obtain⟨D,⟨B,j,l,e,c⟩,r⟩:=x;exact⟨D,⟨B,j,l,k _ _ (.inl rfl) e,c⟩,r⟩
 |Ea lo Z=>obtain⟨t,u,v,e⟩:=x;exact⟨t,u,v,k _ _ (.inl rfl) e⟩
 |kr i u Q=>obtain⟨e,q⟩:=x;exact⟨k _ _ (.inl rfl) e,Q q⟩
 |sL L=>have e:h.get? a=some { cls:=.none,data:=.fields L}:=x;show I.get? a=some { cls:=.none,data:=.fields L};grind
 |D0 f y=>have e:h.get? a=some (M8 (.ref f) (.ref y)):=x;show I.get? a=some (M8 (.ref f)<|.ref y);grind
 |ext X=>obtain⟨p,⟨o,e⟩,st⟩:=x;exact⟨(by grind),⟨o,k _ _ (.inl rfl) e⟩,st⟩
def ek.lt(x:ek b w H h)(e:H a=some o):a<h.objs.size:=(x a o e).lt
def ek.fresh(x:ek b w H h)(e:h.objs.size<=a):H a=none:=by
 cases q:H a with
 |none=>rfl
 |some u=>exact cy (jA (x.lt q) e)<|qf _
def ek.eN(x:ek c w H h)(k:∀b u,h.get? b=some u->d.get? b=some u):ek c w H d:=λa o e=>
 (x a o e).qY (λb u _ q=>k b u q) (λ_ q=>q) λ_ _ q=>q
def ek.ij(x:ek d w H h)(k:∀b u,h.get? b=some u->h'.get? b=some u)(j:h.objs.size<=a)(i:eA d w (bv H a o) h' a o):ek d w (bv H a o) h':=λb u e=>by
 have f:=x.fresh j;by_cases g:b=a;·subst g;rw[pf] at e;grind
 ·rw[ew g] at e;exact(x b u e).qY (λc v _ q=>k c v q) (λc q=>by rw[ew<|l7 q f];exact q) λc l q=>by rw[ew<|l7 q f];exact q
def Rd(H:Hp)(a:aa)(u:HO):Prop:=H a=some u\/∃o,H a=some (.kr o u)
def Rd.ok(r:Rd H a u)(x:ek b w H h):eA b w H h a u:=by
 rcases r with r|⟨o,r⟩;·exact x a u r
 ·obtain⟨_,q⟩:=x a _ r;exact q
def wW:Option HO->Prop
 |some (.aq _)=>True
 |some (.dK _)=>True
 |some (.dT _)=>True
 |some (.set _ _)=>True
 |some (.bA _ _ _)=>True
 |some (.ext _)=>True
 |_=>False
def ek.qM(p:ek a w H h)(i:wW (H x))(B:e=x\/H e=some (.be x))(k:∀b u,b≠e->h.get? b=some u->l.get? b=some u)(j:∃u,l.get? e=some u)(s:eA a w (bv H x n) l x n):ek a w (bv H x n) l:=λb u q=>by
 have f:∀c y,H c=some (.be y)->c≠x:=λc y r z=>by subst z;rw[r] at i;exact i
 have d:∀c g,H c=some (.a9 g)->c≠x:=λc g r z=>by subst z;rw[r] at i;exact i
 by_cases o:b=x;·subst o;rw[pf] at q;grind
 ·rw[ew o] at q;by_cases t:b=e
  ·have m:H b=some (.be x):=by grind
   rw[q] at m;cases m;obtain⟨v,A⟩:=j;exact⟨v,by grind⟩
  ·refine(p b u q).qY (λc v C r=>k c v ?_ r) (λc r=>by rw[ew<|f c b r];exact r) λc g r=>by rw[ew<|d c g r];exact r
   grind
structure Un(fs ex:List aa)(H H':Hp)(h h':aJ):Prop where
 keep:∀b o,h.get? b=some o->H b=none->b∉fs->b∉ex->h'.get? b=some o
 kN:∀b o,h.get? b=some o->H b=none->b∈fs->b∉ex->∃sl,h'.get? b=some { o with slots:=sl}
 free:∀b o,h.get? b=some o->H b=none->b∉ex->H' b=none
 there:∀b o,h.get? b=some o->b∉ex->∃o',h'.get? b=some o'
 qV:∀b xs,H b=some (.a9 xs)->H' b=some (.a9 xs)
 pK:∀b o u,H b=some (.kr o u)->H' b=some (.kr o u)
 si:∀b ps,H b=some (.sL ps)->∃more,H' b=some (.sL (ps++more))
def Un.any(u:Un i j H k h g)(q:h.get? b=some a)(n:H b=none)(d:b∉j):∃f,g.get? b=some { a with slots:=f}:=by
 by_cases e:b∈i;·exact u.kN b a q n e d
 ·exact⟨a.slots,u.keep b a q n e d⟩
def Un.eN(k:∀b u,h.get? b=some u->c.get? b=some u):Un e f H H h c:=⟨λb a q _ _ _=>k b a q,λb a q _ _ _=>⟨a.slots,k b a q⟩,λ_ _ _ n _=>n,(by grind),λ_ _ q=>q,λ_ _ _ q=>q,λ_ d q=>⟨#[],by grind⟩⟩
def Un.refl:Un a b H H h h:=Un.eN λ_ _ q=>q
def Un.ij{f:List aa}{g:List aa}{H:Hp}{h:aJ}{h':aJ}{a:aa}{o:HO}(k:∀b u,h.get? b=some u->h'.get? b=some u)(e:h.objs.size<=a)(c:H a=none):Un f g H (bv H a o) h h' where
 keep:=λb u q _ _ _=>k b u q
 kN:=λb u q _ _ _=>⟨u.slots,k b u q⟩
 free:=λb u q n _=>by rw[ew<|fg<|jA (cq q) e];exact n
 there:=λb u q _=>⟨u,k b u q⟩
 qV:=λb d q=>by rw[ew<|l7 q c];exact q
 pK:=λb u d q=>by rw[ew<|l7 q c];exact q
 si:=λb i q=>⟨#[],by rw[ew<|l7 q c,q];simp⟩
def Un.qM(c:wW (H x))(m:e=x\/H e=some (.be x))(k:∀b u,b≠e->h.get? b=some u->d.get? b=some u)(i:∃u,d.get? e=some u):Un p r H (bv H x o) h d:=by
 have g:∀b,H b=none->b≠x:=λb n z=>by subst z;rw[n] at c;exact c
 have j:∀b,H b=none->b≠e:=by grind
 have a:∀b u,H b=some u->¬wW (some u)->b≠x:=by grind
 refine⟨(by grind),λb u q n _ _=>⟨u.slots,k b u (j b n) q⟩,λb u q n _=>by rw[ew<|g b n];exact n,λb u q _=>?_,
  λb f q=>by rw[ew<|a b _ q λz=>z];exact q,λb u f q=>by rw[ew<|a b _ q λz=>z];exact q,λb l q=>⟨#[],by rw[ew<|a b _ q λz=>z,q];simp⟩⟩
 grind
def zS(h:aJ)(H:Hp):List aa:=(j4 h.objs.size).filter λa=>(H a).isSome
def pF(h:aJ)(H:Hp):aJ:=PySem.W.hideAll h<|zS h H
def Qr(h:aJ)(H:Hp):(pF h H).objs.size=h.objs.size:=PySem.W.hideAll_size _ _
def RO(e:h.get? b=some o)(n:H b=none):(pF h H).get? b=some o:=PySem.W.hideAll_get _ e λa=>by have q:(H b).isSome=true:=(oU.mp a).2;grind
def U6(e:(pF h H).get? b=some o):h.get? b=some o/\H b=none:=by
 have a:h.get? b=some o:=PySem.W.of_hideAll (zS h H) e;refine⟨a,?_⟩;cases q:H b with
 |none=>rfl
 |some x=>have c:b∈zS h H:=oU.mpr ⟨nZ.mpr<|cq a,by simp[q]⟩;have z:(pF h H).get? b=none:=PySem.W.hideAll_none (zS h H) c;grind
structure Mod(K:ax)(mg:ak->Option af)(ai:aJ):Prop where
 Af:K.In ai
 pG:ai.Ns iY mg
 uQ:∃mb,ai.Ns N1 mb/\∀x:ak,x≠"__name__"->mb x=tw x
 nolimit:ai.NoLimit
structure Cx where
 prog:a0
 w:aT
 K:ax
 mg:ak->Option af
 ai:aJ
 A:b8
 N:List ak
 ir:am
 wK:Hp
 ae:fA
 aR:List fA
 i6:List fA
 ex:List aa
 fn:ak->Bool
 cX:Bool
 pn:List (aa×bD)
 xe:af->am->Prop
def nE(l:List fA):List aa:=l.filterMap (·.frame)
abbrev Cx.fs(X:Cx):List aa:=nE X.aR
def oT(a:fQ)(x:ak):Prop:=a.names.lookup x=some .local\/a.names.lookup x=some .cell\/a.names.lookup x=some .free
def oO(a:fQ)(x:ak):Prop:=a.names.lookup x=some .local\/a.names.lookup x=some .cell
def YE(a:fA)(h:aJ)(m:ak->Option af)(x:ak)(u:af):Prop:=(a.kindOf x=some .local/\m x=some u)\/((a.kindOf x=some .cell\/a.kindOf x=some .free)/\∃c,a.cells.lookup x=some c/\h.IsCell c (some u))
structure Cx.Ok(X:Cx):Prop where
 mod:Mod X.K X.mg X.ai
 kind:X.ae.scope.kind=.function
 pG:X.ae.globals=iY
 uQ:X.ae.builtins=N1
 above:X.ir.heap.objs.size<=X.ae.locals
 inj:∀x y c,X.ae.cells.lookup x=some c->X.ae.cells.lookup y=some c->x=y
 jV:∀x,(X.ae.kindOf x=some .cell\/X.ae.kindOf x=some .free)->∃c,X.ae.cells.lookup x=some c
 wT:∀x c,X.fn x=true->X.ae.cells.lookup x=some c->X.ir.heap.objs.size<=c
 hd:X.cX=true->X.A.handled=none
 frames:X.A.frames=some X.i6
 zZ:X.i6=X.aR\/(X.i6=X.ae::X.aR/\X.ae.frame=some X.ae.locals)
 zT:∀b∈X.ex,b≠X.ae.locals/\∀x c,X.ae.cells.lookup x=some c->c≠b
 bs:∀b o,X.ai.get? b=some o->X.ir.heap.get? b=some o/\X.wK b=none
 pZ:X.ai.objs.size<=X.ir.heap.objs.size
 wu:∀b o,X.ai.get? b=some o->b∉X.ex
 wx:∀b∈X.ex,b∉X.fs
 mz:X.ir.heap.FunFrames X.ai X.aR
 sM:∀b∈X.fs,X.wK b=none
structure Inv(X:Cx)(pins:List (aa×bD))(σ:List (Option V))(H:Hp)(s:am):Prop where
 ok:X.Ok
 os:s.os=X.ir.os
 bare:vc s.gens
 ai:Un X.fs X.ex X.wK H X.ir.heap s.heap
 jW:∃m,s.heap.Ns X.ae.locals m/\∀(i:Nat)(x:ak)(v:V),X.N[i]?=some x->σ[i]?=some (some v)->oT X.ae.scope x->∃u,bM v u/\YE X.ae s.heap m x u
 cell:∀x c,X.ae.cells.lookup x=some c->∃v,s.heap.IsCell c v
 free:H X.ae.locals=none
 nl:∀x c,X.ae.cells.lookup x=some c->H c=none
 lJ:∀p∈X.pn++pins,s.heap.get? p.1=some p.2/\H p.1=none/\p.1≠X.ae.locals/\p.1∉X.fs/\∀v,p.2.data≠.cell v
 a_:ek X.prog X.w H s.heap
 aX:σ.length=X.N.length
def Cx.Ok.Y3{X:Cx}(a:X.Ok)(e:X.ai.get? b=some o):b∉X.fs:=λc=>by have:=(a.mz.mem c).1;grind
def Inv.bs(I:Inv X a c H s):∀b o,X.ai.get? b=some o->s.heap.get? b=some o/\H b=none:=λb o e=>
 ⟨I.ai.keep b o (I.ok.bs b o e).1 (I.ok.bs b o e).2 (I.ok.Y3 e) (I.ok.wu b o e),I.ai.free b o (I.ok.bs b o e).1 (I.ok.bs b o e).2 (I.ok.wu b o e)⟩
def Inv.bk(I:Inv X a c H s):∀b o,X.ai.get? b=some o->s.heap.get? b=some o:=λb o e=>(I.bs b o e).1
def Inv.mod(I:Inv X a b H s):Mod X.K X.mg X.ai:=I.ok.mod
def Inv.lN(I:Inv X a b H s):X.K.In s.heap:=I.ok.mod.Af.keeps I.bk
def Inv.lt(I:Inv X a c H s):X.ae.locals<s.heap.objs.size:=let⟨_,b,_⟩:=I.jW;b.lt
def Inv.sz(I:Inv X a b H s):X.ir.heap.objs.size<=s.heap.objs.size:=dY I.ok.above<|AK I.lt
def Inv.YH(I:Inv X b e H s)(h:s.heap.objs.size<=a):a∉X.fs:=λd=>by obtain⟨_,o,c,_⟩:=I.ok.mz.mem d;exact cy (jA (cq c)<|dY I.sz h)<|qf _
def Inv.sF(I:Inv X a f H s):∀x c,X.ae.cells.lookup x=some c->c≠X.ae.locals:=λx c e z=>by obtain⟨v,o,h,i⟩:=I.cell x c e;obtain⟨m,⟨g,j,k,b,d,_⟩,_⟩:=I.jW;grind
def Inv.mz(I:Inv X f u H s):s.heap.FunFrames X.ai X.aR:=by
 have d:∀(l:List fA),(∀b∈nE l,b∈X.fs)->X.ir.heap.FunFrames X.ai l->s.heap.FunFrames X.ai l:=by
  intro l;induction l with
  |nil=>intro _ _;trivial
  |cons t r i=>
   intro g n;obtain⟨p,⟨L,o,h,m,k,q⟩,j⟩:=n;have c:L∈X.fs:=g L<|by unfold nE;grind
   obtain⟨v,e⟩:=I.ai.kN L o k (I.ok.sM L c) c λz=>I.ok.wx L z c;exact⟨p,⟨L,_,h,m,e,q⟩,i (λb a=>g b<|by unfold nE;rw[Ex,h];exact e8 _ a) j⟩
 exact d X.aR (λ_ a=>a) I.ok.mz
def Inv.i6(I:Inv X a d H s):s.heap.FunFrames X.ai X.i6:=by
 rcases I.ok.zZ with e|⟨e,c⟩;·rw[e];exact I.mz
 ·rw[e];obtain⟨m,b,_⟩:=I.jW;refine .cons (by rw[I.ok.kind];decide) c b ?_ I.mz;exact Heap.get?_none_of_le<|dY I.ok.pZ I.ok.above
def Inv.Dl(I:Inv X c f H s):∀b∈nE X.i6,b∈X.ae.locals::X.fs:=λb a=>by
 rcases I.ok.zZ with e|⟨e,d⟩;·grind
 ·rw[e] at a;unfold nE at a;rw[Ex,d] at a;exact a
def Inv.Jp(I:Inv X c f H s):∀b∈nE X.i6,H b=none:=λb a=>by
 rcases cO.mp (I.Dl b a) with e|a;·rw[e];exact I.free
 ·obtain⟨_,o,d,_⟩:=I.ok.mz.mem a;exact I.ai.free b o d (I.ok.sM b a) λz=>I.ok.wx b z a
def Inv.step{X:Cx}{f:List (aa×bD)}{σ:List (Option V)}{H:Hp}{E:Hp}{s:am}{A:aJ}{g':Array GenState}{t':Nat}{d':Drawn}{ch:List aa}(I:Inv X f σ H s)
 (O:∀b∈ch,(b∈X.ex\/X.ir.heap.objs.size<=b)/\b≠X.ae.locals/\(∀x c,X.ae.cells.lookup x=some c->c≠b)/\∀p∈X.pn++f,p.1≠b)
 (j:∀b o,b≠X.ae.locals->b∉X.fs->b∉ch->s.heap.get? b=some o->H b=none->A.get? b=some o)
 (h:∀b o,b≠X.ae.locals->b∈X.fs->b∉ch->s.heap.get? b=some o->H b=none->∃Y,A.get? b=some { o with slots:=Y})(free:∀b o,b∉ch->s.heap.get? b=some o->H b=none->E b=none)
 (T:∀b o,b∉ch->s.heap.get? b=some o->∃S,A.get? b=some S)
 (J:∀b g,H b=some (.a9 g)->E b=some (.a9 g))(Q:∀b o u,H b=some (.kr o u)->E b=some (.kr o u))(c':∀b R,H b=some (.sL R)->∃N,E b=some (.sL (R++N)))
 (ns:∀m,s.heap.Ns X.ae.locals m->A.Ns X.ae.locals m)(Z:ek X.prog X.w E A)(hg:vc g'):
 Inv X f σ E { s with heap:=A,gens:=g',drawn:=d',toks:=t'}:=by
 have L:∀b o,X.ir.heap.get? b=some o->b≠X.ae.locals:=λb o e=>fg<|jA (cq e) I.ok.above;have t:∀b o,X.ir.heap.get? b=some o->b∉X.ex->b∉ch:=λb o e a y=>by
  rcases(O b y).1 with z|z;·grind
  ·exact cy (jA (cq e) z)<|qf _
 have C:∀x c,X.ae.cells.lookup x=some c->∀v,s.heap.IsCell c v->A.IsCell c v:=λx c e v⟨o,D,hd⟩=>by
  have M:c∉ch:=by grind
  by_cases hc:c∈X.fs
  ·obtain⟨Y,q⟩:=h c o (I.sF x c e) hc M D<|I.nl x c e;exact⟨_,q,hd⟩
  ·exact⟨o,j c o (I.sF x c e) hc M D<|I.nl x c e,hd⟩
 refine⟨I.ok,I.os,hg,⟨λb o e n y a=>?_,λb o e n y a=>?_,λb o e n a=>?_,λb o e a=>?_,λb g e=>J b g<|I.ai.qV b g e,λb o g e=>Q b o g<|I.ai.pK b o g e,λb R e=>?_⟩,?_,λx c e=>?_,?_,λx c e=>?_,λp hp=>?_,Z,I.aX⟩;·exact j b o (L b o e) y (t b o e a) (I.ai.keep b o e n y a)<|I.ai.free b o e n a
 ·obtain⟨Y,B⟩:=I.ai.kN b o e n y a;obtain⟨i',e2⟩:=h b _ (L b o e) y (t b o e a) B<|I.ai.free b o e n a;grind
 ·obtain⟨S,B⟩:=I.ai.there b o e a;exact free b S (t b o e a) B<|I.ai.free b o e n a
 ·obtain⟨S,B⟩:=I.ai.there b o e a;grind
 ·obtain⟨m1,B⟩:=I.ai.si b R e;grind
 ·obtain⟨m,hn,hl⟩:=I.jW;refine⟨m,ns m hn,λi x v B e2 e3=>?_⟩;obtain⟨u,r,l⟩:=hl i x v B e2 e3;refine⟨u,r,?_⟩;rcases l with l|⟨k,c,e,z⟩;·exact .inl l
  ·exact .inr ⟨k,c,e,C x c e _ z⟩
 ·obtain⟨v,z⟩:=I.cell x c e;grind
 ·obtain⟨m,⟨o,_,_,D,_⟩,_⟩:=I.jW;exact free _ o (λz=>(O _ z).2.1 rfl) D I.free
 ·obtain⟨v,o,D,hd⟩:=I.cell x c e;exact free c o (by grind) D<|I.nl x c e
 ·obtain⟨e,n,ne,nf,d⟩:=I.lJ p hp;grind
def Inv.un(I:Inv X a p H s)(u:Un X.fs [] H l s.heap h')(d:ek X.prog X.w l h'):Inv X a p l { s with heap:=h',toks:=t'}:=by
 obtain⟨m,⟨o,C,D,j,r⟩,_⟩:=id I.jW;obtain⟨x,v⟩:=u.any j I.free<|by simp
 exact I.step (g':=s.gens) (d':=s.drawn) (ch:=[]) (λ_ z=>nomatch z) (λb o _ f _ e n=>u.keep b o e n f<|by simp) (λb o _ f _ e n=>u.kN b o e n f<|by simp) (λb o _ e n=>u.free b o e n<|by simp) (λb o _ e=>u.there b o e<|by simp) u.qV u.pK u.si (λA t=>by obtain⟨y,g,h,c,q⟩:=t;rw[j] at c;cases c;exact⟨_,g,h,v,q⟩) d I.bare
def Inv.call(I:Inv X a B H s)(u:Un (nE X.i6) ch H A s.heap h')(h:ek X.prog X.w A h')(E:vc g')(g:∀b∈ch,(b∈X.ex\/X.ir.heap.objs.size<=b)/\b≠X.ae.locals/\(∀x c,X.ae.cells.lookup x=some c->c≠b)/\∀p∈X.pn++a,p.1≠b):
 Inv X a B A { s with heap:=h',gens:=g',drawn:=d',toks:=t'}:=by
 obtain⟨m,⟨o,O,Q,t,r⟩,_⟩:=id I.jW;obtain⟨L,i⟩:=u.any t I.free λz=>(g _ z).2.1 rfl;exact I.step (ch:=ch) g (λb o i J d e n=>u.keep b o e n (λz=>(cO.mp<|I.Dl b z).elim i J) d) (λb o _ _ d e n=>u.any e n d) (λb o d e n=>u.free b o e n d) (λb o d e=>u.there b o e d) u.qV u.pK u.si (λN D=>by obtain⟨M,j,k,f,C⟩:=D;rw[t] at f;cases f;exact⟨_,j,k,i,C⟩) h E
def Inv.kG(I:Inv X a i H s)(k:∀b o,b≠d->s.heap.get? b=some o->y.get? b=some o)(D:H d=none)(w:d≠X.ae.locals)(M:d∈X.ex\/X.ir.heap.objs.size<=d)(L:∀x c,X.ae.cells.lookup x=some c->c≠d)(J:∀p∈X.pn++a,p.1≠d):Inv X a i H { s with heap:=y,toks:=t'}:=by
 have j:∀b u,H b=some u->b≠d:=by grind
 refine I.step (g':=s.gens) (d':=s.drawn) (ch:=[d]) (λb E=>?_) (by grind) (λb o _ _ f e _=>⟨o.slots,k b o (λz=>f<|by simp[z]) e⟩) (λ_ _ _ _ n=>n)
  (λb o f e=>⟨o,k b o (λz=>f<|by simp[z]) e⟩) (λ_ _ e=>e) (λ_ _ _ e=>e) (λb C e=>⟨#[],by grind⟩) (λm t=>?_) (λb u e=>?_) I.bare
 ·grind
 ·obtain⟨o,A,B,l,r⟩:=t;exact⟨o,A,B,k _ o (ci w) l,r⟩
 ·refine(I.a_ b u e).qY (λc v f q=>k c v ?_ q) (λ_ q=>q) λ_ _ q=>q;grind
def Inv.jb(I:Inv X a c H s)(t:Nat):Inv X a c H { s with toks:=t}:=I.un (h':=s.heap) (t':=t) Un.refl I.a_
def Inv.eN(I:Inv X a e H s)(k:∀b u,s.heap.get? b=some u->f.get? b=some u):Inv X a e H { s with heap:=f,toks:=t'}:=I.un (Un.eN k)<|I.a_.eN k
def Inv.ij(I:Inv X c h H s)(k:∀b u,s.heap.get? b=some u->h'.get? b=some u)(e:s.heap.objs.size<=a)(d:eA X.prog X.w (bv H a o) h' a o):
 Inv X c h (bv H a o) { s with heap:=h',toks:=t'}:=I.un (Un.ij k e<|I.a_.fresh e)<|I.a_.ij k e d
def Inv.qM(I:Inv X a l H s)(h:wW (H x))(j:e=x\/H e=some (.be x))(k:∀b u,b≠e->s.heap.get? b=some u->f.get? b=some u)(c:∃u,f.get? e=some u)(d:eA X.prog X.w (bv H x o) f x o):Inv X a l (bv H x o) { s with heap:=f,toks:=t'}:=I.un (Un.qM h j k c)<|I.a_.qM h j k c d
def Inv.aN(I:Inv X b d H s)(f:a.length=d.length)(w:∀(i:Nat)v,a[i]?=some (some v)->d[i]?=some (some v)):Inv X b a H s:=⟨I.ok,I.os,I.bare,I.ai,let⟨m,e,c⟩:=I.jW;⟨m,e,λi x v j h g=>c i x v j (w i v h) g⟩,I.cell,I.free,I.nl,I.lJ,I.a_,f.trans I.aX⟩
def Inv.IU(I:Inv X b c H s)(h:∀p∈a,s.heap.get? p.1=some p.2/\H p.1=none/\p.1≠X.ae.locals/\p.1∉X.fs/\∀v,p.2.data≠.cell v):Inv X a c H s:=⟨I.ok,I.os,I.bare,I.ai,I.jW,I.cell,I.free,I.nl,λp d=>(eI.mp d).elim (λz=>I.lJ p<|w_ _ z)<|h p,I.a_,I.aX⟩
def BW{N:List ak}(c:N.Nodup){i:Nat}(a:N[i]?=some x)(b:N[j]?=some x):i=j:=by obtain⟨g,e⟩:=gD.mp a;obtain⟨f,d⟩:=gD.mp b;exact(Nn c).mp<|e.trans d.symm
def Hh(I:Inv X U σ H s)(hN:X.N.Nodup)(hi:X.N[i]?=some x)(t:oO X.ae.scope x)(r:bM v u)(h:∀s',Inv X U (σ.set i (some v)) H s'->(∃a,oa a s.heap s'.heap/\(a=X.ae.locals\/X.ae.cells.lookup x=some a))->Q () s')(hf:X.fn x=true\/X.ae.scope.names.lookup x=some .local:=by first|exact .inl rfl|exact .inr rfl|assumption):aw M A (N4 X.ae x u) Q E s:=by
 obtain⟨m,hn,hl⟩:=id I.jW;have Y:(X.ae.scope.kind== .class||(X.ae.scope.kind== .module&&X.ae.locals != X.ae.globals))=false:=by rw[I.ok.kind];rfl
 have D:i<σ.length:=by rw[I.aX];grind
 have R:=I.sF;have g:∀{a:aa}{T:aJ},(∃o,s.heap.get? a=some o/\H a=none)->oa a s.heap T->ek X.prog X.w H T:=λ{a T}ha f b ob e=>by obtain⟨_,_,e'⟩:=ha;refine(I.a_ b ob e).qY (λc w' B q=>(f.2 c ?_).trans q) (λ_ q=>q) λ_ _ q=>q;grind
 rcases t with S|S
 ·refine wpAny_storeName_local S hn (λT d' f=>?_) Y;obtain⟨oL,_,_,b',_⟩:=id hn;refine h _ ⟨I.ok,I.os,I.bare,⟨λb o e n O t=>?_,λb o e n O t=>?_,I.ai.free,λb o e t=>?_,I.ai.qV,I.ai.pK,I.ai.si⟩,⟨_,d',λj y v' l C e3=>?_⟩,λy c e=>?_,I.free,I.nl,λp hp=>?_,g ⟨oL,b',I.free⟩ f,by simpa using I.aX⟩ ⟨_,f,.inl rfl⟩;·exact(f.2 b<|fg<|jA (cq e) I.ok.above).trans<|I.ai.keep b o e n O t
  ·obtain⟨sl,l⟩:=I.ai.kN b o e n O t;exact⟨sl,(f.2 b<|fg<|jA (cq e) I.ok.above).trans l⟩
  ·obtain⟨o',l⟩:=I.ai.there b o e t;exact⟨o',(f.2 b<|fg<|jA (cq e) I.ok.above).trans l⟩
  ·by_cases J:j=i
   ·subst J;rw[hi] at l;cases l;rw[aaL D] at C;cases C;exact⟨u,r,.inl ⟨S,by simp⟩⟩
   ·rw[MU<|ci J] at C;obtain⟨u',r',q⟩:=hl j y v' l C e3;refine⟨u',r',?_⟩;rcases q with⟨k,e⟩|⟨k,c,e,z⟩
    ·refine .inl ⟨k,?_⟩;have:y≠x:=λe=>J<|BW hN l<|e▸hi;grind
    ·exact .inr ⟨k,c,e,z.sameBut f<|R y c e⟩
  ·obtain⟨w',z⟩:=I.cell y c e;exact⟨w',z.sameBut f<|R y c e⟩
  ·obtain⟨e,n,Z,nf,d⟩:=I.lJ p hp;exact⟨(f.2 p.1 Z).trans e,n,Z,nf,d⟩
 ·have L:X.fn x=true:=by grind
  obtain⟨c,B⟩:=I.ok.jV x<|.inl S;obtain⟨w',z⟩:=I.cell x c B;refine wpAny_storeName_cell I.ok.kind S B z λT g' f=>?_;obtain⟨oc,a',i'⟩:=id z;refine h { s with heap:=T} ⟨I.ok,I.os,I.bare,⟨λb o e n O t=>?_,λb o e n O t=>?_,I.ai.free,λb o e t=>?_,I.ai.qV,I.ai.pK,I.ai.si⟩,⟨m,hn.sameBut f<|ci<|R x c B,λj y v' l C e3=>?_⟩,λy c' e=>?_,I.free,I.nl,λp hp=>?_,g ⟨oc,a',I.nl x c B⟩ f,by simpa using I.aX⟩ ⟨c,f,.inr B⟩;·exact(f.2 b<|fg<|jA (cq e)<|I.ok.wT x c L B).trans<|I.ai.keep b o e n O t
  ·obtain⟨sl,l⟩:=I.ai.kN b o e n O t;exact⟨sl,(f.2 b<|fg<|jA (cq e)<|I.ok.wT x c L B).trans l⟩
  ·obtain⟨o',l⟩:=I.ai.there b o e t;exact⟨o',(f.2 b<|fg<|jA (cq e)<|I.ok.wT x c L B).trans l⟩
  ·by_cases J:j=i
   ·subst J;rw[hi] at l;cases l;rw[aaL D] at C;cases C;exact⟨u,r,.inr ⟨.inl S,c,B,g'⟩⟩
   ·rw[MU<|ci J] at C;obtain⟨u',r',q⟩:=hl j y v' l C e3;refine⟨u',r',?_⟩;rcases q with q|⟨k,c',e,z'⟩;·exact .inl q
    ·refine .inr ⟨k,c',e,z'.sameBut f ?_⟩;rintro rfl;exact J<|BW hN l<|I.ok.inj _ _ _ e B▸hi
  ·by_cases f':c'=c;·grind
   ·obtain⟨w2,z2⟩:=I.cell y c' e;exact⟨w2,z2.sameBut f f'⟩
  ·obtain⟨e,n,Z,nf,d⟩:=I.lJ p hp;refine⟨(f.2 p.1 ?_).trans e,n,Z,nf,d⟩;grind
def B0(I:Inv X a c H s)(g:X.N.Nodup)(e:X.N[i]?=some x)(d:oO X.ae.scope x)(r:bM v u)(h:∀b,Inv X a (c.set i (some v)) H b->Q () b)(f:X.fn x=true\/X.ae.scope.names.lookup x=some .local:=by first|exact .inl rfl|exact .inr rfl|assumption):aw M A (N4 X.ae x u) Q E s:=Hh I g e d r (λb j _=>h b j) f
def Inv.XJ(I:Inv X a l H s)(n:d.os=s.os)(u:Un (nE X.i6) ch H k s.heap d.heap)(f:ek X.prog X.w k d.heap)(o:vc d.gens)(g:∀b∈ch,(b∈X.ex\/X.ir.heap.objs.size<=b)/\b≠X.ae.locals/\(∀x c,X.ae.cells.lookup x=some c->c≠b)/\∀p∈X.pn++a,p.1≠b):Inv X a l k d:=by obtain⟨q,i,j,h,m⟩:=d;have e:m=s.os:=n;subst e;exact I.call (g':=i) (t':=h) (d':=j) u f o g
abbrev XK:=af->Option aa->Hp->Prop
abbrev St:=List<|Option V
abbrev VK:=V->Hp->Prop
abbrev TE:=St->Hp->VK->Prop
abbrev TT:=St->Hp->(Bool->Hp->Prop)->Prop
abbrev TA:=St->Hp->(List V->Hp->Prop)->Prop
structure ww where
 nx:St->Hp->Prop
 rt:VK
 bk:St->Hp->Prop:=λ_ _=>False
 ct:St->Hp->Prop:=λ_ _=>False
abbrev TS:=ww->St->Hp->Prop
def EP(X:Cx)(a:List (aa×bD))(c:St)(Q:VK)(u:af)(d:am):Prop:=∃v b,Inv X a c b d/\bM v u/\Q v b
def TP(X:Cx)(a:List (aa×bD))(d:St)(Q:Bool->Hp->Prop)(b:Bool)(e:am):Prop:=∃c,Inv X a d c e/\Q b c
def AP(X:Cx)(a:List (aa×bD))(d:St)(Q:List V->Hp->Prop)(e:List af)(f:am):Prop:=∃b c,Inv X a d c f/\bF b e/\Q b c
def SP(X:Cx)(b:List (aa×bD))(D:ww)(f:Flow)(d:am):Prop:=
 match f with
 |.next=>∃a c,Inv X b a c d/\D.nx a c
 |.brk=>∃a c,Inv X b a c d/\D.bk a c
 |.cont=>∃a c,Inv X b a c d/\D.ct a c
 |.ret u=>∃v a c,Inv X b a c d/\bM v u/\D.rt v c
def PE(X:Cx)(e:az)(t:TE):Prop:=∀(a:List (aa×bD))(s:am)(b:St)(H:Hp)(Q:VK),Inv X a b H s->t b H Q->aw (aH X.prog X.w) X.A (aO e X.ae) (EP X a b Q) X.xe s
def PT(X:Cx)(e:az)(t:TT):Prop:=∀(a:List (aa×bD))(s:am)(b:St)(H:Hp)(Q:Bool->Hp->Prop),Inv X a b H s->t b H Q->aw (aH X.prog X.w) X.A (xB e X.ae (aO e X.ae)) (TP X a b Q) X.xe s
def PW(X:Cx)(e:az)(t:TT):Prop:=∀(b:Sem af)(a:List (aa×bD))(s:am)(c:St)(H:Hp)(Q:Bool->Hp->Prop),Inv X a c H s->t c H Q->aw (aH X.prog X.w) X.A (xB e X.ae b) (TP X a c Q) X.xe s
def PW.pt(h:PW X e t):PT X e t:=h _
def PA(X:Cx)(d:List az)(t:TA):Prop:=∀(c:bf)(a:List (aa×bD))(s:am)(b:St)(H:Hp)(Q:List V->Hp->Prop),Inv X a b H s->t b H Q->aw (aH X.prog X.w) X.A (spliced (eK c (aB d X.ae))) (AP X a b Q) X.xe s
def PS(X:Cx)(st:cv)(t:TS):Prop:=∀(a:List (aa×bD))(s:am)(b:St)(H:Hp)(D:ww),Inv X a b H s->t D b H->aw (aH X.prog X.w) X.A (exec st X.ae) (SP X a D) X.xe s
def dr(X:Cx)(st:List cv)(t:TS):Prop:=∀(a:List (aa×bD))(s:am)(b:St)(H:Hp)(D:ww),Inv X a b H s->t D b H->aw (aH X.prog X.w) X.A (execs st X.ae) (SP X a D) X.xe s
def bH(h:aw M A t Q E s)(b:∀a s,Q a s->c a s):aw M A t c E s:=mT h b λ_ _ x=>x
def Y2(i:Nat):TE:=λa H Q=>∃v,a[i]?=some (some v)/\Q v H
def tC(v:V):TE:=λ_ H Q=>Q v H
def V6(y:X.N[i]?=some x)(p:oT X.ae.scope x)(g:(x==("__debug__":ak))=false:=by decide)(j:(x==("__classdict__":ak))=false:=by decide):PE X (.Name x o) (Y2 i):=by
 intro f s n H Q I h;obtain⟨v,e,h⟩:=h;obtain⟨m,q,w⟩:=I.jW;obtain⟨u,r,l⟩:=w i x v y e p;have d:EP X f n Q u s:=⟨v,H,I,r,h⟩
 rcases l with⟨b,t⟩|⟨b,c,k,a⟩;·exact NY (abO I.ok.kind b q t d) g
 ·rcases b with b|b;·exact NY (abV I.ok.kind b k a d) g
  ·exact NY (wpAny_loadName_free I.ok.kind b k a d j) g
def Wl{i j a}:PE X (.Constant (.int i) j a) (tC<|.int i):=λ_ _ _ H _ I h=>wpAny_Constant_int ⟨.int i,H,I.jb _,⟨_,rfl⟩,h⟩
def Yi{b j a}:PE X (.Constant (.bool b) j a) (tC<|.bl b):=λ_ _ _ H _ I h=>Constant_bool ⟨.bl b,H,I,rfl,h⟩
def VY{j a}:PE X (.Constant .none j a) (tC .aS):=λ_ _ _ H _ I h=>Constant_none ⟨.aS,H,I,rfl,h⟩
def Gl(X:Cx)(x:ak):Prop:=X.ae.kindOf x=some .globalImplicit
def yM(I:Inv X a f H s)(d:Gl X x)(c:X.mg x=some u)(h:Q u s)(e:(x==("__debug__":ak))=false:=by decide):aw (aH X.prog X.w) X.A (aO (.Name x b) X.ae) Q E s:=aag I.ok.kind d (Calls.loadGlobal_global (by rw[I.ok.pG];exact I.mod.pG.keeps I.bk) c h) e
def lu(I:Inv X a k H s)(f:Gl X x)(e:X.mg x=none)(c:tw x=some u)(h:Q u s)(d:x≠"__name__":=by decide)(g:(x==("__debug__":ak))=false:=by decide):aw (aH X.prog X.w) X.A (aO (.Name x b) X.ae) Q E s:=by obtain⟨l,j,i⟩:=I.mod.uQ;exact aag I.ok.kind f (Calls.loadGlobal_builtin (by rw[I.ok.pG];exact I.mod.pG.keeps I.bk) e (by rw[I.ok.uQ];exact j.keeps I.bk) ((i x d).trans c) h) g
def Ct(c:Gl X x)(b:X.mg x=some u)(r:bM v u)(d:(x==("__debug__":ak))=false:=by decide):PE X (.Name x a) (tC v):=λ_ _ _ H _ I h=>yM I c b ⟨v,H,I,r,h⟩ d
def PC(X:Cx)(g:jH)(a b:az)(t:TE):Prop:=
 ∀(c:List (aa×bD))(s:am)(f:St)(H:Hp)(Q:VK),Inv X c f H s->t f H Q->
  aw (aH X.prog X.w) X.A (aO a X.ae) (λv e=>aw (aH X.prog X.w) X.A (aO b X.ae) (λu d=>aw (aH X.prog X.w) X.A (gw g v u) (EP X c f Q) X.xe d) X.xe e) X.xe s
def B3(b:az)(h:a≠.In)(e:a≠.NotIn):mN a b=false:=by
 have d:(a==CmpOp.In)=false:=by grind
 have c:(a==acx)=false:=by grind
 cases b<;>simp[mN,d,c]
def YC(b:TE):TE:=λa H Q=>b a H λx c=>Q (.bl<|decide<|x=.aS) c
def bM.Ss(r:bM x v):(v==tD)=decide (x=.aS):=by
 cases x with
 |aS=>cases r;rfl
 |bl _=>cases r;rfl
 |int _=>obtain⟨t,rfl⟩:=r;rfl
 |str _=>obtain⟨t,rfl⟩:=r;rfl
 |jx _=>obtain⟨t,rfl⟩:=r;rfl
 |wY _=>obtain⟨t,rfl⟩:=r;rfl
 |ref _=>cases r;rfl
 |ty _=>cases r;rfl
def C9{j b}(i:PE X a e):PC X .Is a (.Constant .none j b) (YC e):=by intro c s d H Q I h;refine bH (i c s d H _ I h) λv m⟨x,l,k,f,g⟩=>?_;exact Constant_none<|is_none_gen ⟨.bl _,l,k,by rw[f.Ss];rfl,g⟩
def tB(t:TE):TT:=λa H Q=>t a H λx b=>∃c,x=.bl c/\Q c b
def Xg(h:PC X d a b t)(g:mN d b=false:=by first|exact B3 _ (by decide) (by decide)|rfl):PE X (.Compare a [d] [b] f) t:=λc s e H Q I hw=>wpAny_Compare1 (h c s e H Q I hw) g
def KN(h:PC X g a b t)(f:mN g b=false:=by first|exact B3 _ (by decide) (by decide)|rfl):PT X (.Compare a [g] [b] l) (tB t):=by intro e s i H Q I hw;refine abE (bH (h e s i H _ I hw) λv w f=>bH f λu r m=>bH m λc p⟨x,o,n,j,k⟩=>?_) f;obtain⟨d,rfl,q⟩:=k;cases j;exact p8 ⟨o,n,q⟩
def Wt(h:PE X e t)(i:∀a,xB e X.ae a=(do let v <-a;standAt e.pos;Fj [v] (truthy v)):=by intro _;rfl):PT X e (tB t):=by intro b s c H Q I hw;refine isTrue_plain (bH (h b s c H _ I hw) λv l⟨x,k,j,f,g⟩=>?_)<|i _;obtain⟨d,rfl,q⟩:=g;cases f;exact p8 ⟨k,j,q⟩
def YG(t u:TT):TT:=λa H Q=>t a H λc b=>if c=true then u a b Q else Q false b
def ZC(t u:TT):TT:=λa H Q=>t a H λc b=>if c=true then Q true b else u a b Q
def YI(t:TT):TT:=λa H Q=>t a H λc b=>Q (!c) b
def Ul(i:PT X a f):PW X (.BoolOp .And [a] g) f:=by
 intro j b s d H Q I h;refine isTrue_and<|bH (i b s d H Q I h) λc k e=>?_;cases c with
 |true=>exact isTrue_and_nil e
 |false=>exact e
def WP(i:PT X a f):PW X (.BoolOp .Or [a] g) f:=by
 intro j b s d H Q I h;refine isTrue_or<|bH (i b s d H Q I h) λc k e=>?_;cases c with
 |false=>exact isTrue_or_nil e
 |true=>exact e
def J2(q:PT X a n)(p:PW X (.BoolOp .And (b::d) g) f):PW X (.BoolOp .And (a::b::d) g) (YG n f):=by
 intro m e s i H Q I h;refine isTrue_and<|bH (q e s i H _ I h) λc o⟨l,k,j⟩=>?_;cases c with
 |true=>exact p m e o i l Q k j
 |false=>exact⟨l,k,j⟩
def Ly(q:PT X a n)(p:PW X (.BoolOp .Or (b::d) g) f):PW X (.BoolOp .Or (a::b::d) g) (ZC n f):=by
 intro m e s i H Q I h;refine isTrue_or<|bH (q e s i H _ I h) λc o⟨l,k,j⟩=>?_;cases c with
 |true=>exact⟨l,k,j⟩
 |false=>exact p m e o i l Q k j
def WZ(g:PT X a e):PT X (.UnaryOp .Not a f) (YI e):=by intro b s d H Q I h;exact isTrue_not<|g b s d H (λc i=>Q (!c) i) I h
def XB(e d:TE):TE:=λa H Q=>e a H λx b=>∃c,x=.bl c/\if c=true then d a b Q else Q (.bl false) b
def Zf(e d:TE):TE:=λa H Q=>e a H λx b=>∃c,x=.bl c/\if c=true then Q (.bl true) b else d a b Q
def XZ(b:TE):TE:=λa H Q=>b a H λx d=>∃c,x=.bl c/\Q (.bl (!c)) d
def WQ{e}(h:PE X a t):PE X (.BoolOp e [a] d) t:=λb s c H Q I hw=>BoolOp_one<|h b s c H Q I hw
def KG(q:PE X a m)(p:PE X (.BoolOp .And (b::d) g) l):PE X (.BoolOp .And (a::b::d) g) (XB m l):=by
 intro e s i H Q I h;refine BoolOp_and<|bH (q e s i H _ I h) λv n⟨x,k,j,o,f⟩=>?_;obtain⟨c,rfl,f⟩:=f;cases o;refine p8 ?_;cases c with
 |true=>exact p e n i k Q j f
 |false=>exact⟨.bl false,k,j,rfl,f⟩
def LC(q:PE X a m)(p:PE X (.BoolOp .Or (b::d) g) l):PE X (.BoolOp .Or (a::b::d) g) (Zf m l):=by
 intro e s i H Q I h;refine BoolOp_or<|bH (q e s i H _ I h) λv n⟨x,k,j,o,f⟩=>?_;obtain⟨c,rfl,f⟩:=f;cases o;refine p8 ?_;cases c with
 |false=>exact p e n i k Q j f
 |true=>exact⟨.bl true,k,j,rfl,f⟩
def W2(j:PE X a f):PE X (.UnaryOp .Not a i) (XZ f):=by intro b s e H Q I h;refine UnaryOp_<|bH (j b s e H _ I h) λv m⟨x,l,k,g,d⟩=>?_;obtain⟨c,rfl,d⟩:=d;cases g;exact not_of<|p8 ⟨.bl<|!c,l,k,rfl,d⟩
def Zv(t:TT)(e d:TE):TE:=λa H Q=>t a H λc b=>if c=true then e a b Q else d a b Q
def H0(p:PT X c n)(r:PE X a m)(q:PE X b l):PE X (.IfExp c a b o) (Zv n m l):=by
 intro e s f H Q I h;refine wpAny_IfExp<|bH (p e s f H _ I h) λd g⟨k,j,i⟩=>?_;cases d with
 |true=>exact r e g f k Q j i
 |false=>exact q e g f k Q j i
def bi(K:ax)(H:Hp)(a:aa)(c:List V):Prop:=
 Rd H a (.aq c)\/
  ∃(o:bD)(b:Array af)(n:Nat),K.lookup a=some o/\o.cls=.type "list"/\o.dict=none/\o.data=.seq b n/\b.size<=bx/\bF c b.toList
def cV(K:ax)(H:Hp)(a:aa)(c:List V):Prop:=
 Rd H a (.a9 c)\/
  ∃(o:bD)(b:Array af)(n:Nat),K.lookup a=some o/\o.cls=.type "tuple"/\o.data=.seq b n/\b.size<=bx/\bF c b.toList
def Za:af->Option V
 |.none=>some .aS
 |.bool b=>some<|.bl b
 |.int i _=>some<|.int i
 |.str x _=>some<|.str x
 |.bytes b _=>some<|.jx b
 |.float b _=>some<|.wY b
 |.ref a=>some<|.ref a
 |.type n=>some<|.ty n
 |_=>none
def bM.Mc(r:bM x u):Za u=some x:=by
 cases x with
 |aS=>cases r;rfl
 |bl _=>cases r;rfl
 |int _=>obtain⟨t,rfl⟩:=r;rfl
 |str _=>obtain⟨t,rfl⟩:=r;rfl
 |jx _=>obtain⟨t,rfl⟩:=r;rfl
 |wY _=>obtain⟨t,rfl⟩:=r;rfl
 |ref _=>cases r;rfl
 |ty _=>cases r;rfl
def bM.inj(r:bM x u)(q:bM y u):x=y:=ta<|r.Mc.symm.trans q.Mc
def bF.inj:∀{b a:List V}{c:List af},bF b c->bF a c->b=a
 |_,_,_,.nil,.nil=>rfl
 |_,_,_,.cons r t,.cons e d=>by rw[r.inj e,bF.inj t d]
def bi.of(h:H a=some (.aq c)):bi b H a c:=.inl<|.inl h
def cV.of(h:H a=some (.a9 c)):cV b H a c:=.inl<|.inl h
def Inv.list(I:Inv X d j H s)(h:bi X.K H a c):∃b:List af,bF c b/\PlainL s.heap a b.toArray/\c.length<=bx:=by
 rcases h with h|⟨o,b,n,f,i,g,l,k,r⟩
 ·obtain⟨z,b,n,r,e⟩:=h.ok I.a_;exact⟨b,r,⟨_,n,e,rfl,rfl,rfl⟩,z⟩
 ·refine⟨b.toList,r,⟨o,n,I.lN a o f,i,g,by omega⟩,?_⟩;have e:=r.length;grind
def Inv.tuple(I:Inv X d i H s)(h:cV X.K H a c):∃b:List af,bF c b/\vf s.heap a b.toArray/\c.length<=bx:=by
 rcases h with h|⟨o,b,n,f,g,k,j,r⟩
 ·obtain⟨z,b,r,p⟩:=h.ok I.a_;grind
 ·refine⟨b.toList,r,⟨o,I.lN a o f,g,n,by omega⟩,?_⟩;have e:=r.length;grind
def Inv.vx(I:Inv X f p H s)(h:bi X.K H a k)(m:bi X.K H a j):k=j:=by
 obtain⟨c,r,⟨o,n,e,_,_,d⟩,_⟩:=I.list h;obtain⟨b,l,⟨q,t,g,_,_,i⟩,_⟩:=I.list m;rw[e] at g;cases g;rw[d] at i;injection i with u _;have:c=b:=by grind
 subst this;exact r.inj l
def Inv.QC(I:Inv X f p H s)(h:cV X.K H a k)(m:cV X.K H a j):k=j:=by
 obtain⟨c,r,⟨o,e,_,n,d⟩,_⟩:=I.tuple h;obtain⟨b,l,⟨q,g,_,t,i⟩,_⟩:=I.tuple m;rw[e] at g;cases g;rw[d] at i;injection i with u _;have:c=b:=by grind
 subst this;exact r.inj l
abbrev Cx.oI(X:Cx)(E:af->am->Prop):Cx:={ X with xe:=E}
abbrev Cx.oM(X:Cx):Cx:=X.oI λ_ _=>False
def Cx.Ok.oI{X:Cx}(a:X.Ok)(E:af->am->Prop):(X.oI E).Ok:=⟨a.mod,a.kind,a.pG,a.uQ,a.above,a.inj,a.jV,a.wT,a.hd,a.frames,a.zZ,a.zT,a.bs,a.pZ,a.wu,a.wx,a.mz,a.sM⟩
def Cx.Ok.qI{X:Cx}(a:(X.oI E).Ok):X.Ok:=⟨a.mod,a.kind,a.pG,a.uQ,a.above,a.inj,a.jV,a.wT,a.hd,a.frames,a.zZ,a.zT,a.bs,a.pZ,a.wu,a.wx,a.mz,a.sM⟩
def Inv.oI(I:Inv X a b H s)(E:af->am->Prop):Inv (X.oI E) a b H s:=⟨I.ok.oI E,I.os,I.bare,I.ai,I.jW,I.cell,I.free,I.nl,I.lJ,I.a_,I.aX⟩
def Inv.qI(I:Inv (X.oI E) a b H s):Inv X a b H s:=⟨I.ok.qI,I.os,I.bare,I.ai,I.jW,I.cell,I.free,I.nl,I.lJ,I.a_,I.aX⟩
def SP.qI(h:SP (X.oI E) c D f d):SP X c D f d:=by
 cases f with
 |next=>obtain⟨a,b,I,q⟩:=h;exact⟨a,b,I.qI,q⟩
 |brk=>obtain⟨a,b,I,q⟩:=h;exact⟨a,b,I.qI,q⟩
 |cont=>obtain⟨a,b,I,q⟩:=h;exact⟨a,b,I.qI,q⟩
 |ret u=>obtain⟨v,a,b,I,r,q⟩:=h;exact⟨v,a,b,I.qI,r,q⟩
def dr.oM(h:dr X.oM a t):dr X a t:=λb s c H D I hw=>
 mT (h b s c H D (I.oI _) hw) (λ_ _ q=>q.qI) λ_ _ z=>lZ z
def X7:TS:=λD a H=>D.nx a H
def Zl(t u:TS):TS:=λD a H=>t { D with nx:=u D} a H
def Vi:dr X [] X7:=λ_ _ a H _ I h=>NC ⟨a,H,I,h⟩
def rN(j:PS X a t)(i:dr X b u):dr X (a::b) (Zl t u):=by
 intro c s e H D I h;refine wpAny_execs_cons<|bH (j c s e H { D with nx:=u D} I h) λf g q=>?_;cases f with
 |next=>obtain⟨d,l,k,q⟩:=q;exact i c g d l D k q
 |ret v=>exact q
 |brk=>exact q
 |cont=>exact q
def Inv.quiet(I:Inv X a b H s):interactive X.ae=false:=by simp[interactive,I.ok.kind]
def XW(b:TE):TS:=λD a H=>b a H λ_ c=>D.nx a c
def IP(i:PE X e d)(g:jg e none b.line X.ae=pure false:=by rfl):PS X (.Expr e b) (XW d):=by intro a s c H D I h;exact wpAny_Expr_any (bH (i a s c H _ I h) λv l⟨x,k,j,m,f⟩=>⟨c,k,j,f⟩) I.quiet g
def YF(b:TE):TS:=λD a H=>b a H D.rt
def Dc(i:PE X e c):PS X (.Return (some e) g) (YF c):=by intro a s b H D I h;exact wpAny_Return_some<|bH (i a s b H _ I h) λv l⟨x,k,j,d,f⟩=>⟨x,b,k,j,d,f⟩
def Y8(c:TT)(t u:TS):TS:=λD a H=>c a H λb d=>if b=true then t D a d else u D a d
def uk(n:PT X c l)(p:dr X a t)(o:dr X b u):PS X (.If c a b m) (Y8 l t u):=by
 intro e s f H D I h;refine wpAny_If<|bH (n e s f H _ I h) λd g⟨k,j,i⟩=>?_;cases d with
 |true=>exact p e g f k D j i
 |false=>exact o e g f k D j i
def VQ:TS:=λ_ _ _=>False
def qr:dr X a VQ:=λ_ _ _ _ _ _ h=>h.elim
abbrev TG:=V->St->Hp->(St->Hp->Prop)->Prop
abbrev sI:=List V->St->Hp->(St->Hp->Prop)->Prop
def PG(X:Cx)(a:az)(t:TG):Prop:=
 ∀(b:List (aa×bD))(s:am)(d:St)(H:Hp)(v:V)(u:af)(Q:St->Hp->Prop),Inv X b d H s->bM v u->t v d H Q->
  aw (aH X.prog X.w) X.A (AX a X.ae u) (λ_ f=>∃c e,Inv X b c e f/\Q c e) X.xe s
def Aa(X:Cx)(g:List az)(t:sI):Prop:=
 ∀(a:List (aa×bD))(s:am)(c:St)(H:Hp)(d:List V)(e:List af)(Q:St->Hp->Prop),Inv X a c H s->bF d e->t d c H Q->
  aw (aH X.prog X.w) X.A (assignInOrder ((AS g X.ae).map (·.2)) e) (λ_ h=>∃b f,Inv X a b f h/\Q b f) X.xe s
abbrev zW:=V->V->Hp->VK->Prop
def Ma(X:Cx)(c:Fg)(t:zW):Prop:=
 ∀(a:List (aa×bD))(s:am)(b:St)(H:Hp)(x y:V)(v u:af)(Q:VK),Inv X a b H s->bM x v->bM y u->t x y H Q->
  aw (aH X.prog X.w) X.A (inplaceOp c v u) (EP X a b Q) X.xe s
def jN(i:Nat):TG:=λv a H Q=>Q (a.set i<|some v) H
def cG(f:X.N.Nodup)(d:X.N[i]?=some x)(c:oO X.ae.scope x)(e:X.fn x=true\/X.ae.scope.names.lookup x=some .local:=by first|exact .inl rfl|exact .inr rfl|assumption):PG X (.Name x b) (jN i):=by intro a s j H v u Q I r h;exact acp<|B0 I f d c r (λk g=>⟨_,H,g,h⟩) e
def wA:sI:=λb a H Q=>b=[]/\Q a H
def nu(t:TG)(u:sI):sI:=λc b H Q=>∃v r,c=v::r/\t v b H λa d=>u r a d Q
def ka:Aa X [] wA:=by intro a s b H c d Q I r h;obtain⟨e,h⟩:=h;subst e;cases r;exact assignInOrder_nil ⟨b,H,I,h⟩
def eD(l:PG X e t)(k:Aa X c u)(j:(AS (e::c) X.ae).map (·.2)=AX e X.ae::(AS c X.ae).map (·.2):=by rfl):Aa X (e::c) (nu t u):=by
 intro a s d H p w Q I r h;obtain⟨v,q,m,h⟩:=h;subst m;cases r with
 |cons r g=>rw[j];refine assignInOrder_cons<|bH (l a s d H _ _ _ I r h) λ_ f⟨b,o,n,i⟩=>?_;exact k a f b o _ _ Q n g i
def wv(K:ax)(n:Nat)(t:sI):TG:=λv c H Q=>∃a b,v=.ref a/\cV K H a b/\b.length=n/\t b c H Q
def kc(A:X.cX=true)(h:Aa X f t)(y:(AS f X.ae).length=n:=by rfl)(d:(AS f X.ae).findIdx? (·.1)=none:=by rfl):PG X (.Tuple f k m) (wv X.K n t):=by intro c s g H v u Q I r hw;obtain⟨a,j,C,x,z,hw⟩:=hw;subst C;cases r;obtain⟨p,l,w,J⟩:=I.tuple x;refine assign_Tuple_tuple (I.ok.hd A) w (by simp[y,<-z,l.length]) d λB q=>?_;have D:Inv X c g H { s with heap:=B}:=I.eN (t':=s.toks) λb o e=>q b o (fg<|cq e) e;exact h c _ g H j _ Q D (by omega) hw
def LQ(b:TE)(g:TG):TS:=λD a H=>b a H λx c=>g x a c D.nx
def Db(p:X.N.Nodup)(m:X.N[i]?=some x)(k:oO X.ae.scope x)(o:PE X e f)(l:jg e (some<|.Name x a) c.line X.ae=pure false:=by rfl)(n:X.fn x=true\/X.ae.scope.names.lookup x=some .local:=by first|exact .inl rfl|exact .inr rfl|assumption):
 PS X (.Assign [.Name x a] e c) (LQ f<|jN i):=by
 intro b s d H D I h;refine wpAny_Assign_Name (bH (o b s d H _ I h) λv w⟨y,t,r,g,j⟩=>?_) l;exact B0 r p m k g (λu q=>⟨_,t,q,j⟩) n
def YX(i:Nat)(c:TE)(b:zW):TS:=λD a H=>∃x,a[i]?=some (some x)/\c a H λy e=>b x y e λz d=>D.nx (a.set i<|some z) d
def Wo(hN:X.N.Nodup)(t:X.N[i]?=some x)(n:oO X.ae.scope x)(Z:PE X e C)(R:Ma X q B)(Y:X.fn x=true\/X.ae.scope.names.lookup x=some .local:=by first|exact .inl rfl|exact .inr rfl|assumption):
 PS X (.AugAssign (.Name x p) q e Q) (YX i C B):=by
 intro a s o H D I h;obtain⟨v,e1,h⟩:=h;obtain⟨m,S,U⟩:=I.jW;have j:oT X.ae.scope x:=by rcases n with k|k;exact .inl k;exact .inr<|.inl k
 obtain⟨u,r,l⟩:=U i x v t e1 j;refine wpAny_AugAssign_Name ?_;have go:aw (aH X.prog X.w) X.A (aO e X.ae) (λw g=>aw (aH X.prog X.w) X.A (inplaceOp q u w) (λr f=>aw (aH X.prog X.w) X.A (N4 X.ae x r) (λ_=>SP X a D .next) X.xe f) X.xe g) X.xe s:=by refine bH (Z a s o H _ I h) λw E⟨y,H1,I1,L,O⟩=>?_;refine bH (R a E o H1 v y u w _ I1 r L O) λz s2⟨zv,H2,I2,J,M⟩=>?_;exact B0 I2 hN t n J (λs3 I3=>⟨_,H2,I3,M⟩) Y
 rcases l with⟨b,T⟩|⟨b,c,hc,d⟩;·exact abO I.ok.kind b S T go
 ·rcases b with b|b;·exact abV I.ok.kind b hc d go
  ·rcases n with k|k
   ·have:X.ae.scope.names.lookup x=some .free:=b;grind
   ·have:X.ae.scope.names.lookup x=some .free:=b;grind
def Zx(f:Int->Int->Int):zW:=λx y H Q=>∃i j,x=.int i/\y=.int j/\Q (.int (f i j)) H
def V5:Ma X .Add (Zx λi j=>i+j):=by intro a s f H x y v u Q I c b h;obtain⟨i,j,e,d,q⟩:=h;subst e;subst d;obtain⟨t,rfl⟩:=c;obtain⟨g,rfl⟩:=b;exact iadd_int ⟨.int _,H,I.jb _,⟨_,rfl⟩,q⟩
def Wa(c:TT)(h:TS):TS:=λD a H=>∃W:Nat->St->Hp->Prop,(∃m,W m a H)/\∀m a H,W m a H->
 c a H λb f=>if b=true then ∃N:St->Hp->Prop,(∀d g,N d g->∃e,e<m/\W e d g)/\h { D with nx:=N,ct:=N,bk:=D.nx} a f else D.nx a f
def Ip(m:o5 (aH X.prog X.w) X.A X.ae X.xe)(O:PT X c y)(Q:dr X i z):PS X (.While c i [] J) (Wa y z):=by
 intro a s t H D I h;obtain⟨W,⟨M,x⟩,g⟩:=h;refine wpAny_While<|codeAny_whileLoop (λn E=>∃e r,Inv X a e r E/\W n e r) ?_ M ⟨t,H,I,x⟩;rintro n C ⟨d,q,S,u⟩;refine u4 m<|bH (O a C d q _ S<|g n d q u) λb B⟨p,o,k⟩=>?_;cases b with
 |true=>
  obtain⟨N,Y,k⟩:=k;rw[aM rfl];refine u4 m<|bH (Q a B d p _ o k) λf U j=>?_;cases f with
  |next=>obtain⟨l,T,R,L⟩:=j;grind
  |cont=>obtain⟨l,T,R,L⟩:=j;grind
  |brk=>exact j
  |ret v=>exact j
 |false=>rw[aL gu];exact NC ⟨d,p,o,k⟩
structure It where
 go:Nat->Hp->Prop
 Ad:Nat->Hp->V->Hp->Prop
 qX:Nat->Hp->Prop
def mC(X:Cx)(a:List (aa×bD))(H:Hp)(b:aa):Prop:=H b=none/\b≠X.ae.locals/\b∉X.fs/\(b∈X.ex\/X.ir.heap.objs.size<=b)/\(∀x c,X.ae.cells.lookup x=some c->c≠b)/\∀p∈X.pn++a,p.1≠b
def Inv.ss(I:Inv X a i H s)(d:s.heap.objs.size<=b)(g:h b=none):mC X a h b:=by
 refine⟨g,o4<|jA I.lt d,I.YH d,.inr<|dY I.sz d,λx c e z=>?_,λp f z=>?_⟩
 ·obtain⟨v,q⟩:=I.cell x c e;exact cy (jA q.lt<|by grind)<|qf _
 ·exact cy (jA (cq (I.lJ p f).1)<|by grind)<|qf _
structure qU(P:a0)(w:aT)(K:ax)(tg:az)(J:It)(fp:List aa)(it:aa)(tn:Nat->aJ->Prop):Prop where
 mem:it∈fp
 obj:∀i h,tn i h->∀b∈fp,∃o,h.get? b=some o/\∀v,o.data≠.cell v
 keep:∀i h h',tn i h->(∀b∈fp,∀o,h.get? b=some o->h'.get? b=some o)->tn i h'
 item:∀(X:Cx),X.prog=P->X.w=w->X.K=K->X.cX=true->∀(i:Nat)(pins:List (aa×bD))(s:am)(σ:St)(H:Hp)(E:af->am->Prop),Inv X pins σ H s->(∀b∈fp,mC X pins H b)->tn i s.heap->J.go i H->
  aw (aH P w) X.A (e_<|.ref it) (λr s1=>∃u,r=some u/\
   aw (aH P w) X.A (EY tg (.ref it) u) (λ_ s2=>∃x H',Inv X pins σ H' s2/\bM x u/\J.Ad i H x H'/\tn (i+1) s2.heap/\∀b∈fp,H' b=none) E s1) E s
 done:∀(X:Cx),X.prog=P->X.w=w->X.K=K->X.cX=true->∀(i:Nat)(pins:List (aa×bD))(s:am)(σ:St)(H:Hp)(E:af->am->Prop),Inv X pins σ H s->(∀b∈fp,mC X pins H b)->tn i s.heap->J.qX i H->
  aw (aH P w) X.A (e_<|.ref it) (λr s1=>r=none/\Inv X pins σ H s1) E s
 kj:∀(A:b8)(i:Nat)(s:am)(Q:af->am->Prop)(E:af->am->Prop),tn i s.heap->Q (.ref it) s->aw (aH P w) A (AV (.ref it)) Q E s
abbrev TI:=St->Hp->(It->Hp->Prop)->Prop
def Eb(X:Cx)(a:List (aa×bD))(i:St)(j:az)(R:It->Hp->Prop)(c:af)(f:am):Prop:=∃(g:aa)(h:List aa)(e:Nat->aJ->Prop)(J:It)(d:Hp),c=.ref g/\Inv X a i d f/\qU X.prog X.w X.K j J h g e/\e 0 f.heap/\(∀b∈h,mC X a d b)/\R J d
def PI(X:Cx)(e b:az)(d:TI):Prop:=
 ∀(a:List (aa×bD))(s:am)(c:St)(H:Hp)(R:It->Hp->Prop),Inv X a c H s->d c H R->
  aw (aH X.prog X.w) X.A (aO b X.ae) (λv f=>aw (aH X.prog X.w) X.A (AV v) (Eb X a c e R) X.xe f) X.xe s
theorem zx (e : s.heap.get? d = some o) (g : o.cls = .type n) (f : o.data = .fields b) (h : ["enumerate", "zip", "dict_itemiterator", "dict_reverseitemiterator", "odict_iterator", "itertools.zip_longest", "itertools.pairwise"].contains n = false) (a : Q () s) : aw M A (EY c (.ref d) u) Q E s := by
  unfold EY
  cases c <;> first
    | exact a8 a
    | (cases u <;> first
        | exact a8 a
        | (refine ao (wpAny_load e ?_)
           rw [g, f]
           show aw M A (if (["enumerate", "zip", "dict_itemiterator", "dict_reverseitemiterator", "odict_iterator", "itertools.zip_longest", "itertools.pairwise"].contains n && b[0]? == some (oh _)) = true then _ else _) Q E s
           rw [aL (by grind)]
           exact a8 a))
def L9(K:ax)(a:aa):It:=⟨λi H=>∃b x,bi K H a b/\b[i]?=some x,λi H x c=>c=H/\∀b,bi K H a b->b[i]?=some x,λi H=>∃b,bi K H a b/\b.length<=i⟩
def Mp(K:ax)(a:aa):It:=⟨λi H=>∃b x,cV K H a b/\b[i]?=some x,λi H x c=>c=H/\∀b,cV K H a b->b[i]?=some x,λi H=>∃b,cV K H a b/\b.length<=i⟩
def wV(lo:Int)(n:Nat):It:=⟨λi _=>i<n,λi H x a=>a=H/\x=.int (lo+i),λi _=>n<=i⟩
def Qc{P:a0}{w:aT}{K:ax}{R:az}(a g:aa):qU P w K R (L9 K a) [g] g (λi h=>h.IsListIter g a i) where
 mem:=by simp
 obj:=λi h st b j=>by
  have e:b=g:=by grind
  subst e;obtain⟨o,e,c,d⟩:=st;grind
 keep:=λi h r st k=>st.at λo e=>k g (by simp) o e
 item:=by
  intro X A hw B O i f s N H E I q st z;subst A hw B;obtain⟨Q,x,n,y⟩:=z;obtain⟨v,t,p,Y⟩:=I.list n;obtain⟨u,hu,U⟩:=t.get y;obtain⟨M,L,f2,J,D,C⟩:=q g<|by simp
  refine abl st p.isList (x:=u) (by grind) λr l T=>?_;have I1:Inv X f N H { s with heap:=r}:=I.kG (t':=s.toks) (λb o j e=>(T.2 b j).trans e) M L J D C;obtain⟨o,e,c,d⟩:=id l;exact⟨u,rfl,zx (s:={ s with heap:=r}) e c d (by decide) ⟨x,H,I1,U,⟨rfl,λys Z=>by rw[I.vx Z n];exact y⟩,l,λb j=>(q b j).1⟩⟩
 done:=by
  intro X A hw B O i f s N H E I q st z;subst A hw B;obtain⟨Q,n,y⟩:=z;obtain⟨v,t,p,Y⟩:=I.list n;obtain⟨M,L,f2,J,D,C⟩:=q g<|by simp
  have hl:=t.length;exact abD (I.ok.hd O) st p.isList (by grind) λr eb=>⟨rfl,I.kG (t':=s.toks) (λb o j e=>eb b o j e) M L J D C⟩
 kj:=λ_ _ _ _ _ st h=>wpAny_pyIter_listiter st h
def OU{P:a0}{w:aT}{K:ax}{R:az}(a j:aa):qU P w K R (Mp K a) [j] j (λi h=>h.IsTupleIter j a i) where
 mem:=by simp
 obj:=λi h st b l=>by
  have e:b=j:=by grind
  subst e;obtain⟨o,e,c,d⟩:=st;grind
 keep:=λi h t st k=>st.at λo e=>k j (by simp) o e
 item:=by
  intro X A hw B O i f s N H E I r st z;subst A hw B;obtain⟨Q,x,q,y⟩:=z;obtain⟨g,v,p,Y⟩:=I.tuple q;obtain⟨u,hu,U⟩:=v.get y;obtain⟨M,L,f2,J,D,C⟩:=r j<|by simp
  refine wpAny_pyNext_tuple_item st (show s.heap.IsTuple a g.toArray from p) (x:=u) (by grind) λt m T=>?_;have I1:Inv X f N H { s with heap:=t}:=I.kG (t':=s.toks) (λb o l e=>(T.2 b l).trans e) M L J D C;obtain⟨o,e,c,d⟩:=id m;exact⟨u,rfl,zx (s:={ s with heap:=t}) e c d (by decide) ⟨x,H,I1,U,⟨rfl,λys Z=>by rw[I.QC Z q];exact y⟩,m,λb l=>(r b l).1⟩⟩
 done:=by
  intro X A hw B O i f s N H E I r st z;subst A hw B;obtain⟨Q,q,y⟩:=z;obtain⟨g,v,p,Y⟩:=I.tuple q;obtain⟨M,L,f2,J,D,C⟩:=r j<|by simp
  have hl:=v.length;exact wpAny_pyNext_tuple_end (I.ok.hd O) st (show s.heap.IsTuple a g.toArray from p) (by grind) λt eb=>⟨rfl,I.kG (t':=s.toks) (λb o l e=>eb b o l e) M L J D C⟩
 kj:=λ_ _ _ _ _ st h=>wpAny_pyIter_tupleiter st h
def ON{P:a0}{w:aT}{K:ax}{J:az}(c:aa)(lo:Int)(n:Nat):qU P w K J (wV lo n) [c] c (λi h=>Fd h c (lo+(i:Nat)*1) ((n:Int)-(i:Nat)) 1) where
 mem:=by simp
 obj:=by grind
 keep:=by grind
 item:=by
  intro X p hw q l i a s B H E I j st k;subst p hw q;obtain⟨A,z,M,y,x,u⟩:=j c<|by simp
  have W:=act (prog:=X.prog) (w:=X.w) (I.ok.hd l) c lo 1 n;refine W.item i s _ _ k st λv r C L f R=>?_;obtain⟨t,rfl⟩:=L;have O:Inv X a B H { s with heap:=r,toks:=C}:=I.kG (by grind) A z y x u;refine⟨_,rfl,zx (s:={ s with heap:=r,toks:=C}) (n:="range_iterator") f rfl rfl (by decide) ⟨.int<|lo+i,H,O,⟨t,?_⟩,⟨rfl,rfl⟩,f,λb m=>(j b m).1⟩⟩;grind
 done:=by
  intro X p hw q l i a s B H E I j st k;subst p hw q;obtain⟨A,z,M,y,x,u⟩:=j c<|by simp
  exact abk (I.ok.hd l) st (by have:n<=i:=k;omega) λr N=>⟨rfl,I.kG (t':=s.toks) (λb o m e=>N b o m e) A z y x u⟩
 kj:=λ_ _ _ _ _ st h=>abm st h
def X0(K:ax)(e:TE):TI:=λc H R=>e c H λx b=>∃a,x=.ref a/\(∃d,bi K b a d)/\R (L9 K a) b
def YL(K:ax)(e:TE):TI:=λc H R=>e c H λx b=>∃a,x=.ref a/\(∃d,cV K b a d)/\R (Mp K a) b
def Uz(r:PE X l i):PI X w l (X0 X.K i):=by
 intro c s g H R I h;refine bH (r c s g H _ I h) λv d⟨x,t,f,j,k⟩=>?_;obtain⟨a,e,⟨u,n⟩,q⟩:=k;subst e;cases j;obtain⟨m,z,p,A⟩:=f.list n;refine uW p.isList ?_;refine⟨d.heap.objs.size,[d.heap.objs.size],_,_,t,rfl,f.eN (t':=d.toks) λb o e=>bV _ e,Qc a _,⟨_,dM _ rfl,rfl,rfl⟩,λb B=>?_,q⟩;have e:b=d.heap.objs.size:=by grind
 subst e;exact f.ss (cs _)<|f.a_.fresh<|cs _
def WR(r:PE X l j):PI X w l (YL X.K j):=by
 intro d s i H R I h;refine bH (r d s i H _ I h) λv c⟨x,t,f,k,m⟩=>?_;obtain⟨a,e,⟨u,n⟩,q⟩:=m;subst e;cases k;obtain⟨g,z,p,A⟩:=f.tuple n;refine No (show c.heap.IsTuple a g.toArray from p) ?_;refine⟨c.heap.objs.size,[c.heap.objs.size],_,_,t,rfl,f.eN (t':=c.toks) λb o e=>bV _ e,OU a _,⟨_,dM _ rfl,rfl,rfl⟩,λb B=>?_,q⟩;have e:b=c.heap.objs.size:=by grind
 subst e;exact f.ss (cs _)<|f.a_.fresh<|cs _
def IJ(I:Inv X g k H s)(r:-(2^62)<=a)(p:a<2^62)(n:-(2^62)<=d)(m:d<2^62)(q:R (wV a (d-a).toNat) H):aw (aH X.prog X.w) X.A (AV<|.ref s.heap.objs.size) (Eb X g k z R) E { s with heap:=s.heap.push { cls:=.type "range",data:=.fields #[.int a t,.int d u,.int 1 v]},toks:=l}:=by
 refine ab_ (abX ..) (small_one r p n m) ?_;have j:Inv X g k H { s with heap:=s.heap.push { cls:=.type "range",data:=.fields #[.int a t,.int d u,.int 1 v]},toks:=l}:=I.eN λb o e=>bV _ e;refine⟨(s.heap.push { cls:=.type "range",data:=.fields #[.int a t,.int d u,.int 1 v]}).objs.size,[(s.heap.push { cls:=.type "range",data:=.fields #[.int a t,.int d u,.int 1 v]}).objs.size],_,_,H,rfl,
  j.eN (t':=l) λb o e=>bV _ e,ON _ a (d-a).toNat,?_,λb C=>?_,q⟩
 ·have y:a+((0:Nat):Int)*1=a:=by simp
  have x:(((d-a).toNat:Nat):Int)-((0:Nat):Int)=Ak a d 1:=by rw[rangeSize_one];omega
  show Fd _ _ (a+((0:Nat):Int)*1) ((((d-a).toNat:Nat):Int)-((0:Nat):Int)) 1;rw[y,x];exact dM _ rfl
 ·have e:b=(s.heap.push { cls:=.type "range",data:=.fields #[.int a t,.int d u,.int 1 v]}).objs.size:=by grind
  subst e;exact j.ss (cs _)<|j.a_.fresh<|cs _
def XO(c:TA):TI:=λa H R=>c a H λb d=>∃j:Int,b=[.int j]/\ -(2^62)<=j/\j<2^62/\R (wV 0 j.toNat) d
def Xw(c:TA):TI:=λa H R=>c a H λb d=>∃i j:Int,b=[.int i,.int j]/\(-(2^62)<=i/\i<2^62/\ -(2^62)<=j/\j<2^62)/\R (wV i (j-i).toNat) d
def Rz(o:Gl X "range")(n:X.mg "range"=none)(u:PA X [a] g)(m:aB [a] X.ae=[(false,aO a X.ae)]:=by rfl):PI X y (.Call (.Name "range" p) [a] [] d) (XO g):=by
 intro b s f H R I h;refine o7<|lu I o n N2<|nL (bH (u d b s f H _ I h) λx z⟨w,A,v,k,c⟩=>?_) m rfl;obtain⟨j,e,c,l,q⟩:=c;subst e;cases k with
 |cons r i=>cases i;obtain⟨t,rfl⟩:=r;exact call_range_1<|IJ v (by omega) (by omega) c l<|by grind
def Rp(y:Gl X "range")(x:X.mg "range"=none)(z:PA X [a,b] m)(L:aB [a,b] X.ae=[(false,aO a X.ae),(false,aO b X.ae)]:=by rfl)(k:aB [b] X.ae=[(false,aO b X.ae)]:=by rfl):
 PI X D (.Call (.Name "range" p) [a,b] [] g) (Xw m):=by
 intro c s l H R I h;refine o7<|lu I y x N2<|nL (bH (z g c s l H _ I h) λC J⟨B,M,A,n,f⟩=>?_) (by grind)<|by rw[k];rfl
 obtain⟨i,j,e,⟨f,w,v,u⟩,q⟩:=f;subst e;cases n with
 |cons r d=>
  cases d with
  |cons o d=>cases d;obtain⟨t,rfl⟩:=r;obtain⟨E,rfl⟩:=o;exact call_range_2<|IJ A f w v u q
def Y0(f:TI)(g:TG)(h:TS):TS:=λD a H=>f a H λJ k=>∃W:Nat->Nat->St->Hp->Prop,(∃m,W 0 m a k)/\∀i m a H,W i m a H->
 (J.qX i H/\D.nx a H)\/(J.go i H/\∃N:St->Hp->Prop,(∀b c,N b c->∃e,e<m/\W (i+1) e b c)/\∀x c,J.Ad i H x c->g x a c λd j=>h { D with nx:=N,ct:=N,bk:=D.nx} d j)
def v5(a:List aa)(h:aJ):List (aa×bD):=a.filterMap λb=>(h.get? b).map λo=>(b,o)
def Bo(a:b∈c)(e:h.get? b=some o):(b,o)∈v5 c h:=abe.mpr ⟨b,a,by grind⟩
def Rl(a:p∈v5 c h):p.1∈c/\h.get? p.1=some p.2:=by
 obtain⟨b,d,e⟩:=abe.mp a;cases q:h.get? b with
 |none=>grind
 |some o=>grind
def Inv.K3(I:Inv X a d H s)(g:∀b∈c,mC X a H b)(i:∀b∈c,∃o,s.heap.get? b=some o/\∀v,o.data≠.cell v):Inv X (a++v5 c s.heap) d H s:=I.IU λp f=>(eI.mp f).elim (λz=>I.lJ p<|nM _ z) λz=>by obtain⟨h,e⟩:=Rl z;obtain⟨l,k,j,_⟩:=g p.1 h;grind
def Inv.yC(I:Inv X (pins++b) a H s):Inv X pins a H s:=I.IU λp c=>I.lJ p<|by grind
def KQ(M:o5 (aH X.prog X.w) X.A X.ae X.xe)(hc:X.cX=true)(hi:PI X tg B wi)(hg:PG X tg g)(p:dr X R tb)(hs:∀x,kU B X.ae x=pure x:=by intro _;rfl):PS X (.For tg B R [] c') (Y0 wi g tb):=by
 intro c s σ H D I h;refine wpAny_For (bH (hi c s σ H _ I h) λv s1 h1=>bH h1 λd' s2 h2=>?_) hs;obtain⟨it,Q,tn,J,H2,e,I2,T,Y,f2,W,⟨m0,w0⟩,E⟩:=h2;subst e;have l:∀{t:Hp},(∀b∈Q,t b=none)->∀b∈Q,mC X c t b:=λhn b p=>⟨hn b p,(f2 b p).2⟩
 refine codeAny_forLoop_any (λn s'=>∃i k t,Inv X c k t s'/\tn i s'.heap/\(∀b∈Q,t b=none)/\W i n k t) ?_ m0 ⟨0,σ,H2,I2,Y,λb p=>(f2 b p).1,w0⟩;rintro n s3 ⟨i,j,S,I3,L,O,w3⟩;rcases E i n j S w3 with⟨qX,qn⟩|⟨go,N,hN,step⟩
 ·refine u4 M<|bH (T.done X rfl rfl rfl hc i c s3 j S X.xe I3 (l O) L qX) λr s4⟨hr,I4⟩=>?_;subst hr;exact NC ⟨j,S,I4,qn⟩
 ·refine u4 M<|bH (T.item X rfl rfl rfl hc i c s3 j S X.xe I3 (l O) L go) λr s4⟨u,hr,h4⟩=>?_;subst hr;refine u4 M<|bH h4 λ_ s5⟨x,H5,I5,r5,y5,C,a'⟩=>?_;have b':=I5.K3 (l a')<|T.obj _ _ C;refine u4 M<|bH (hg _ s5 j H5 x u _ b' r5<|step x H5 y5) λ_ s6⟨U,H6,I6,q6⟩=>?_;refine u4 M<|bH (p _ s6 U H6 _ I6 q6) λf Z z=>?_;have again:∀{a:St}{q:Hp},Inv X (c++v5 Q s5.heap) a q Z->N a q->∃m,m<n/\∃i k t,Inv X c k t Z/\tn i Z.heap/\(∀b∈Q,t b=none)/\W i m k t:=λ{a q}y n7=>by obtain⟨m',hm,w7⟩:=hN a q n7;refine⟨m',hm,i+1,a,q,y.yC,T.keep _ _ _ C λb p o e=>(y.lJ (b,o)<|nM _<|nM _<|Bo p e).1,λb p=>?_,w7⟩;obtain⟨o,e,d⟩:=T.obj _ _ C b p;exact(y.lJ (b,o)<|nM _<|nM _<|Bo p e).2.1
  cases f with
  |next=>obtain⟨a,q,y,n7⟩:=z;grind
  |cont=>obtain⟨a,q,y,n7⟩:=z;grind
  |brk=>obtain⟨a,q,y,z⟩:=z;exact⟨a,q,y.yC,z⟩
  |ret v=>obtain⟨x7,a,q,y,r7,z⟩:=z;exact⟨x7,a,q,y.yC,r7,z⟩
abbrev R2:=V->V->Hp->VK->Prop
def eP(X:Cx)(f:af->af->Sem af)(r:R2):Prop:=
 ∀(a:List (aa×bD))(s:am)(b:St)(H:Hp)(x y:V)(v u:af)(Q:VK),Inv X a b H s->bM x v->bM y u->r x y H Q->
  aw (aH X.prog X.w) X.A (f v u) (EP X a b Q) X.xe s
def D3(X:Cx)(f:af->Sem af)(r:V->Hp->VK->Prop):Prop:=
 ∀(a:List (aa×bD))(s:am)(b:St)(H:Hp)(x:V)(v:af)(Q:VK),Inv X a b H s->bM x v->r x H Q->
  aw (aH X.prog X.w) X.A (f v) (EP X a b Q) X.xe s
def gU(X:Cx)(f:af)(r:List V->Hp->VK->Prop):Prop:=
 ∀(a:List (aa×bD))(s:am)(b:St)(H:Hp)(c:List V)(d:List af)(Q:VK),Inv X a b H s->bF c d->r c H Q->
  aw (aH X.prog X.w) X.A (call f d) (EP X a b Q) X.xe s
def z5(r:R2)(c b:TE):TE:=λa H Q=>c a H λx e=>b a e λy d=>r x y d Q
def ZB(r:V->Hp->VK->Prop)(b:TE):TE:=λa H Q=>b a H λx c=>r x c Q
def rI(C:Int->Int->Prop)(g:Int->Int->V):R2:=λx y H Q=>∃i j,x=.int i/\y=.int j/\C i j/\Q (g i j) H
def q_(g:Int->Int->V):R2:=λx y H Q=>∃i j,x=.int i/\y=.int j/\Q (g i j) H
def rU(g:Int->V):V->Hp->VK->Prop:=λx H Q=>∃i,x=.int i/\Q (g i) H
def DN(q:PE X a m)(p:PE X b l){R:V->V->Hp->Prop}(I:Inv X c d H s)(h:m d H λx k=>l d k λy i=>R x y i){f:af->af->Sem af}(C:∀v u j x y i,Inv X c d i j->bM x v->bM y u->R x y i->aw (aH X.prog X.w) X.A (f v u) Q X.xe j):
 aw (aH X.prog X.w) X.A (aO a X.ae) (λv g=>aw (aH X.prog X.w) X.A (aO b X.ae) (λu e=>aw (aH X.prog X.w) X.A (f v u) Q X.xe e) X.xe g) X.xe s:=by
 refine bH (q c s d H _ I h) λv n⟨x,k,r,z,o⟩=>?_;refine bH (p c n d k _ r o) λu j⟨y,i,D,t,B⟩=>?_;grind
def Lk(m:eP X (rE l) r)(o:PE X a f)(n:PE X b e):PE X (.BinOp a l b k) (z5 r f e):=by intro c s d H Q I h;exact wpAny_BinOp<|DN o n I h λv u g x y t p j i q=>m c g d t x y v u Q p j i q
def Xz(k:D3 X (unaryOp j) r)(l:PE X a d):PE X (.UnaryOp j a i) (ZB r d):=by intro b s c H Q I h;exact UnaryOp_<|bH (l b s c H _ I h) λv e⟨x,n,m,f,g⟩=>k b e c n x v Q m f g
def z9{g:Int->Int->Int}(rH:∀(i j:Int)(t u:fR)(s:am)(Q:af->am->Prop)(E:af->am->Prop),C i j->Q (.int (g i j) s.toks) { s with toks:=s.toks+1}->aw (aH X.prog X.w) X.A (f (.int i t)<|.int j u) Q E s):
 eP X f (rI C λi j=>.int<|g i j):=by
 intro b s l H x y v u Q I e d h;obtain⟨i,j,rfl,rfl,k,q⟩:=h;obtain⟨t,rfl⟩:=e;obtain⟨c,rfl⟩:=d;exact rH i j t c s _ _ k ⟨.int<|g i j,H,I.jb _,⟨_,rfl⟩,q⟩
def LV{g:Int->Int->Int}(rH:∀(i j:Int)(t u:fR)(s:am)(Q:af->am->Prop)(E:af->am->Prop),Q (.int (g i j) s.toks) { s with toks:=s.toks+1}->aw (aH X.prog X.w) X.A (f (.int i t)<|.int j u) Q E s):
 eP X f (q_ λi j=>.int<|g i j):=by
 intro b s k H x y v u Q I e d h;obtain⟨i,j,rfl,rfl,q⟩:=h;obtain⟨t,rfl⟩:=e;obtain⟨c,rfl⟩:=d;exact rH i j t c s _ _ ⟨.int<|g i j,H,I.jb _,⟨_,rfl⟩,q⟩
def zN{g:Int->Int->Bool}(rH:∀(i j:Int)(t u:fR)(s:am)(Q:af->am->Prop)(E:af->am->Prop),Q (.bool (g i j)) s->aw (aH X.prog X.w) X.A (f (.int i t) (.int j u)) Q E s):
 eP X f (q_ λi j=>.bl<|g i j):=by
 intro a s e H x y v u Q I d c h;obtain⟨i,j,rfl,rfl,q⟩:=h;obtain⟨t,rfl⟩:=d;obtain⟨b,rfl⟩:=c;exact rH i j t b s _ _ ⟨.bl<|g i j,H,I,rfl,q⟩
def zM(i j:Int):Prop:=(-(2^64)<i/\i<2^64)\/(-(2^64)<j/\j<2^64)
def zM.ok(h:zM i j):Fh i j:=by
 rcases h with⟨b,a⟩|⟨b,a⟩;·exact .of_left<|intBits_le_64 b a
 ·exact .of_right<|intBits_le_64 b a
def V3:eP X (rE .Add) (q_ λi j=>.int<|i+j):=LV λ_ _ _ _ _ _ _ q=>add_int q
def KE:eP X (rE .Sub) (q_ λi j=>.int<|i-j):=LV λ_ _ _ _ _ _ _ q=>sub_int q
def W7:eP X (rE .Mult) (rI zM λi j=>.int<|i*j):=z9 λ_ _ _ _ _ _ _ a q=>mul_int q a.ok
def Wh:eP X (rE .Mod) (rI (λ_ j=>0<j) λi j=>.int<|i%j):=z9 λi j _ _ _ _ _ a q=>by have b:(0:Int)<j:=a;exact mod_int' (by omega)<|by grind
def Ec{g:Int->Int}(rH:∀(i:Int)(t:fR)(s:am)(Q:af->am->Prop)(E:af->am->Prop),Q (.int (g i) s.toks) { s with toks:=s.toks+1}->aw (aH X.prog X.w) X.A (f<|.int i t) Q E s):
 D3 X f (rU λi=>.int<|g i):=by
 intro b s d H x v Q I c h;obtain⟨i,rfl,q⟩:=h;obtain⟨t,rfl⟩:=c;exact rH i t s _ _ ⟨.int<|g i,H,I.jb _,⟨_,rfl⟩,q⟩
def Xk:D3 X (unaryOp .USub) (rU λi=>.int<|-i):=Ec λ_ _ _ _ _ q=>neg_int q
def LP:V->V->Bool
 |.aS,.aS=>true|.aS,.int _=>true|.int _,.aS=>true|.aS,.bl _=>true|.bl _,.aS=>true|.aS,.str _=>true|.str _,.aS=>true
 |.int _,.int _=>true|.bl _,.bl _=>true|.str _,.str _=>true|.jx _,.jx _=>true
 |.int _,.str _=>true|.str _,.int _=>true|.bl _,.str _=>true|.str _,.bl _=>true
 |_,_=>false
def ZE:R2:=λx y H Q=>LP x y=true/\Q (.bl<|decide<|x=y) H
def Zq:R2:=λx y H Q=>LP x y=true/\Q (.bl<|!decide (x=y)) H
def Jj:decide (V.int i=V.int j)=(i==j):=by grind
def J7:decide (V.bl i=V.bl j)=(i==j):=by grind
def IV:decide (V.str i=V.str j)=(i==j):=by grind
def JS:decide (V.jx i=V.jx j)=(i.toList==j.toList):=by rw[mM];simp
def eZ(I:Inv X a b H s)(q:Q (.bl k) H)(e:k=c):EP X a b Q (.bool c) s:=by subst e;exact⟨.bl k,H,I,rfl,q⟩
def DG:eP X (gw .Eq) ZE:=by
 intro e s f H x y v u Q I d a h;obtain⟨c,q⟩:=h;cases x with
 |aS=>
  cases d;cases y with
  |aS=>cases a;exact PySem.EqNone.eq_none_none<|eZ I q<|by simp
  |bl j=>cases a;exact PySem.EqNone.eq_none_bool<|eZ I q<|by simp
  |int j=>obtain⟨b,rfl⟩:=a;exact PySem.EqNone.eq_none_int<|eZ I q<|by simp
  |str j=>obtain⟨b,rfl⟩:=a;exact PySem.EqNone.eq_none_str<|eZ I q<|by simp
  |_=>exact cy (show false=true from c) gu
 |bl i=>
  cases d;cases y with
  |aS=>cases a;exact PySem.EqNone.eq_bool_none<|eZ I q<|by simp
  |bl j=>cases a;exact eq_bool<|eZ I q J7
  |str j=>obtain⟨b,rfl⟩:=a;exact acU<|eZ I q<|by simp
  |_=>exact cy (show false=true from c) gu
 |int i=>
  obtain⟨t,rfl⟩:=d;cases y with
  |aS=>cases a;exact PySem.EqNone.eq_int_none<|eZ I q<|by simp
  |int j=>obtain⟨b,rfl⟩:=a;exact eq_int<|eZ I q Jj
  |str j=>obtain⟨b,rfl⟩:=a;exact acT<|eZ I q<|by simp
  |_=>exact cy (show false=true from c) gu
 |str i=>
  obtain⟨t,rfl⟩:=d;cases y with
  |aS=>cases a;exact PySem.EqNone.eq_str_none<|eZ I q<|by simp
  |bl j=>cases a;exact acS<|eZ I q<|by simp
  |int j=>obtain⟨b,rfl⟩:=a;exact acR<|eZ I q<|by simp
  |str j=>obtain⟨b,rfl⟩:=a;exact eq_str<|eZ I q IV
  |_=>exact cy (show false=true from c) gu
 |jx i=>
  obtain⟨t,rfl⟩:=d;cases y with
  |jx j=>obtain⟨b,rfl⟩:=a;exact PySem.W.eq_bytes<|eZ I q JS
  |_=>exact cy (show false=true from c) gu
 |_=>cases y<;>exact cy (show false=true from c) gu
def X5:eP X (gw .NotEq) Zq:=by
 intro e s f H x y v u Q I d a h;obtain⟨c,q⟩:=h;cases x with
 |aS=>
  cases d;cases y with
  |aS=>cases a;exact PySem.EqNone.ne_none_none<|eZ I q<|by simp
  |bl j=>cases a;exact PySem.EqNone.ne_none_bool<|eZ I q<|by simp
  |int j=>obtain⟨b,rfl⟩:=a;exact PySem.EqNone.ne_none_int<|eZ I q<|by simp
  |str j=>obtain⟨b,rfl⟩:=a;exact PySem.EqNone.ne_none_str<|eZ I q<|by simp
  |_=>exact cy (show false=true from c) gu
 |bl i=>
  cases d;cases y with
  |aS=>cases a;exact PySem.EqNone.ne_bool_none<|eZ I q<|by simp
  |bl j=>cases a;exact ne_bool<|eZ I q<|c9 not J7
  |str j=>obtain⟨b,rfl⟩:=a;exact acQ<|eZ I q<|by simp
  |_=>exact cy (show false=true from c) gu
 |int i=>
  obtain⟨t,rfl⟩:=d;cases y with
  |aS=>cases a;exact PySem.EqNone.ne_int_none<|eZ I q<|by simp
  |int j=>obtain⟨b,rfl⟩:=a;exact ne_int<|eZ I q<|c9 not Jj
  |str j=>obtain⟨b,rfl⟩:=a;exact acP<|eZ I q<|by simp
  |_=>exact cy (show false=true from c) gu
 |str i=>
  obtain⟨t,rfl⟩:=d;cases y with
  |aS=>cases a;exact PySem.EqNone.ne_str_none<|eZ I q<|by simp
  |bl j=>cases a;exact acO<|eZ I q<|by simp
  |int j=>obtain⟨b,rfl⟩:=a;exact acN<|eZ I q<|by simp
  |str j=>obtain⟨b,rfl⟩:=a;exact ne_str<|eZ I q<|c9 not IV
  |_=>exact cy (show false=true from c) gu
 |jx i=>
  obtain⟨t,rfl⟩:=d;cases y with
  |jx j=>obtain⟨b,rfl⟩:=a;exact PySem.W.ne_bytes<|eZ I q<|c9 not JS
  |_=>exact cy (show false=true from c) gu
 |_=>cases y<;>exact cy (show false=true from c) gu
def Yl:eP X (gw .Lt) (q_ λi j=>.bl<|decide<|i<j):=zN λ_ _ _ _ _ _ _ q=>abY q
def Yc:eP X (gw .LtE) (q_ λi j=>.bl<|decide<|i<=j):=zN λ_ _ _ _ _ _ _ q=>le_int q
def XV:eP X (gw .Gt) (q_ λi j=>.bl<|decide<|j<i):=zN λ_ _ _ _ _ _ _ q=>abZ q
def Xx:eP X (gw .GtE) (q_ λi j=>.bl<|decide<|j<=i):=zN λ_ _ _ _ _ _ _ q=>ge_int q
def qK(b:az)(h:a≠.In:=by decide)(e:a≠.NotIn:=by decide):mN a b=false:=by
 have d:(a==CmpOp.In)=false:=by grind
 have c:(a==acx)=false:=by grind
 cases b<;>simp[mN,d,c]
def VB(m:eP X (gw d) r)(p:PE X a g)(o:PE X b f)(n:mN d b=false):PE X (.Compare a [d] [b] l) (z5 r g f):=by intro c s e H Q I h;exact wpAny_Compare1 (DN p o I h λv u i x y w t k j q=>m c i e w x y v u Q t k j q) n
def XA(t:TE):TT:=λa H Q=>t a H λx b=>∃k,x=.bl k/\Q k b
def IT(B:eP X (gw g) r)(E:PE X a j)(D:PE X b i)(C:mN g b=false):PT X (.Compare a [g] [b] A) (XA<|z5 r j i):=by
 intro d s f H Q I h;refine abE (bH (E d s f H _ I h) λv m⟨x,R,M,p,w⟩=>bH (D d m f R _ M w) λu l⟨y,O,L,o,t⟩=>
  bH (B d l f O x y v u _ L p o t) λc S⟨z,N,J,n,k,e,q⟩=>?_) C
 subst e;cases n;exact p8 ⟨N,J,q⟩
def W6(r g:R2)(f e d:TE):TE:=λa H Q=>f a H λx j=>e a j λy i=>r x y i λz b=>∃k,z=.bl k/\
 (if k=true then d a b λc h=>g y c h Q else Q (.bl false) b)
def TF(Y:eP X (gw n) r)(j:eP X (gw i) O)(ha:PE X a B)(hb:PE X b A)(hc:PE X c w)(Z:lastMarks [n,i] [b,c]=false:=by with_unfolding_all rfl):PE X (.Compare a [n,i] [b,c] U) (W6 r O B A w):=by
 intro f s g H Q I h;refine Compare_chain (bH (ha f s g H _ I h) λv J⟨x,H1,I1,N,T⟩=>chain_link (bH (hb f J g H1 _ I1 T) λu E⟨y,H2,I2,l,S⟩=>
  bH (Y f E g H2 x y v u _ I2 N l S) λd D⟨z,p,o,M,k,e,m⟩=>?_)) Z
 subst e;cases M;refine p8 ?_;cases k with
 |false=>exact ite_ff ⟨.bl false,p,o,rfl,m⟩
 |true=>exact ite_tt<|chain_last<|bH (hc f D g p _ o m) λt C⟨q,H4,I4,L,R⟩=>j f C g H4 y q u t Q I4 l L R
def CY:(bx:Nat)<2^63:=by rw[fu];decide
def DL(r:bF [x] a):∃u,a=[u]/\bM x u:=by
 cases r with
 |cons c b=>cases b;grind
def LB(r:bF [x,y] b):∃u a,b=[u,a]/\bM x u/\bM y a:=by
 cases r with
 |cons f d=>
  cases d with
  |cons e c=>cases c;grind
def Ro(d:X.cX=true):gU X (.builtin "max") (λb H Q=>∃i j,b=[.int i,.int j]/\Q (.int (if j > i then j else i)) H):=by
 intro c s e H b g Q I r h;obtain⟨i,j,rfl,q⟩:=h;obtain⟨u,f,rfl,⟨t,rfl⟩,⟨m,rfl⟩⟩:=LB r;refine max_two_ints (I.ok.hd d) λn l k=>⟨_,H,I.eN k,?_,q⟩
 by_cases a:j > i;·rw[aM a,aM a];exact⟨_,rfl⟩
 ·rw[aL a,aL a];exact⟨_,rfl⟩
def QR(d:X.cX=true):gU X (.builtin "min") (λb H Q=>∃i j,b=[.int i,.int j]/\Q (.int (if j<i then j else i)) H):=by
 intro c s e H b g Q I r h;obtain⟨i,j,rfl,q⟩:=h;obtain⟨u,f,rfl,⟨t,rfl⟩,⟨m,rfl⟩⟩:=LB r;refine min_two_ints (I.ok.hd d) λn l k=>⟨_,H,I.eN k,?_,q⟩
 by_cases a:j<i;·rw[aM a,aM a];exact⟨_,rfl⟩
 ·rw[aL a,aL a];exact⟨_,rfl⟩
structure uC(h:aJ)(x dx C:aa)(mA:ak->Option af):Prop where
 obj:h.get? x=some (tl C dx)
 ns:h.Ns1 dx mA
 ne:dx≠x
def Q0{h:aJ}(n:h.Ns1 m d):∃c,h.get? m=some c/\∀name,Nq name c=some (d name):=by
 obtain⟨o,l,p,g,k,j,_,i⟩:=n;refine⟨o,g,λname=>?_⟩;have e:=i name;unfold nsFind findBy at e;rw[<-Array.find?_toList] at e;unfold Nq;rw[k];dsimp only;split;·grind
 ·rename_i q;rw[q] at e;have a:l.toList.any (·.refKey)=false:=by rw[Nf];intro y f;obtain⟨z,t,b⟩:=j y<|Array.mem_toList_iff.mp f;simp[DictEntry.refKey,b]
  grind
def uC.qW(I:uC h x e C b):∃a,PySem.W.InstAt h x (tl C e) C (some a)/\∀name,Nq name a=some (b name):=
 let⟨a,c,d⟩:=Q0 I.ns
 ⟨a,⟨I.obj,rfl,rfl,c⟩,d⟩
def m4(X:a.In s.heap)(I:uC s.heap x n C f)(i:EF a C name=true)(g:EA a C=true)(j:qe a (.ref C) name=some none)(l:f name=some v)(b:aa4 v=true)(h:Q v { s with toks:=s.toks+1}):
 aw (aH d w) A (getAttr (.ref x) name e) Q E s:=by
 obtain⟨k,J,m⟩:=I.qW;exact PySem.W.get_value X J (PySem.W.plainGet_of i).1 (PySem.W.findObj_own g j rfl<|by grind) b h
def T_(X:c.In s.heap)(I:uC s.heap x i C n)(z:qe c (.ref C) "__setattr__"=some (some<|.builtin "object.__setattr__"))(B:M7 c C=true)(t:Ng c C name=some none)(D:EA c C=true)(hw:ND n p)(u:p.length<=bx)(h:∀g,uC g x i C (λy=>if y=name then some v else n y)->oa i s.heap g->Q () { s with heap:=g,toks:=s.toks+2}):
 aw (aH m w) A (setAttr (.ref x) name v) Q E s:=by
 obtain⟨O,J,S⟩:=I.qW;refine PySem.W.set_plain X J z<|PySem.W.osa_open (s:={ s with toks:=s.toks+1}) (r:=none) X J B t λb=>?_;obtain⟨T,L,l⟩:=PySem.W.any_some D;have q:s.heap.get? x=some ⟨.ref C,some i,.plain,#[]⟩:=I.obj;refine ao<|a8<|ao<|ao<|wpAny_loadPart q<|ao<|acM (s:={ s with toks:=s.toks+1}) (PySem.W.looks_clsIn X L) ?_;rw[l];refine a8 (a:=some i)<|ao<|a8<|ao ?_;refine wpAny_nsSet1 (s:={ s with toks:=s.toks+1}) I.ns λg f e=>?_;obtain⟨R,M,N,j,k,H⟩:=f.count<|PySem.Within.cons name v hw;refine ao<|wpAny_lookBehind j (by rw[k];exact pastItsLine_dict<|by grind) ?_;exact a8<|h _ ⟨(e.2 _<|ci I.ne).trans I.obj,f,I.ne⟩ e
def R3(X:a.In s.heap)(j:Nh a C=true)(k:qe a (.ref C) "__init__"=some (some<|.ref f))(l:PySem.W.typeIn a (.ref f)=some (.type "function"))(h:mU (aH b w) (A.under<|.builtin "type.__call__" ⟨.ref C::c,e⟩) (.call (.ref f) ⟨.ref (s.heap.objs.size+1)::c,e⟩) (PySem.W.InitBack (s.heap.objs.size+1) R)
 { s with heap:=(s.heap.push rn).push (tl C s.heap.objs.size)}):
 mU (aH b w) A (.call (.ref C) ⟨c,e⟩) R s:=by
 obtain⟨m,g,d,t,os⟩:=s;exact PySem.W.make_core (PySem.W.makes_of X j) (PySem.W.looks_findIn X k) (λkj=>PySem.W.bind_fn X kj l) (.inl rfl) h
def il(f:ak)(v:V):List (ak×V)->List (ak×V)
 |[]=>[(f,v)]
 |(g,x)::r=>if g=f then(g,v)::r else(g,x)::il f v r
def FI(f g:ak)(v:V):∀a:List (ak×V),(il f v a).lookup g=if g=f then some v else a.lookup g
 |[]=>by show List.lookup g [(f,v)]=_;grind
 |(k,x)::r=>by have b:=FI f g v r;rw[show il f v ((k,x)::r)=(if k=f then(k,v)::r else(k,x)::il f v r) from rfl];grind
def BM(f:ak)(v:V):∀a:List (ak×V),f∈(il f v a).map (·.1)/\∀g,g∈a.map (·.1)->g∈(il f v a).map (·.1)
 |[]=>⟨by simp[il],λg h=>by simp at h⟩
 |(k,x)::r=>by obtain⟨c,b⟩:=BM f v r;rw[show il f v ((k,x)::r)=(if k=f then(k,v)::r else(k,x)::il f v r) from rfl];grind
def FD(f:ak)(v:V):∀a:List (ak×V),(il f v a).length<=a.length+1
 |[]=>by simp[il]
 |(k,x)::r=>by have b:=FD f v r;rw[show il f v ((k,x)::r)=(if k=f then(k,v)::r else(k,x)::il f v r) from rfl];grind
def ik.vK(r:ik (some v) o):∃u,o=some u/\bM v u:=by
 cases o with
 |none=>exact(show False from r).elim
 |some u=>exact⟨u,rfl,r⟩
def ik.TW(r:ik none o):o=none:=by
 cases o with
 |none=>rfl
 |some u=>exact(show False from r).elim
def Q7(r:bM v u):aa4 u=true:=by
 cases v with
 |aS=>cases(show u=tD from r);rfl
 |bl b=>cases(show u=lY b from r);rfl
 |int i=>obtain⟨t,e⟩:=(show ∃t,u=rC i t from r);cases e;rfl
 |str x=>obtain⟨t,e⟩:=(show ∃t,u=AR x t from r);cases e;rfl
 |jx b=>obtain⟨t,e⟩:=(show ∃t,u=acv b t from r);cases e;rfl
 |wY b=>obtain⟨t,e⟩:=(show ∃t,u=acu b t from r);cases e;rfl
 |ref a=>cases(show u=c7 a from r);rfl
 |ty n=>cases(show u=ky n from r);rfl
def JU(i:ek b w H h)(e:H a=some (.bA C j g)):∃c,uC h a j C c/\(∀f,ik (g.lookup f) (c f))/\ND c (g.map (·.1))/\g.length<=1000/\H j=some (.be a):=by
 obtain⟨d,z,l,k,c,n,r,q⟩:=(show eA b w H h a (.bA C j g) from i a _ e)
 exact⟨c,⟨k,n,l⟩,r,q,z,d⟩
structure ju(K:ax)(C:aa):Prop where
 pg:EF K C Str.empty=true
 hd:EA K C=true
 po:M7 K C=true
 sa:qe K (.ref C) "__setattr__"=some (some<|.builtin "object.__setattr__")
def ju.get(c:ju a C)(f:ak):EF a C f=true:=c.pg
def fe(K:ax)(C:aa)(f:ak):Prop:=qe K (.ref C) f=some none
def fe.X8(n:fe a C f):Ng a C f=some none:=by unfold Ng;rw[show qe a (.ref C) f=some none from n];rfl
def Pk(I:Inv X d j H s)(e:H a=some (.bA C q p))(c:ju X.K C)(n:fe X.K C f)(l:p.lookup f=some v)(h:∀u g,Inv X d j H g->bM v u->Q u g):aw (aH X.prog X.w) A (getAttr (.ref a) f b) Q E s:=by
 obtain⟨k,O,r,_,_,_⟩:=JU I.a_ e;obtain⟨u,m,i⟩:=ik.vK (v:=v) (o:=k f)<|by grind
 exact m4 I.lN O (c.get f) c.hd n m (Q7 i)<|h u _ (I.jb _) i
def Pc(I:Inv X i t H s)(e:H a=some (.bA C j d))(c:ju X.K C)(n:fe X.K C f)(T:d.length<1000)(B:bM y u)(h:∀m,Inv X i t (bv H a (.bA C j (il f y d))) m->Q () m):aw (aH X.prog X.w) A (setAttr (.ref a) f u) Q E s:=by
 obtain⟨D,O,r,l,_,p⟩:=JU I.a_ e;have J:(d.map (·.1)).length<=bx:=by rw[bS,fu];omega
 refine T_ I.lN O c.sa c.po n.X8 c.hd l J λR k v=>h _ ?_;have M:∃o,R.get? j=some o:=let⟨o,_,_,S,_⟩:=k.ns;⟨o,S⟩;refine I.qM (x:=a) (e:=j) (by rw[e];exact qi) (.inr p) (λb q N z=>(v.2 b N).trans z) M ?_;refine⟨by rw[ew O.ne];exact p,?_,O.ne,k.obj,_,k.ns,λg=>?_,λg L=>?_⟩;·have:=FD f y d;omega
 ·show ik ((il f y d).lookup g) (if g=f then some u else D g);rw[FI];by_cases q:g=f;·rw[aM q,aM q];exact B
  grind
 ·by_cases q:g=f;·rw[q];exact(BM f y d).1
  ·refine(BM f y d).2 g (l g λz=>L ?_);grind
def Inv.jR(I:Inv X c h H s):Inv X c h (bv (bv H s.heap.objs.size<|.be<|s.heap.objs.size+1) (s.heap.objs.size+1)<|.bA C s.heap.objs.size [])
 { s with heap:=(s.heap.push rn).push (tl C s.heap.objs.size)}:=by
 have g:(s.heap.push rn).get? s.heap.objs.size=some rn:=dM s.heap rfl;have m:((s.heap.push rn).push (tl C s.heap.objs.size)).get? (s.heap.objs.size+1)=some (tl C s.heap.objs.size):=by
  have:=dM (s.heap.push rn) (o:=tl C s.heap.objs.size) rfl
  rwa [iw] at this
 have l:(s.heap.push rn).Ns s.heap.objs.size (λ_=>none):=⟨rn,#[],_,g,rfl,(λe k=>cy k<|by simp),λ_=>rfl⟩
 have n:=I.ij (a:=s.heap.objs.size) (o:=.be<|s.heap.objs.size+1) (h':=s.heap.push rn) (t':=s.toks) (λb u q=>bV _ q) (cs _) ⟨_,g⟩;refine n.ij (a:=s.heap.objs.size+1) (o:=.bA C s.heap.objs.size []) (t':=s.toks) (λb u q=>bV _ q) (by simp) ?_;have d:s.heap.objs.size≠s.heap.objs.size+1:=by omega
 refine⟨by rw[ew d,pf],j0 _,d,m,λ_=>none,(Heap.Ns1.of_empty l).at λo q=>bV _ q,λ_=>qi,λy j=>cy rfl j⟩
def Uw(g:kx e f a (aO e a)=aO e a)(h:aw (aH b w) A (aO e a) (λo c=>aw (aH b w) A (getAttr o f true) Q E c) E s):aw (aH b w) A (aO (.Attribute e f d) a) Q E s:=Attribute_any_ h (by rw[arm_eval_Attribute,g])
def Zc(K:ax)(e:TE)(f:ak):TE:=λd H Q=>e d H λx c=>∃a C g b v,x=.ref a/\c a=some (.bA C g b)/\ju K C/\fe K C f/\b.lookup f=some v/\Q v c
def YR(K:ax)(h g:TE)(f:ak):TS:=λD b H=>g b H λy i=>h b i λx e=>∃a C d c,x=.ref a/\e a=some (.bA C d c)/\ju K C/\fe K C f/\c.length<1000/\
 D.nx b (bv e a<|.bA C d<|il f y c)
def KU(m:PE X e g)(o:kx e f X.ae (aO e X.ae)=aO e X.ae):PE X (.Attribute e f k) (Zc X.K g f):=by intro b s d H Q I h;refine Uw o<|bH (m b s d H _ I h) λu B⟨x,y,w,i,a,C,E,D,v,p,r,c,n,l,q⟩=>?_;subst p;obtain rfl:u=c7 a:=i;exact Pk w r c n l λz A t j=>⟨v,y,t,j,q⟩
def V9(A:PE X o k)(w:PE X b j)(z:jg b (some<|.Attribute o f e) i.line X.ae=pure false):PS X (.Assign [.Attribute o f e] b i) (YR X.K k j f):=by intro d s g H D I h;refine plainObj_wpAny_Assign_Attribute (bH (w d s g H _ I h) λu m⟨y,N,M,p,q⟩=>bH (A d m g N _ M q) λv Q⟨x,T,L,r,a,C,S,R,B,E,c,n,l,t⟩=>?_) z;subst B;obtain rfl:v=c7 a:=r;exact Pc L E c n l p λO J=>⟨g,_,J,t⟩
structure dn(k:Nat)(A:b8):Prop where
 hd:A.handled=none
 dp:A.depth+3*k+5<recursionLimit
 un:A.units+16*k+200<cH
def dn.cb(r:dn k A)(h:j<=k):dn j A:=⟨r.hd,by have:=r.dp;omega,by have:=r.un;omega⟩
def dn.deeper(r:dn (k+1) A)(a:fA):dn k (A.deeper a):=⟨r.hd,by have:=r.dp;show A.depth+1+3*k+5<_;omega,by have:=r.un;show A.units+3+16*k+200<_;omega⟩
def P4{A:b8}:(A.under<|.builtin "type.__call__" ⟨.ref C::a,b⟩).depth=A.depth+1:=by rfl
def PD{A:b8}:(A.under<|.builtin "type.__call__" ⟨.ref C::a,b⟩).units=A.units+1:=by rfl
def dn.DU(r:dn (k+1) A)(C:aa)(a:List af)(b:List (ak×af)):dn k (A.under<|.builtin "type.__call__" ⟨.ref C::a,b⟩):=⟨r.hd,by have:=r.dp;rw[P4];omega,by have:=r.un;rw[PD];omega⟩
def dn.depth(r:dn k A):A.depth<recursionLimit:=by have:=r.dp;omega
def dn.units(r:dn k A):A.units+64<cH:=by have:=r.un;omega
def dn.C8(r:dn k A):A.units<cH:=by have:=r.un;omega
def LN:TA:=λ_ H Q=>Q [] H
def Ym(d:TE)(c:TA):TA:=λa H Q=>d a H λx f=>c a f λb e=>Q (x::b) e
def wa:PA X [] LN:=λ_ _ _ _ H Q I h=>xf ⟨[],H,I,.nil,h⟩
def vL(p:PE X e g)(o:PA X c t)(n:aB (e::c) X.ae=(false,aO e X.ae)::aB c X.ae:=by rfl):PA X (e::c) (Ym g t):=by intro b a s d H Q I h;rw[n];show aw _ _ (spliced<|(false,aO e X.ae)::eK b (aB c X.ae)) _ _ s;refine uU<|bH (p a s d H _ I h) λu i⟨x,w,r,k,m⟩=>?_;exact bH (o b a i d w _ r m) λy z⟨f,v,q,j,l⟩=>⟨x::f,v,q,.cons k j,l⟩
def YJ(t:TA):TE:=λc H Q=>t c H λa b=>a.length<=bx/\∀p,b p=none->Q (.ref p) (bv b p (.a9 a))
def YT(t:TA):TE:=λc H Q=>t c H λa b=>a.length<=bx/\∀p,b p=none->Q (.ref p) (bv b p (.aq a))
def Ka{k}(h:PA X o t):PE X (.Tuple o k d) (YJ t):=by
 intro a s i H Q I m;refine wpAny_Tuple_spliced<|bH (h d a s i H _ I m) λl c⟨j,g,f,r,z,q⟩=>⟨by rw[<-r.length];exact z,?_⟩
 have n:g c.heap.objs.size=none:=f.a_.fresh<|cs _;refine⟨.ref c.heap.objs.size,bv g c.heap.objs.size<|.a9 j,f.ij (t':=c.toks) (λb u e=>bV _ e) (cs _) ?_,rfl,q _ n⟩;exact⟨z,l,r,⟨_,dM _ rfl,rfl,_,rfl⟩⟩
def CW(h:PA X n t):PE X (.List n d) (YT t):=by
 intro a s i H Q I l;refine wpAny_List_spliced<|bH (h d a s i H _ I l) λk c⟨j,g,f,r,z,q⟩=>⟨by rw[<-r.length];exact z,?_⟩
 have m:g c.heap.objs.size=none:=f.a_.fresh<|cs _;refine⟨.ref c.heap.objs.size,bv g c.heap.objs.size<|.aq j,f.ij (t':=c.toks) (λb u e=>bV _ e) (cs _) ?_,rfl,q _ m⟩;exact⟨z,k,0,r,dM _ rfl⟩
abbrev Sp:=List V->Hp->VK->XK->Prop
abbrev nF:=List fA->Hp->am->XK->af->am->Prop
structure sn(P:a0)(w:aT)(K:ax)(mg:ak->Option af)(ai:aJ)(A:b8)(aR:List fA)(s:am)(H:Hp):Prop where
 frames:A.frames=some aR
 mod:Mod K mg ai
 bs:∀b o,ai.get? b=some o->s.heap.get? b=some o/\H b=none
 pZ:ai.objs.size<=s.heap.objs.size
 mz:s.heap.FunFrames ai aR
 sM:∀b∈nE aR,H b=none
 a_:ek P w H s.heap
 bare:vc s.gens
def CE(a:List fA)(P:a0)(w:aT)(H:Hp)(s:am)(Q:VK)(u:af)(b:am):Prop:=∃v c,b.os=s.os/\vc b.gens/\Un (nE a) [] H c s.heap b.heap/\ek P w c b.heap/\bM v u/\Q v c
def CR(c:nF)(a:List fA)(P:a0)(w:aT)(H:Hp)(s:am)(Q:VK)(E:XK)(r:vd)(b:am):Prop:=
 match r with
 |.ok (.ret u)=>CE a P w H s Q u b
 |.ok _=>False
 |.error e=>c a H s E e b
structure bB(P:a0)(w:aT)(K:ax)(mg:ak->Option af)(ai:aJ)(CX:nF)(k:Nat)(f:aa)(fd:bI)(ps:List ak)(sp:Sp):Prop where
 aX:∀vs H Q E,sp vs H Q E->vs.length=ps.length
 uM:∀(A:b8)(aR:List fA)(s:am)(H:Hp)(args:Args)(us:List af)(vs:List V)(Q:VK)(E:XK),dn k A->sn P w K mg ai A aR s H->xz s fd args (ps.zip us)->bF vs us->sp vs H Q E->
  mU (aH P w) A (.call (.ref f) args) (CR CX aR P w H s Q E) s
def sn.DU(e:sn a w b g d A c s H)(C:aa)(f:List af)(h:List (ak×af)):
 sn a w b g d (A.under<|.builtin "type.__call__" ⟨.ref C::f,h⟩) c s H:=⟨by first|exact e.frames|(simpa [Around.under,Code.envs,Code.isFrame,pushEnvs] using e.frames),e.mod,e.bs,e.pZ,e.mz,e.sM,e.a_,e.bare⟩
def Inv.LO(I:Inv X a b H s):sn X.prog X.w X.K X.mg X.ai X.A X.i6 s H:=⟨I.ok.frames,I.ok.mod,I.bs,dY I.ok.pZ I.sz,I.i6,I.Jp,I.a_,I.bare⟩
def Inv.Lw(I:Inv X a i H s)(h:CE X.i6 X.prog X.w H s Q u f):EP X a i Q u f:=by obtain⟨v,k,os,bare,un,e,r,q⟩:=h;obtain⟨j,g,d,t,c⟩:=f;obtain rfl:c=s.os:=os;exact⟨v,k,I.call (h':=j) (g':=g) (d':=d) (t':=t) (ch:=[]) un e bare (λb z=>cy z<|by simp),r,q⟩
def Yb(d:Sp)(a:List V)(E:XK)(t:TA):TE:=λb H Q=>t b H λc e=>d (c++a) e Q E
def Lz(C:aa)(f:Sp)(b:List V)(E:XK)(t:TA):TE:=λd H Q=>t d H λe c=>∀x a,c x=none->c a=none->a≠x->
 f (.ref x::(e++b)) (bv (bv c a<|.be x) x<|.bA C a []) (λv g=>v=.aS/\Q (.ref x) g) E
def oG(K:ax)(d:bI)(b:List ak)(c:List af):Prop:=∀(s:am)(a:List af),K.In s.heap->(a++c).length=b.length->xz s d ⟨a,[]⟩ (b.zip (a++c))
def oG.all(h:∀b:List af,b.length=c.length->Ff e ⟨b,[]⟩=pure (c.zip b)):oG a e c []:=λs b _ d=>by rw[xh] at d ⊢;exact .of_eq<|h b d
def ug(d:nF)(X:Cx)(E:XK):Prop:=∀(a:List (aa×bD))(c:St)(H:Hp)(s:am)(e:af)(b:am),Inv X a c H s->d X.i6 H s E e b->X.xe e b
def Wx(F:bB X.prog X.w X.K X.mg X.ai B k f z m n)(q:dn k X.A)(x:oG X.K z m g)(v:bF b g)(p:ug B X E)(I:Inv X a j H s)(r:bF i c)(h:n (i++b) H Q E):aw (aH X.prog X.w) X.A (call (.ref f) c) (EP X a j Q) X.xe s:=by
 have l:bF (i++b) (c++g):=r.append v;have t:(c++g).length=m.length:=by rw[<-l.length];exact F.aX _ _ _ _ h
 refine wpAny_call<|Fb (F.uM X.A X.i6 s H ⟨c,[]⟩ (c++g) (i++b) Q E q I.LO (x s c I.lN t) l h) λr o d=>?_;cases r with
 |error e=>exact p a j H s e o I d
 |ok y=>
  cases y with
  |ret u=>exact I.Lw d
  |next=>exact lZ d
  |brk=>exact lZ d
  |cont=>exact lZ d
def yG(F:bB X.prog X.w X.K X.mg X.ai O k f M o n)(v:dn k X.A)(B:Gl X x)(y:X.mg x=some (.ref f))(z:rx X.K (.ref f)=true)(J:oG X.K M o N)(D:bF i N)(u:ug O X E)(L:PA X (e::c) t)(g:(x==("__debug__":ak))=false:=by decide)(C:aB (e::c) X.ae=(false,aO e X.ae)::aB c X.ae:=by rfl)(d:(eK a<|aB c X.ae).any (·.1)=false:=by rfl):
 PE X (.Call (.Name x p) (e::c) [] a) (Yb n i E t):=by
 intro b s m H Q I h;refine Ax<|yM I B y ?_ g;refine aaN (h₀:=X.ai) I.ok.mod.Af z (bH (L a b s m H _ I h) λS T⟨R,U,l,r,q⟩=>⟨l.lN,?_⟩) C d;exact Wx F v J D u l r q
structure Mk(K:ax)(C f:aa):Prop where
 Yf:Nh K C=true
 Zk:qe K (.ref C) "__init__"=some (some<|.ref f)
 fn:abR K (.ref f)=true
 kp:rx K (.ref C)=true
def Ih(M:Mk X.K C f)(F:bB X.prog X.w X.K X.mg X.ai Y k f O n p)(B:dn (k+1) X.A)(L:oG X.K O n g)(J:bF c g)(z:ug Y X E)(I:Inv X b j H s)(r:bF l us)(h:∀x d,H x=none->H d=none->d≠x->p (.ref x::(l++c)) (bv (bv H d (.be x)) x (.bA C d [])) (λv T=>v=.aS/\Q (.ref x) T) E):
 aw (aH X.prog X.w) X.A (call (.ref C) us) (EP X b j Q) X.xe s:=by
 have o:=h (s.heap.objs.size+1) s.heap.objs.size (I.a_.fresh<|AN _) (I.a_.fresh<|cs _)<|by grind
 have i:=Inv.jR (C:=C) I;have m:bF (V.ref (s.heap.objs.size+1)::(l++c)) (c7 (s.heap.objs.size+1)::(us++g)):=.cons rfl<|r.append J;have D:(c7 (s.heap.objs.size+1)::us++g).length=n.length:=by have e:=m.length;rw[F.aX _ _ _ _ o] at e;grind
 refine wpAny_call (R3 (f:=f) I.lN M.Yf M.Zk (beq_iff_eq.mp M.fn) (Fb (F.uM _ X.i6 _ _ ⟨c7 (s.heap.objs.size+1)::us,[]⟩ (c7 (s.heap.objs.size+1)::(us++g)) _ _ E (B.DU C us [])
  (i.LO.DU C us []) (L _ (c7 (s.heap.objs.size+1)::us) i.lN D) m o) λr q a=>?_))
 cases r with
 |error e=>exact z b j _ _ e q i a
 |ok N=>
  cases N with
  |ret u=>obtain⟨v,U,S,t,R,y⟩:=i.Lw a;subst R;exact⟨t,⟨V.ref<|s.heap.objs.size+1,U,S,rfl,y⟩⟩
  |next=>exact lZ a
  |brk=>exact lZ a
  |cont=>exact lZ a
def VG(M:Mk X.K C f)(F:bB X.prog X.w X.K X.mg X.ai R k f N o n)(v:dn (k+1) X.A)(z:Gl X x)(y:X.mg x=some (.ref C))(J:oG X.K N o O)(D:bF i O)(u:ug R X E)(L:PA X (e::c) t)(g:(x==("__debug__":ak))=false:=by decide)(B:aB (e::c) X.ae=(false,aO e X.ae)::aB c X.ae:=by rfl)(d:(eK a<|aB c X.ae).any (·.1)=false:=by rfl):
 PE X (.Call (.Name x p) (e::c) [] a) (Lz C n i E t):=by
 intro b s m H Q I h;refine Ax<|yM I z y ?_ g;refine aaN (h₀:=X.ai) I.ok.mod.Af M.kp (bH (L a b s m H _ I h) λT U⟨S,Y,l,r,q⟩=>⟨l.lN,?_⟩) B d;exact Ih M F v J D u l r q
def RV(M:Mk X.K C f)(F:bB X.prog X.w X.K X.mg X.ai t k f q e d)(j:dn (k+1) X.A)(m:Gl X x)(l:X.mg x=some (.ref C))(o:oG X.K q e r)(n:bF b r)(i:ug t X E)(a:(x==("__debug__":ak))=false:=by decide):PE X (.Call (.Name x p) [] [] g) (Lz C d b E LN):=by intro c s u H Q I h;refine Ax<|yM I m l ?_ a;exact PySem.W.callWith_K0 I.lN M.kp<|Ih (us:=[]) M F j o n i I .nil h
structure bP(N P:List ak)(sc:fQ):Prop where
 kind:sc.kind=.function:=by rfl
 co:sc.isCoroutine=false:=by rfl
 pN:sc.isGenerator=false:=by rfl
 nd:N.Nodup:=by decide
 pre:N.take P.length=P:=by rfl
 ay:∀x∈P,sc.names.lookup x=some .local\/sc.names.lookup x=some .cell:=by decide
 V7:∀y∈sc.names,y.2≠.free:=by decide
def Hg:∀{b:List (ak×af)}{m:ak->Option af},(∀v,(x,v)∉b)->tH a b m x=m x
 |[],_,_=>rfl
 |(n,v)::r,m,h=>by
  unfold tH;rw[Hg<|by grind];split;·grind
  ·rfl
def Hm:∀{b:List (ak×af)}{m:ak->Option af},(∀v,(x,v)∉b)->tI a b m x=m x
 |[],_,_=>rfl
 |(n,v)::r,m,h=>by
  unfold tI;rw[Hm<|by grind];split;·rfl
  grind
def Gs:∀{P:List ak}{b:List af}{i:Nat}{m:ak->Option af},P.Nodup->P[i]?=some x->b[i]?=some v->a x=some .local->
 tH a (P.zip b) m x=some v
 |[],_,_,_,_,h,_,_=>by simp at h
 |_::_,[],_,_,_,_,h,_=>by simp at h
 |p::P,w::b,0,m,c,f,e,d=>by simp at f e;subst f;subst e;show tH a ((p,w)::P.zip b) m p=_;unfold tH;rw[Hg λv g=>(kW.mp c).1 (rq g).1,aM d];simp
 |p::P,w::b,i+1,m,c,f,e,d=>by show tH a ((p,w)::P.zip b) m x=_;unfold tH;exact Gs (i:=i) (kW.mp c).2 (by grind) (by grind) d
def Hx:∀{P:List ak}{b:List af}{i:Nat}{m:ak->Option af},P.Nodup->P[i]?=some x->b[i]?=some v->a x≠some .local->
 tI a (P.zip b) m x=some v
 |[],_,_,_,_,h,_,_=>by simp at h
 |_::_,[],_,_,_,_,h,_=>by simp at h
 |p::P,w::b,0,m,c,f,e,d=>by simp at f e;subst f;subst e;show tI a ((p,w)::P.zip b) m p=_;unfold tI;rw[Hm λv g=>(kW.mp c).1 (rq g).1,aL d];simp
 |p::P,w::b,i+1,m,c,f,e,d=>by show tI a ((p,w)::P.zip b) m x=_;unfold tI;exact Hx (i:=i) (kW.mp c).2 (by grind) (by grind) d
def start(N:List ak)(a:List V):St:=a.map some++ab2 (N.length-a.length) none
def mr(g:nF)(P:a0)(w:aT)(K:ax)(mg:ak->Option af)(ai:aJ)(N:List ak)(b:ak)(a:fQ)(f:aa)(d:af)(A:b8)(aR:List fA)(s:am)(H:Hp)(E:XK):Cx where
 prog:=P
 w:=w
 K:=K
 mg:=mg
 ai:=ai
 A:=A.deeper<|mV b a s.heap.objs.size f d
 N:=N
 ir:=s
 wK:=H
 ae:=mV b a s.heap.objs.size f d
 aR:=aR
 i6:=mV b a s.heap.objs.size f d::aR
 ex:=[]
 cX:=true
 fn:=λ_=>true
 pn:=[]
 xe:=λe h=>aw (aH P w) (A.deeper<|mV b a s.heap.objs.size f d) (leaving (mV b a s.heap.objs.size f d) e) (λ_ c=>g aR H s E e c) (λi c=>g aR H s E i c) h
def Iz{a:fQ}(h:a.names.lookup x=some .cell):∃c,(iz n a.names []).lookup x=some c:=by have q:=aas a.names n []<|.inl h;exact Option.isSome_iff_exists.mp q
def QD(S:bP N C g)(hd:A.handled=none)(m:sn a w d R o A l s H)(hl:J.length=C.length)(r:bF J Q)(x:InCallC s s.heap.objs.size (tH (mV j g s.heap.objs.size f O).kindOf (C.zip Q) λ_=>none) (iz (s.heap.objs.size+1) g.names []) (tI (mV j g s.heap.objs.size f O).kindOf (C.zip Q) λ_=>none) X):
 Inv (mr CX a w d R o N j g f O A l s H E) [] (start N J) H X:=by
 have Z:C.length<=N.length:=by have:=c9 u6 S.pre;grind
 obtain⟨M,tk,rfl,U⟩:=x.done;have t:∀b:aa,b∉(mr CX a w d R o N j g f O A l s H E).ex:=λb z=>cy (show b∈([]:List aa) from z)<|by simp
 refine⟨⟨m.mod,S.kind,rfl,rfl,cs _,λy z c M L=>?_,λy B=>?_,λy c _ h=>?_,λ_=>hd,Around.frames_deeper m.frames,.inr ⟨rfl,rfl⟩,λb z=>cy z<|t b,m.bs,m.pZ,λb _ _=>t b,λb z=>cy z<|t b,m.mz,m.sM⟩,
  rfl,m.bare,Un.eN U,⟨_,x.toInCall.ns,λi y v M L h3=>?_⟩,λy c h=>⟨_,x.cell y c h⟩,m.a_.fresh<|cs _,λy c h=>?_,λp I=>cy (show p∈([]:List (aa×bD)) from I) (by simp),m.a_.eN U,?_⟩
 ·exact name_of_addr x.apart (kT M)<|kT L
 ·have B:g.names.lookup y=some .cell\/g.names.lookup y=some .free:=B;rcases B with B|B;·exact Iz B
  ·exact cy rfl<|S.V7 _<|kT B
 ·exact AK<|x.above y c<|kT h
 ·have hi:i<J.length:=by unfold start at L;grind
  have ha:J[i]?=some v:=by unfold start at L;grind
  obtain⟨u,T,Y⟩:=r.get ha;have I:C[i]?=some y:=by rw[<-S.pre,aaC<|by omega];exact M
  have D:C.Nodup:=by rw[<-S.pre];exact S.nd.sublist<|Nb _ _
  refine⟨u,Y,?_⟩;rcases S.ay y (dA I) with k|k;·exact .inl ⟨k,Gs D I T k⟩
  ·obtain⟨c,e⟩:=Iz (n:=s.heap.objs.size+1) k;refine .inr ⟨.inl k,c,e,?_⟩;have q:=x.cell y c e;rw[Hx D I T<|by show g.names.lookup y≠_;grind] at q;exact q
 ·exact m.a_.fresh<|AK<|x.above y c<|kT h
 ·unfold start;show _=N.length;grind
def Yu(lk:d.lookup f=some ⟨oc,od,.func<|lW name i z B g dV a c' pm an j ct,d'⟩)(b':xi d j i=true)(S:bP N Z g)(O:∀p H Q E,sp p H Q E->p.length=Z.length)(L:∀(A:b8)(h:List fA)(s:am)(H:Hp)(p:List V)(Q:VK)(E:XK),dn k (A.deeper (mV i g s.heap.objs.size f j))->sp p H Q E->
 ∃t,dr (mr CX c w d mg l N i g f j A h s H E) B t/\t { nx:=λ_ C=>Q .aS C,rt:=Q} (start N p) H):
 bB c w d mg l CX (k+1) f (lW name i z B g dV a c' pm an j ct) Z sp:=by
 refine⟨O,λA h s H args us p Q E hr U hb r R=>?_⟩;have hl:=O _ _ _ _ R;have KX:d.In s.heap:=U.mod.Af.keeps λb o e=>(U.bs b o e).1;have a':s.heap.NoLimit:=U.mod.nolimit.keeps λb o e=>(U.bs b o e).1;have D:∀y∈Z.zip us,g.names.lookup y.1=some .local\/(g.names.lookup y.1=some .cell/\((iz (s.heap.objs.size+1) g.names []).lookup y.1).isSome=true):=λ⟨n,v⟩hy=>by
  rcases S.ay n (rq hy).1 with q|q;·grind
  ·exact .inr ⟨q,aas _ _ _<|.inl q⟩
 refine codeAny_call_function hr.depth (KX _ _ lk) rfl S.co S.pN rfl (PySem.W.codeRec_of KX b')<|hb _ _ _ _ ?_;refine wpAny_newFunctionEnv_cells S.kind D λe' he s1 x=>?_;subst he;refine⟨a'.keeps x.toInCall.keep,codeAny_func ?_⟩;obtain⟨t,ht,hq⟩:=L A h s H p Q E (hr.deeper _) R;have I:Inv (mr CX c w d mg l N i g f j A h s H E) [] (start N p) H s1:=QD S hr.hd U hl r x;refine mT (ht [] s1 (start N p) H _ I hq) (λfl X M=>?_) λe X M=>M;have T:∀{m:St}{C:Hp}{v:V}{u:af},Inv (mr CX c w d mg l N i g f j A h s H E) [] m C X->bM v u->Q v C->CE h c w H s Q u X:=λ{m C v u}J Y q=>⟨v,C,J.os,J.bare,J.ai,J.a_,Y,q⟩
 cases fl with
 |ret u=>obtain⟨v,m,C,J,Y,q⟩:=M;exact T J Y q
 |next=>obtain⟨m,C,J,q⟩:=M;exact T (v:=V.aS) (u:=tD) J rfl q
 |brk=>obtain⟨_,_,_,q⟩:=M;grind
 |cont=>obtain⟨_,_,_,q⟩:=M;grind
def Mq(r:List V->Hp->VK->Prop)(t:TA):TE:=λa H Q=>t a H λb c=>r b c Q
def B_(y:gU X (.builtin a) r)(v:Gl X x)(u:X.mg x=none)(o:tw x=some (.builtin a))(z:PA X (e::d) t)(q:x≠"__name__":=by decide)(g:(x==("__debug__":ak))=false:=by decide)(w:aB (e::d) X.ae=(false,aO e X.ae)::aB d X.ae:=by rfl)(f:(eK c<|aB d X.ae).any (·.1)=false:=by rfl):PE X (.Call (.Name x p) (e::d) [] c) (Mq r t):=by intro b s i H Q I h;refine Ax<|lu I v u o ?_ q g;exact PyProof.Rows.callWith_builtin1 (bH (z c b s i H _ I h) λk l⟨j,B,A,m,n⟩=>y b l i B j k Q A m n) w f
def BL(w:gU X (.type T) r)(u:Gl X x)(q:X.mg x=none)(n:tw x=some (.type T))(y:PA X (e::c) t)(o:x≠"__name__":=by decide)(f:(x==("__debug__":ak))=false:=by decide)(v:aB (e::c) X.ae=(false,aO e X.ae)::aB c X.ae:=by rfl)(d:(eK b<|aB c X.ae).any (·.1)=false:=by rfl):PE X (.Call (.Name x p) (e::c) [] b) (Mq r t):=by intro a s g H Q I h;refine Ax<|lu I u q n ?_ o f;exact nL (bH (y b a s g H _ I h) λj k⟨i,A,z,l,m⟩=>w a k g A i j Q z l m) v d
end L2
namespace HT
open PySem PyProof.Rows
def lexLt:List Int->List Int->Bool
 |[],[]=>false
 |[],_::_=>true
 |_::_,[]=>false
 |x::b,y::a=>if x=y then lexLt b a else decide (x<y)
def FP(x y:Int)(b a:List Int):lexLt (x::b) (y::a)=if x=y then lexLt b a else decide (x<y):=rfl
def Fu:lexLt [] []=false:=rfl
def Fo(y:Int)(a:List Int):lexLt [] (y::a)=true:=rfl
def Fp(x:Int)(a:List Int):lexLt (x::a) []=false:=rfl
def Ir(A:b8)(s:am)(a:Int)(t:fR)(c:Int)(u:fR):∃e,NR A s (.int a t) (.int c u) e/\(e=true↔a=c):=⟨(a==c),aay a t c u,by simp⟩
def Sx(A:b8)(s:am)(a:Int)(t:fR)(c:Int)(u:fR)(b:a0)(w:aT)(E:af->am->Prop)(Q:af->am->Prop)(h:Q (.bool<|decide<|a<c) s):
 aw (aH b w) A (mQ .Lt (.int a t)<|.int c u) Q E s:=
 (abY h:aw (aH b w) A (gw .Lt (.int a t)<|.int c u) Q E s)
section
open PySem.SeqAt
open PySem.AutoSeq1(wpAny_loadPart')
open PySem.MeetsSeq PySem.MeetsSeq2 PySem.MeetsSeq3
def Oe(l b:aa)(i f:Array af)(n n2:Nat)(dd X:Option aa)(sl N:Array (Option af))(Q S:List Int)(hi:iB i.toList Q)(hj:iB f.toList S):
 Meets (Builtin.«tuple.__lt__» ⟨[.ref l,.ref b],[]⟩)
  (λ_ R s=>s.heap.get? l=some { cls:=.type "tuple",dict:=dd,data:=.seq i n,slots:=sl}/\s.heap.get? b=some { cls:=.type "tuple",dict:=X,data:=.seq f n2,slots:=N}/\
   R (.ok<|.ret<|.bool<|lexLt Q S) s):=
 .of_wp λr w A R s h=>by
  obtain⟨M,g,d,L,os⟩:=s;obtain⟨hl,hb,h⟩:=h;have f2:=aab;have z1:i.size=Q.length:=by rw[<-hi.length];simp
  have z2:f.size=S.length:=by rw[<-hj.length];simp
  wp_walk using p_ hl,p_ hb,acE _ (λq b O=>b.1=none/\O=⟨M,g,d,L,os⟩/\∃(J I:List af)(k m:List Int),q=J.zip I/\
   iB J k/\iB I m/\k.length+f.size=m.length+i.size/\R (.ok<|.ret<|.bool<|lexLt k m) ⟨M,g,d,L,os⟩) _
  case turn=>
   rintro⟨y,x⟩ q b O ⟨B,rfl,J,I,k,m,o,z,p,j,C⟩;cases z with
   |nil=>rw[abv] at o;cases o
   |cons a t a'=>
    cases p with
    |nil=>rw[abd] at o;cases o
    |cons c u Z=>
     rw[xc] at o;injection o with T V;injection T with hy hx;subst hy hx;rw[FP] at C;simp only[dI] at j;obtain⟨e,he,D⟩:=Ir A.in1 ⟨M,g,d,L,os⟩ a t c u;refine ao<|he r w _ _ ?_;cases e with
     |true=>
      rw[aM<|D.mp rfl] at C
      wp_walk
      grind
     |false=>
      rw[aL<|by grind] at C;have U:=Sx A.in1 ⟨M,g,d,L,os⟩ a t c u r w
      wp_walk using U
      grind
  case fin=>
   rintro⟨b1,b2⟩ O ⟨B,rfl,J,I,k,m,o,z,p,j,C⟩;simp only at B;subst B;have hv:lexLt k m=decide (i.size<f.size):=by
    cases z with
    |nil=>
     cases p with
     |nil=>simp only[uY] at j;rw[Fu];grind
     |cons c u hw=>simp only[uY,dI] at j;rw[Fo];grind
    |cons a t hv=>
     cases p with
     |nil=>simp only[uY,dI] at j;rw[Fp];grind
     |cons c u hw=>rw[xc] at o;cases o
   rw[hv] at C
   wp_walk
   exact⟨_,rfl,by simpa [ZS] using C⟩
  grind
end
def FO{Q:af->am->Prop}(y:vf s.heap l c)(C:vf s.heap b a)(B:iB c.toList g)(z:iB a.toList i)(v:A.units<cH)(h:Q (.bool<|lexLt g i) s):aw (aH prog w) A (gw .Lt (.ref l)<|.ref b) Q E s:=by
 obtain⟨⟨H,D,q,t⟩,m,p,n,o⟩:=id y;obtain⟨⟨r,k,data2,j⟩,d,f,u,e⟩:=id C;simp only at p o f e;subst p o f e;exact abo (op:=.Lt) ⟨_,m,rfl⟩ ⟨_,d,rfl⟩ PySem.F.slot_tuple_lt PySem.F.entry_tuple_lt (PySem.F.args_tuple_lt_2 _ _) (Oe l b c a n u D k t j g i B z)
  ⟨m,d,show lY (lexLt g i)≠aaO/\Q (.bool<|lexLt g i) s from⟨(λx=>nomatch x),h⟩⟩ v
def iU(n d:Nat):Option Int->Nat
 |none=>d
 |some v=>if v<0 then(v+(n:Int)).toNat else min v.toNat n
def yt(n d:Nat):iU n d none=d:=rfl
def vJ(n d k:Nat):iU n d (some (k:Int))=min k n:=by rfl
end HT
namespace L2
open PySem PySem.Spec PyProof.Rows
abbrev TO:=St->Hp->(Option Int->Hp->Prop)->Prop
def PO(X:Cx)(e:Option az)(t:TO):Prop:=
 ∀(a:List (aa×bD))(s:am)(b:St)(H:Hp)(Q:Option Int->Hp->Prop),Inv X a b H s->t b H Q->
  aw (aH X.prog X.w) X.A (evalPart e X.ae) (λu d=>∃o c,Inv X a b c d/\IsPart u o/\Q o c) X.xe s
def Vz:TO:=λ_ H Q=>Q none H
def XD(t:TE):TO:=λa H Q=>t a H λx b=>∃i,x=.int i/\Q (some i) b
def xY:∀{a:List af},bF (ns.map V.int) a->iB a ns:=by
 induction ns with
 |nil=>intro a r;rw[xp] at r;cases r;exact .nil
 |cons n ns d=>
  intro a r;rw[dB] at r;cases r with
  |cons c b=>obtain⟨t,e⟩:=c;subst e;exact .cons n t<|d b
def JE:PO X none Vz:=by intro a s b H Q I h;rw[evalPart_none];exact a8 ⟨none,H,I,.none,h⟩
def Jo(h:PE X e c):PO X (some e) (XD c):=by intro a s b H Q I hw;rw[evalPart_some];refine bH (h a s b H _ I hw) λu k⟨x,j,g,d,f⟩=>?_;obtain⟨i,rfl,q⟩:=f;obtain⟨t,rfl⟩:=d;exact⟨some i,j,g,.int i t,q⟩
def My(X:Cx)(r:V->Option Int->Option Int->Hp->VK->Prop):Prop:=
 ∀(a:List (aa×bD))(s:am)(b:St)(H:Hp)(x:V)(v d c:af)(lo f:Option Int)(e:aa)(Q:VK),Inv X a b H s->bM x v->s.heap.IsSliceOf e d c .none->IsPart d lo->IsPart c f->r x lo f H Q->
  ∃T id,qj (.type T) "__getitem__"=pure (some (.builtin id))/\s.TypeIs v T/\aw (aH X.prog X.w) X.A (xw v (.ref e)) (EP X a b Q) X.xe s
def ZM(r:V->Option Int->Option Int->Hp->VK->Prop)(d:TE)(b c:TO):TE:=λa H Q=>d a H λx g=>b a g λl f=>c a f λu e=>r x l u e Q
def BS(Y:My X r)(he:PE X e y)(Z:PO X a p)(S:PO X n t):PE X (.Subscript e (.Slice a n none O) M) (ZM r y p t):=by intro c s i H Q I h;refine N3<|bH (he c s i H _ I h) λv B⟨x,H1,I1,C,J⟩=>?_;refine wpAny_Slice<|bH (Z c B i H1 _ I1 J) λm z⟨l,H2,I2,N,E⟩=>bH (S c z i H2 _ I2 E) λk d⟨u,o,I3,L,D⟩=>?_;rw[evalPart_none];refine a8 ?_;have I4:Inv X c i o { d with heap:=d.heap.push { cls:=.type "slice",data:=.fields #[m,k,.none]}}:=I3.eN (t':=d.toks) λb ob q=>bV _ q;obtain⟨T,id,hT,U,hg⟩:=Y c { d with heap:=d.heap.push { cls:=.type "slice",data:=.fields #[m,k,.none]}} i o x v m k l u d.heap.objs.size Q I4 C (acK ..) N L D;show aw (aH X.prog X.w) X.A (NS e (.Slice a n none O) v<|.ref d.heap.objs.size) (EP X c i Q) X.xe { d with heap:=d.heap.push { cls:=.type "slice",data:=.fields #[m,k,.none]}};exact tail_any (ops:=[.ref d.heap.objs.size,v]) U hT hg<|by rfl
def pE(a:List V)(lo b:Option Int):List V:=(a.drop<|HT.iU a.length 0 lo).take<|HT.iU a.length a.length b-HT.iU a.length 0 lo
def Ov(a:List V)(lo b:Option Int):(pE a lo b).length<=a.length:=by unfold pE;grind
def mG(n:Nat)(i:Int):Option Nat:=if 0<=i then(if i<n then some i.toNat else none) else if-(n:Int)<=i then some (i+n).toNat else none
def e5{a:Type}(b:List a)(i:Int):Option a:=(mG b.length i).bind λj=>b[j]?
def Vg(h:mG n i=some j):seqIndex? i n=some j/\j<n/\ -(n:Int)<=i/\i<n:=by
 unfold mG at h;by_cases b:0<=i
 ·rw[aM b] at h;by_cases a:i<n
  ·rw[aM a] at h;have e:i.toNat=j:=ta h;exact⟨by rw[seqIndex_of b a,e],by omega,by omega,a⟩
  grind
 ·rw[aL b] at h;by_cases a:-(n:Int)<=i
  ·rw[aM a] at h;have e:(i+n).toNat=j:=ta h;exact⟨by rw[seqIndex_neg (by omega) a,e],by omega,a,by omega⟩
  grind
def IZ(h:e5 a i=some v):∃j,seqIndex? i a.length=some j/\a[j]?=some v/\j<a.length/\ -(a.length:Int)<=i/\i<a.length:=by
 unfold e5 at h;cases e:mG a.length i with
 |none=>grind
 |some j=>rw[e] at h;obtain⟨f,d,c,b⟩:=Vg e;grind
def fM{a:List b}{j:Nat}{v:b}(h:a[j]?=some v):e5 a (j:Int)=some v:=by
 have c:j<a.length:=by grind
 have e:mG a.length (j:Int)=some j:=by unfold mG;grind
 unfold e5;grind
def t_(b:az):Prop:=∀o i,Fc b false o i=operate [o,i] (xw o i)
def Eg(X:Cx)(r:R2):Prop:=
 ∀(c a:az)(b:List (aa×bD))(s:am)(d:St)(H:Hp)(x y:V)(v u:af)(Q:VK),Inv X b d H s->bM x v->bM y u->r x y H Q->
  Fc a false v u=operate [v,u] (xw v u)->aw (aH X.prog X.w) X.A (NS c a v u) (EP X b d Q) X.xe s
def Ee(X:Cx)(id:String)(r:V->List V->Hp->VK->Prop):Prop:=
 ∀(a:List (aa×bD))(s:am)(b:St)(H:Hp)(x:V)(c:List V)(v:af)(d:List af)(Q:VK),Inv X a b H s->bM x v->bF c d->r x c H Q->
  aw (aH X.prog X.w) X.A (call (.builtin id)<|v::d) (EP X a b Q) X.xe s
def wf(m:Eg X r)(o:PE X a f)(n:PE X b e)(l:t_ b):PE X (.Subscript a b k) (z5 r f e):=by intro c s d H Q I h;exact N3<|DN o n I h λv u g x y t p j i q=>m a b c g d t x y v u Q p j i q<|l _ _
def Ze(K:ax):R2:=λx y H Q=>∃p a i v,x=.ref p/\y=.int i/\bi K H p a/\e5 a i=some v/\Q v H
def Zi(K:ax):R2:=λx y H Q=>∃p a i v,x=.ref p/\y=.int i/\cV K H p a/\e5 a i=some v/\Q v H
def yO:Eg X (Ze X.K):=by
 intro c d a s k H x y v u Q I B A h l;obtain⟨p,N,i,z,rfl,rfl,C,E,q⟩:=h;cases B;obtain⟨t,rfl⟩:=A;obtain⟨g,r,f,O⟩:=I.list C;obtain⟨j,m,M,T,L,J⟩:=IZ E;obtain⟨w,U,e⟩:=r.get M;have S:=r.length;have R:=CY;have b:EP X a k Q w s:=⟨z,H,I,e,q⟩
 by_cases n:0<=i
 ·have D:i.toNat=j:=by rw[seqIndex_of n J] at m;grind
  exact item_listR f.isList n (by omega) (by grind) b l
 ·have D:(i+(g.toArray.size:Int)).toNat=j:=by rw[seqIndex_neg (by omega) L] at m;grind
  exact abu (x:=w) f.isList.typeIs acr.lookup
   (wpAny_getItem_list_neg (Q:=λr o=>r=w/\EP X a k Q r o) f.isList (by omega) (by grind) (by omega) (by grind) ⟨rfl,b⟩) l
def Xn:Eg X (Zi X.K):=by
 intro b c a s f H x y v u Q I m l h o;obtain⟨p,D,i,z,rfl,rfl,A,B,q⟩:=h;cases m;obtain⟨t,rfl⟩:=l;obtain⟨n,r,g,E⟩:=I.tuple A;obtain⟨j,R,C,O,N,M⟩:=IZ B;obtain⟨w,S,d⟩:=r.get C;have L:=r.length;have J:=CY;have e:EP X a f Q w s:=⟨z,H,I,d,q⟩
 exact abu (x:=w) g.typeIs slot_tuple_getitem.lookup
  (getItem_tuple (j:=j) (Q:=λr k=>r=w/\EP X a f Q r k) g (by omega) (by omega) (by grind) (by grind) ⟨rfl,e⟩) o
def Oi(lo a:Option Int)(n:Nat):(AO lo a none n).1=((HT.iU n 0 lo:Nat):Int)/\(AO lo a none n).2.1=((HT.iU n n a:Nat):Int)/\(AO lo a none n).2.2=1:=by
 refine⟨?_,?_,rfl⟩
 ·cases lo with
  |none=>rfl
  |some i=>simp only[AO,HT.iU,abc,show(1:Int) > 0 by decide,k6];grind
 ·cases a with
  |none=>rfl
  |some i=>simp only[AO,HT.iU,abc,show(1:Int) > 0 by decide,k6];grind
def Oa(a:List af)(lo b:Option Int):slicePick a.toArray lo b none=((a.drop<|HT.iU a.length 0 lo).take<|HT.iU a.length a.length b-HT.iU a.length 0 lo).toArray:=by obtain⟨e,d,c⟩:=Oi lo b a.toArray.size;unfold slicePick;rw[e,d,c];simp only[sliceRange_one,pick_run,Au]<;>rfl
def YQ(K:ax):V->Option Int->Option Int->Hp->VK->Prop:=λx lo c H Q=>∃a b,x=.ref a/\bi K H a b/\∀p,H p=none->Q (.ref p) (bv H p (.aq (pE b lo c)))
def CH:My X (YQ X.K):=by
 intro f s t H x v w u lo e z Q I i p k j h;obtain⟨a,c,rfl,n,q⟩:=h;cases i;obtain⟨l,r,g,m⟩:=I.list n;have d:=r.length;refine⟨"list",_,acr.lookup,g.isList.typeIs,?_⟩;refine wpAny_getItem_list_slice g.isList p k j .none (by simp) ?_<|by grind
 rw[Oa,<-d];refine⟨.ref s.heap.objs.size,_,I.ij (t':=s.toks) (o:=.aq<|pE c lo e) (λb A q=>bV _ q) (cs _) ?_,rfl,q _<|I.a_.fresh<|cs _⟩;exact⟨dY (Ov c lo e) m,_,0,(r.drop<|HT.iU c.length 0 lo).take<|HT.iU c.length c.length e-HT.iU c.length 0 lo,dM _ rfl⟩
def qP:V->Bool
 |.aS=>true
 |.bl _=>true
 |.int _=>true
 |.str _=>true
 |_=>false
def ra:V->V->Bool
 |.aS,.aS=>true
 |.bl a,.bl b=>a==b
 |.bl a,.int b=>(if a then 1 else 0)==b
 |.int a,.bl b=>a==(if b then 1 else 0)
 |.int a,.int b=>a==b
 |.str a,.str b=>a==b
 |_,_=>false
def Wn(e:bM y u)(c:bM x v)(g:qP y=true)(f:qP x=true):NR A s u v (ra y x):=by
 cases y with
 |aS=>
  cases e;cases x with
  |aS=>cases c;exact SeqAt.EqAt.same _
  |bl b=>cases c;exact SeqAt.EqAt.none_bool b
  |int b=>obtain⟨t,rfl⟩:=c;exact SeqAt.EqAt.none_int b t
  |str b=>obtain⟨t,rfl⟩:=c;exact SeqAt.EqAt.none_str b t
  |_=>exact cy (show false=true from f) gu
 |bl a=>
  cases e;cases x with
  |aS=>cases c;exact SeqAt.EqAt.bool_none a
  |bl b=>cases c;exact SeqAt.EqAt.bool_bool a b
  |int b=>obtain⟨t,rfl⟩:=c;exact SeqAt.EqAt.bool_int a b t
  |str b=>obtain⟨t,rfl⟩:=c;exact SeqAt.EqAt.bool_str a b t
  |_=>exact cy (show false=true from f) gu
 |int a=>
  obtain⟨d,rfl⟩:=e;cases x with
  |aS=>cases c;exact SeqAt.EqAt.int_none a d
  |bl b=>cases c;exact SeqAt.EqAt.int_bool a d b
  |int b=>obtain⟨t,rfl⟩:=c;exact aay a d b t
  |str b=>obtain⟨t,rfl⟩:=c;exact aax a d b t
  |_=>exact cy (show false=true from f) gu
 |str a=>
  obtain⟨d,rfl⟩:=e;cases x with
  |aS=>cases c;exact SeqAt.EqAt.str_none a d
  |bl b=>cases c;exact SeqAt.EqAt.str_bool a d b
  |int b=>obtain⟨t,rfl⟩:=c;exact aaw a d b t
  |str b=>obtain⟨t,rfl⟩:=c;exact SeqAt.EqAt.str_str a d b t
  |_=>exact cy (show false=true from f) gu
 |_=>exact cy (show false=true from g) gu
def pR(x:V)(u:af):Bool:=match u with
 |.none=>ra .aS x
 |.bool b=>ra (.bl b) x
 |.int i _=>ra (.int i) x
 |.str z _=>ra (.str z) x
 |_=>false
def KJ(r:bM y u)(f:qP y=true):pR x u=ra y x:=by
 cases y with
 |aS=>cases r;rfl
 |bl b=>cases r;rfl
 |int i=>obtain⟨t,rfl⟩:=r;rfl
 |str z=>obtain⟨t,rfl⟩:=r;rfl
 |_=>exact cy (show false=true from f) gu
def CO:∀{a:List V}{b:List af},bF a b->a.all qP=true->b.any (pR x)=a.any λy=>ra y x
 |_,_,.nil,_=>rfl
 |y::a,u::b,.cons r t,f=>by rw[rB,dc] at f;rw[rA,rA,KJ r f.1,CO t f.2]
def BU(d:bM x v)(e:qP x=true):∀{b:List V}{c:List af},bF b c->b.all qP=true->∀u∈c,NR A s u v (pR x u)
 |_,_,.nil,_=>λu a=>by cases a
 |y::b,u::c,.cons r t,f=>λg a=>by
  rw[rB,dc] at f;rcases cO.mp a with rfl|a;·rw[KJ r f.1];exact Wn r d f.1 e
  ·exact BU d e t f.2 g a
def z4(x:V)(a:List V):Bool:=a.any λy=>ra y x
def ZG(K:ax)(b:Bool):R2:=λx y H Q=>∃p a,y=.ref p/\(bi K H p a\/cV K H p a)/\qP x=true/\a.all qP=true/\Q (.bl (if b then !z4 x a else z4 x a)) H
def Op:eP X (gw .NotIn) (ZG X.K true):=by
 intro f s k H x y v u Q I e i h;obtain⟨p,l,rfl,b,g,c,q⟩:=h;cases i;rcases b with b|b
 ·obtain⟨a,r,d,j⟩:=I.list b;refine SeqAt.notIn_listAt (pR x) d.isList (λw hw=>BU e g r c w<|by grind) ⟨.bl _,H,I,rfl,?_⟩;rw[show a.toArray.any (pR x)=a.any (pR x) by simp,CO r c];exact q
 ·obtain⟨a,r,d,j⟩:=I.tuple b;refine SeqAt.notIn_tupleAt (pR x) d (λw hw=>BU e g r c w<|by grind) ⟨.bl _,H,I,rfl,?_⟩;rw[show a.toArray.any (pR x)=a.any (pR x) by simp,CO r c];exact q
def xJ:gU X (.builtin "len") (λg H Q=>∃p a,g=[.ref p]/\(bi X.K H p a\/cV X.K H p a)/\Q (.int a.length) H):=by
 intro i s l H g m Q I r h;obtain⟨p,a,rfl,b,q⟩:=h;obtain⟨u,rfl,j⟩:=DL r;cases j;have n:=CY;rcases b with b|b
 ·obtain⟨f,d,e,k⟩:=I.list b;have c:=d.length;exact Calls.call_len_list e.isList (by grind) ⟨.int a.length,H,I.jb _,⟨s.toks+1,by grind⟩,q⟩
 ·obtain⟨f,d,e,k⟩:=I.tuple b;have c:=d.length;exact len_tuple e (by grind) ⟨.int a.length,H,I.jb _,⟨s.toks+1,by grind⟩,q⟩
def Ol:gU X (.type "list") (λA H Q=>∃p c,A=[.ref p]/\(bi X.K H p c\/cV X.K H p c)/\∀l,H l=none->Q (.ref l) (bv H l (.aq c))):=by
 intro f s J H A R Q I r h;obtain⟨p,c,rfl,g,q⟩:=h;obtain⟨u,rfl,L⟩:=DL r;cases L;have N:∀(a:List af),bF c a->c.length<=bx->∀(j:aJ)(z:Nat),(∀b B,s.heap.get? b=some B->j.get? b=some B)->
  j.get? s.heap.objs.size=some { cls:=.type "list",dict:=none,data:=.seq a.toArray z,slots:=#[]}->EP X f J Q (.ref s.heap.objs.size) { s with heap:=j}:=λa d t j z M e=>
  ⟨.ref s.heap.objs.size,_,I.ij (t':=s.toks) M (cs _)<|show eA X.prog X.w _ j _ (.aq c) from⟨t,a,z,d,e⟩,rfl,q _<|I.a_.fresh<|cs _⟩
 rcases g with g|g
 ·obtain⟨a,d,m,t⟩:=I.list g;have i:=d.length;obtain⟨o,v,y,n,x⟩:=m.isList;exact call_list_seq p (.inl rfl) v y x (by grind)<|by grind
 ·obtain⟨a,d,m,t⟩:=I.tuple g;have i:=d.length;obtain⟨o,v,y,n,x⟩:=m;exact call_list_seq p (.inr rfl) v y x (by grind)<|by grind
def D_(K:ax)(T:String)(x:V)(H:Hp):Prop:=match x with
 |.str _=>T="str"
 |.int _=>T="int"
 |.ref p=>(T="list"/\∃b,bi K H p b)\/(T="tuple"/\∃o,K.lookup p=some o/\o.cls=.type "tuple"/\o.dict=none)\/
  (T="dict"/\((∃a,H p=some (.dK a))\/∃a,H p=some (.dT a)))\/(T="set"/\∃S n,H p=some (.set S n))
 |_=>False
def Kc(I:Inv X k y H s)(r:bM x v)(f:D_ X.K T x H):
 s.TypeIs v T/\∀a,v=.ref a->∃l,s.heap.get? a=some l/\l.dict=none:=by
 cases x with
 |str z=>obtain⟨t,rfl⟩:=r;cases(show T="str" from f);exact⟨typeIs_str s z t,λ_ e=>nomatch e⟩
 |int i=>obtain⟨t,rfl⟩:=r;cases(show T="int" from f);exact⟨typeIs_int s i t,λ_ e=>nomatch e⟩
 |ref p=>
  cases r;rcases f with⟨rfl,A,u⟩|⟨rfl,o,b,w,m⟩|⟨rfl,b⟩|⟨rfl,S,n,b⟩
  ·obtain⟨q,_,j,_⟩:=I.list u;refine⟨j.isList.typeIs,λa e=>?_⟩;cases e;obtain⟨o,n,e,c,m,_⟩:=j;grind
  ·refine⟨⟨o,I.lN p o b,w⟩,λa e=>?_⟩;cases e;exact⟨o,I.lN _ o b,m⟩
  ·have z:∃o,s.heap.get? p=some o/\o.ExactDict:=by
    rcases b with⟨g,b⟩|⟨g,b⟩
    ·obtain⟨_,_,_,_,o,_,_,e,d,_⟩:=I.a_ p _ b;grind
    ·obtain⟨_,_,_,_,o,_,_,e,d,_⟩:=I.a_ p _ b;grind
   obtain⟨o,e,d⟩:=z;refine⟨⟨o,e,d.1⟩,λa h=>?_⟩;cases h;exact⟨o,e,d.2.1⟩
  ·obtain⟨o,_,_,_,e,d,_⟩:=I.a_ p _ b;refine⟨⟨o,e,d.1⟩,λa h=>?_⟩;cases h;exact⟨o,e,d.2.1⟩
 |_=>exact lZ f
def Y5(K:ax)(T:String)(r:V->List V->Hp->VK->Prop)(c:TE):TE:=λb H Q=>c b H λx a=>D_ K T x a/\r x [] a Q
def ZD(K:ax)(T:String)(r:V->List V->Hp->VK->Prop)(d:TE)(t:TA):TE:=λa H Q=>d a H λx b=>D_ K T x b/\t a b λc e=>r x c e Q
def Km(t:PlainAttrs T)(e:Slot T name a)(i:typeOf (.builtin a)=pure (.type "method_descriptor"))(w:Ee X a r)(u:PE X o n)(d:kx o name X.ae (aO o X.ae)=aO o X.ae:=by rfl)(c:(g.endLine==f.line)=true:=by rfl):PE X (.Call (.Attribute o name g) [] [] f) (Y5 X.K T r n):=by intro b s j H Q I h;refine wpAny_Call_method0_late d c<|bH (u b s j H _ I h) λv p⟨x,A,l,k,m,q⟩=>?_;obtain⟨z,y⟩:=Kc l k m;exact⟨T,a,t,e,i,z,y,Es rfl<|PySem.evalArgs_none<|w b p j A x [] v [] Q l k .nil q⟩
def uj(L:PlainAttrs T)(i:Slot T name a)(n:typeOf (.builtin a)=pure (.type "method_descriptor"))(O:Ee X a r)(N:PE X o A)(R:PA X (e::g) t)(f:kx o name X.ae (aO o X.ae)=aO o X.ae:=by rfl)(j:((eK b<|aB (e::g) X.ae).all (λx=>!x.1)&&(backToKw b<|NX [] X.ae).all (λx=>x.1.isSome)
 &&decide ((e::g).length+([]:List xy).length+(if([]:List xy).isEmpty then 0 else 1)<30))=true:=by rfl)(d:(k.endLine==b.line)=true:=by rfl)(M:aB (e::g) X.ae=(false,aO e X.ae)::aB g X.ae:=by rfl)(l:(eK b<|aB g X.ae).any (·.1)=false:=by rfl):
 PE X (.Call (.Attribute o name k) (e::g) [] b) (ZD X.K T r A t):=by
 intro c s m H Q I h;refine wpAny_Call_method_late f j d rfl<|bH (N c s m H _ I h) λv C⟨x,H1,u,p,z,J⟩=>?_;obtain⟨U,S⟩:=Kc u p z;refine⟨T,a,L,i,n,U,S,?_⟩;have q:=R b c C m H1 _ u J;rw[M] at q ⊢;refine Es (by grind)<|MQ ?_;exact bH q λy B⟨w,Z,Y,D,E⟩=>O c B m Z x w v y Q Y p D E
def wL(X:Cx)(id:String)(r:V->List V->Hp->VK->Prop):Prop:=
 ∀(a:List (aa×bD))(s:am)(b:St)(H:Hp)(x:V)(c:List V)(v:af)(d:List af)(Q:VK),Inv X a b H s->bM x v->bF c d->r x c H Q->
  aw (aH X.prog X.w) X.A (call (.builtin id)<|v::d) (EP X a b Q) X.xe s
def bF.one:∀{x:V}{a:List af},bF [x] a->∃u,a=[u]/\bM x u
 |_,_,.cons r .nil=>⟨_,rfl,r⟩
def bF.zero:∀{a:List af},bF [] a->a=[]
 |_,.nil=>rfl
def bF.dropLast(h:bF a b):bF a.dropLast b.dropLast:=by
 induction h with
 |nil=>exact .nil
 |cons r t c=>
  cases t with
  |nil=>grind
  |cons q d=>exact .cons r c
def bF.reverse(h:bF a b):bF a.reverse b.reverse:=by
 induction h with
 |nil=>exact .nil
 |cons r t c=>rw[Av,Av];exact bF.append c<|.cons r .nil
def Inv.wG{b:List af}(I:Inv X a i H s)(r:H l=some (.aq v))(e:s.heap.get? l=some { cls:=.type "list",data:=.seq b.toArray n})(o:f b.toArray=its'.toArray)(k:bF c its')(j:c.length<=bx):
 Inv X a i (bv H l<|.aq c) { s with heap:=s.heap.update l<|cM f,toks:=w}:=by
 have q:=PySem.IsL.update e f;rw[o] at q;refine I.qM (x:=l) (e:=l) (by rw[r];exact trivial) (.inl rfl) (λy u p m=>(lR s.heap (cM f)<|ci p).trans m) ⟨_,q⟩ ?_;exact⟨j,its',_,k,q⟩
def Inv.YY(I:Inv X a g H s)(i:bF c b)(h:c.length<=bx):
 Inv X a g (bv H s.heap.objs.size<|.aq c) { s with heap:=s.heap.push { cls:=.type "list",data:=.seq b.toArray},toks:=t'}:=
 I.ij (λ_ _ q=>bV _ q) (cs _) ⟨h,b,0,i,dM _ rfl⟩
def Inv.fresh(I:Inv X a b H s):H s.heap.objs.size=none:=I.a_.fresh<|cs _
def Inv.q7(I:Inv X c h H s)(f:H l=some (.aq b)):b.length<=bx/\∃(a:List af)(n:Nat),bF b a/\b.length=a.length/\s.heap.get? l=some { cls:=.type "list",data:=.seq a.toArray n}:=by obtain⟨z,a,n,r,e⟩:=I.a_ l _ f;exact⟨z,a,n,r,r.length,e⟩
def Ig(h:n<=bx):Ah n=false:=by unfold Ah;grind
def UC:V->List V->Hp->VK->Prop:=λx b H Q=>∃l a y,x=.ref l/\b=[y]/\H l=some (.aq a)/\a.length<bx/\Q .aS (bv H l (.aq (a++[y])))
def G6:wL X "list.append" UC:=by intro b s j H x m v o Q I f g h;obtain⟨l,k,y,rfl,rfl,d,p,q⟩:=h;cases f;obtain⟨u,rfl,i⟩:=g.one;obtain⟨z,a,n,r,t,e⟩:=I.q7 d;refine u_ MM ⟨_,e,rfl⟩ F.entry_list_append (F.args_list_append_2 _ _) (PySem.list_append l a.toArray n u<|by grind) ⟨e,?_⟩;refine⟨.aS,_,I.wG (its':=a++[u]) d e (by simp) (r.append<|.cons i .nil) ?_,rfl,q⟩;grind
def UD:V->List V->Hp->VK->Prop:=λx d H Q=>∃l b c a,x=.ref l/\d=[.ref b]/\H l=some (.aq c)/\H b=some (.aq a)/\c.length+a.length<=bx/\Q .aS (bv H l (.aq (c++a)))
def Hw:wL X "list.extend" UD:=by
 intro g s B H x J v L Q I k m h;obtain⟨l,b,E,C,rfl,rfl,j,y,M,q⟩:=h;cases k;obtain⟨u,rfl,o⟩:=m.one;cases o;obtain⟨z,c,n,r,N,e⟩:=I.q7 j;obtain⟨D,a,t,p,w,A⟩:=I.q7 y;have f:c.toArray.size+a.toArray.size<=bx:=by grind
 have d:¬(!c.toArray.isEmpty&&Ah (c.toArray.size+a.toArray.size))=true:=by rw[Ig f,AH];grind
 refine u_ Ap ⟨_,e,rfl⟩ abG (abt _ _)
  (AutoSeq1.list_extend_list_list_0 l c.toArray n b a.toArray t d (by omega)<|by omega) ⟨e,A,?_⟩
 refine⟨.aS,_,I.wG (its':=c++a) j e (by simp) (r.append p) ?_,rfl,q⟩;grind
def YN:V->List V->Hp->VK->Prop:=λx b H Q=>∃l a y,x=.ref l/\b=[]/\H l=some (.aq a)/\a[a.length-1]?=some y/\Q y (bv H l (.aq a.dropLast))
def Wf:wL X "list.pop" YN:=by
 intro d s o H x t v w Q I i j h;obtain⟨l,p,y,rfl,rfl,g,m,q⟩:=h;cases i;have c:=j.zero;subst c;obtain⟨z,a,n,r,B,e⟩:=I.q7 g;obtain⟨u,A,k⟩:=r.get m;have b:a.toArray[a.toArray.size-1]?=some u:=by grind
 refine u_ abb ⟨_,e,rfl⟩ F.entry_list_pop (F.args_list_pop_1 _) (MeetsSeq.list_pop_last l a.toArray n u b<|by grind) ⟨e,?_⟩;refine⟨y,_,I.wG (its':=a.dropLast) g e ?_ r.dropLast ?_,k,q⟩;·grind
 grind
def To:V->List V->Hp->VK->Prop:=λx b H Q=>∃l a,x=.ref l/\b=[]/\H l=some (.aq a)/\Q .aS (bv H l (.aq a.reverse))
def Py:wL X "list.reverse" To:=by intro c s j H x m v o Q I g i h;obtain⟨l,k,rfl,rfl,f,q⟩:=h;cases g;have b:=i.zero;subst b;obtain⟨z,a,n,r,p,e⟩:=I.q7 f;refine u_ aaI ⟨_,e,rfl⟩ F.entry_list_reverse (F.args_list_reverse_1 _) (AutoSeq1.list_reverse_list_0 l a.toArray n<|by grind) ⟨e,?_⟩;refine⟨.aS,_,I.wG (its':=a.reverse) f e (by simp) r.reverse ?_,rfl,q⟩;grind
def Zn:R2:=λx y H Q=>∃l b c a,x=.ref l/\y=.ref b/\H l=some (.aq c)/\H b=some (.aq a)/\c.length+a.length<=bx/\∀p,H p=none->Q (.ref p) (bv H p (.aq (c++a)))
def Wz:eP X (rE .Add) Zn:=by
 intro d s t H x y v u Q I g f h;obtain⟨l,b,B,w,rfl,rfl,k,m,E,q⟩:=h;cases g;cases f;obtain⟨z,c,n,r,J,e⟩:=I.q7 k;obtain⟨A,a,D,i,j,p⟩:=I.q7 m;refine PySem.P.add_list e p ?_<|by grind
 have o:c.toArray++a.toArray=(c++a).toArray:=by simp
 rw[o];exact⟨.ref _,_,I.YY (t':=s.toks) (r.append i) (by grind),rfl,q _ I.fresh⟩
section
set_option maxRecDepth 100000 in
end
def bF.ints:∀{ns:List Int}{a:List af},bF (ns.map V.int) a->iB a ns
 |[],a,h=>by rw[xp] at h;cases h;exact IntsAre.nil
 |n::ns,a,h=>by
  rw[dB] at h;cases h with
  |cons r t=>obtain⟨k,rfl⟩:=r;exact IntsAre.cons n k<|bF.ints t
def A2:∀{a:List af}{b:List Int},iB a b->bF (b.map V.int) a
 |_,_,.nil=>by rw[xp];exact Paired.nil
 |_,_,.cons n t h=>by rw[dB];exact Paired.cons (show bM (V.int n) (rC n t) from⟨t,rfl⟩)<|A2 h
def bF.sv:∀{c:List Bool}{a:List af},bF (c.map V.bl) a->a=c.map lY
 |[],a,h=>by rw[xp] at h;cases h;rfl
 |b::c,a,h=>by
  rw[dB] at h;cases h with
  |cons r t=>cases r;rw[bF.sv t,dB]
def bF.nA(r:bF [V.ref a] b):b=[c7 a]:=by
 cases r with
 |cons r t=>cases t;cases r;rfl
def VJ(t:A.handled=none)(m:s.heap.IsList l f.toArray)(n:iB f j)(h:∀a c d,(∀b o,s.heap.get? b=some o->a.get? b=some o)->Q (.int j.sum d) { s with heap:=a,toks:=c}):aw (aH i w) A (call (.builtin "sum") [.ref l]) Q E s:=by
 obtain⟨q,e⟩:=n.allInts.items;have k:numsOf (intItems q).toList=j:=by rw[<-e];exact n.numsOf
 rw[nums_intItems] at k;rw[e] at m;refine PySem.sum_intListG t m λa c d r=>?_;have:=h a c d r;rw[preSum_eq,w8 (by simp),k];omega
def UJ(D:A.handled=none)(q:s.heap.IsList l i.toArray)(r:iB i d)(z:0<d.length)(h:∀f g M x,(∀b o,s.heap.get? b=some o->f.get? b=some o)->M∈d->(∀a,a∈d->a<=M)->Q (.int M x) { s with heap:=f,toks:=g}):aw (aH n w) A (call (.builtin "max") [.ref l]) Q E s:=by
 obtain⟨c,e⟩:=r.allInts.items;have p:numsOf (intItems c).toList=d:=by rw[<-e];exact r.numsOf
 rw[nums_intItems] at p;subst p;rw[e] at q;have k:0<c.size:=by grind
 refine PySem.max_intList D q k λv f g y B=>?_;obtain⟨t,rfl⟩:=intItems_at y;obtain⟨J,I⟩:=argBest_gt (numAt c)<|c.size-1;refine h f g _ t B ?_ λa H=>?_;·rw[numAt_eq];grind
 ·obtain⟨j,C,rfl⟩:=mem_getD H;rw[bS,Array.length_toList] at C;rw[<-numAt_eq];grind
def YU(K:ax):List V->Hp->VK->Prop:=λc H Q=>∃(a:aa)(b:List Int),c=[V.ref a]/\bi K H a (b.map V.int)/\Q (.int b.sum) H
def Zb(K:ax):List V->Hp->VK->Prop:=λc H Q=>∃(a:aa)(b:List Int),c=[V.ref a]/\bi K H a (b.map V.int)/\0<b.length/\∀m,m∈b->(∀y,y∈b->y<=m)->Q (.int m) H
def Ww(i:X.cX=true):gU X (.builtin "sum") (YU X.K):=by intro b s j H k l Q I r h;obtain⟨a,o,rfl,e,q⟩:=h;obtain⟨d,c,f,_⟩:=I.list e;rw[bF.nA r];exact VJ (I.ok.hd i) f.isList c.ints λp m n g=>⟨.int _,H,I.eN g,⟨_,rfl⟩,q⟩
def W1(j:X.cX=true):gU X (.builtin "max") (Zb X.K):=by intro c s n H o p Q I r h;obtain⟨a,v,rfl,f,b,q⟩:=h;obtain⟨e,d,g,_⟩:=I.list f;rw[bF.nA r];exact UJ (I.ok.hd j) g.isList d.ints b λw t m u i l k=>⟨.int _,H,I.eN i,⟨_,rfl⟩,q m l k⟩
def HM(d:s.heap.IsList l b)(h:∀a:am,a={ s with heap:=s.heap.push { cls:=.type "list_iterator",data:=.fields #[.ref l,.int 0 0]}}->
 (a.heap.IsListIter s.heap.objs.size l 0/\a.heap.IsList l b)->l≠s.heap.objs.size->Q (.ref s.heap.objs.size) a):aw (aH f w) A (AV<|.ref l) Q E s:=by
 have c:l<s.heap.objs.size:=by obtain⟨_,e,_⟩:=d;exact cq e
 exact uW d<|h _ rfl ⟨⟨_,dM _ rfl,rfl,rfl⟩,d.push _⟩<|fg c
def FK{f:List Bool}(e:a=f.map lY):
 TruthOf g w A (λi v=>a.toArray[i]?=some v) (λi=>f.getD i false):=λi v s Q E k h=>by
 have c:a[i]?=some v:=by grind
 rw[e,hZ] at c;obtain⟨b,l,rfl⟩:=aaA.mp c;have j:f.getD i false=b:=by grind
 have d:Q (f.getD i false) s:=h;rw[j] at d;exact p8 d
def G5:∀a:List Bool,(j4 a.length).any (λi=>a.getD i false)=a.any id
 |[]=>rfl
 |b::a=>by rw[dI,MO,rA,E8,rA,<-G5 a];rfl
def Hu:∀a:List Bool,(j4 a.length).all (λi=>a.getD i false)=a.all id
 |[]=>rfl
 |b::a=>by rw[dI,MO,rB,AJ,rB,<-Hu a];rfl
def Zj(K:ax):List V->Hp->VK->Prop:=λc H Q=>∃(a:aa)(b:List Bool),c=[V.ref a]/\bi K H a (b.map V.bl)/\Q (.bl (b.any id)) H
def YA(K:ax):List V->Hp->VK->Prop:=λc H Q=>∃(a:aa)(b:List Bool),c=[V.ref a]/\bi K H a (b.map V.bl)/\Q (.bl (b.all id)) H
def W8(p:X.cX=true):gU X (.builtin "any") (Zj X.K):=by
 intro g s v H w x Q I r h;obtain⟨a,B,rfl,l,q⟩:=h;obtain⟨d,k,m,_⟩:=I.list l;rw[bF.nA r];have i:=k.sv;refine call_any_walk<|HM m.isList λf t st e=>?_;subst t;refine⟨_,_,_,_,_,_,_,rfl,NQ (A:=X.A.in1) (I.ok.hd p) _ a e d.toArray,st,FK i,λz y n=>?_⟩;refine⟨.bl _,H,I.eN λb o j=>n b o (λc=>?_)<|bV _ j,?_,q⟩
 ·rcases cO.mp c with u|c;·exact cy (u▸cq j)<|qf _
  grind
 ·show lY _=lY _;rw[<-G5,i,Au,bS]
def Wv(p:X.cX=true):gU X (.builtin "all") (YA X.K):=by
 intro g s v H w x Q I r h;obtain⟨a,B,rfl,l,q⟩:=h;obtain⟨d,k,m,_⟩:=I.list l;rw[bF.nA r];have i:=k.sv;refine call_all_walk<|HM m.isList λf t st e=>?_;subst t;refine⟨_,_,_,_,_,_,_,rfl,NQ (A:=X.A.in1) (I.ok.hd p) _ a e d.toArray,st,FK i,λz y n=>?_⟩;refine⟨.bl _,H,I.eN λb o j=>n b o (λc=>?_)<|bV _ j,?_,q⟩
 ·rcases cO.mp c with u|c;·exact cy (u▸cq j)<|qf _
  grind
 ·show lY _=lY _;rw[<-Hu,i,Au,bS]
mutual
inductive Dp (K:ax) (H:Hp):V->ql->Prop
 |aS:Dp K H .aS .none
 |bl (b:Bool):Dp K H (.bl b) (.bool b)
 |int (i:Int):Dp K H (.int i) (.int i)
 |str (x:ak):Dp K H (.str x) (.str x)
 |aq {a:aa} {xs:List V} {ds:List ql}:bi K H a xs->uo K H xs ds->Dp K H (.ref a) (.list ds)
 |a9 {a:aa} {xs:List V} {ds:List ql}:cV K H a xs->uo K H xs ds->Dp K H (.ref a) (.tuple ds)
inductive uo (K:ax) (H:Hp):List V->List ql->Prop
 |nil:uo K H [] []
 |cons {v:V} {vs:List V} {d:ql} {ds:List ql}:Dp K H v d->uo K H vs ds->uo K H (v::vs) (d::ds)
end
mutual
def Dp.nj {X:Cx} {s:am} (I:Inv X f z H s):∀(d:ql)(v:V)(u:af),Dp X.K H v d->bM v u->∃e,xC s.heap u d e
 |.none,_,_,h,r=>by
  cases h
  cases r
  exact⟨_,Reads.none⟩
 |.bool b,_,_,h,r=>by
  cases h
  cases r
  exact⟨_,Reads.bool b⟩
 |.int i,_,_,h,r=>by
  cases h
  obtain⟨t,rfl⟩:=r
  exact⟨_,NV i t⟩
 |.str x,_,_,h,r=>by
  cases h
  obtain⟨t,rfl⟩:=r
  exact⟨_,Reads.str x t⟩
 |.list a,_,_,h,r=>by
  cases h with
  |aq j q=>
   cases r
   obtain⟨c,g,⟨o,n,l,p,_,m⟩,_⟩:=I.list j
   obtain⟨e,k⟩:=Dp.rP I a _ c q g
   exact⟨_,Reads.list l p m k⟩
 |.tuple a,_,_,h,r=>by
  cases h with
  |a9 j q=>
   cases r
   obtain⟨c,g,⟨o,l,p,n,m⟩,_⟩:=I.tuple j
   obtain⟨e,k⟩:=Dp.rP I a _ c q g
   exact⟨_,NH l p m k⟩
 |.dict _,_,_,h,_=>by cases h
def Dp.rP {X:Cx} {s:am} (I:Inv X f z H s):∀(a:List ql)(w:List V)(y:List af),uo X.K H w a->bF w y->∃e,ReadsAll s.heap y a e
 |[],_,_,h,r=>by
  cases h
  cases r
  exact⟨_,Nu⟩
 |d::a,_,_,h,r=>by
  cases h with
  |cons J E=>
   cases r with
   |cons B A=>
    obtain⟨e,D⟩:=Dp.nj I d _ _ J B
    obtain⟨L,C⟩:=Dp.rP I a _ _ E A
    exact⟨_,AD D C⟩
end
def YK(K:ax):R2:=λx y H Q=>∃d e,Dp K H x d/\Dp K H y e/\E7 d=true/\E7 e=true/\Q (.bl (tA d e)) H
def Y4(K:ax):R2:=λx y H Q=>∃d e,Dp K H x d/\Dp K H y e/\E7 d=true/\E7 e=true/\Q (.bl (!tA d e)) H
def VR(k:X.A.units+64<cH):eP X (gw .Eq) (YK X.K):=by intro a s n H x y v u Q I g f h;obtain⟨d,e,m,l,c,b,q⟩:=h;obtain⟨p,j⟩:=Dp.nj I d x v m g;obtain⟨o,i⟩:=Dp.nj I e y u l f;exact SeqAt.compareEq_shaped j i c b k ⟨.bl _,H,I,rfl,q⟩
def KZ(k:X.A.units+64<cH):eP X (gw .NotEq) (Y4 X.K):=by intro a s n H x y v u Q I g f h;obtain⟨d,e,m,l,c,b,q⟩:=h;obtain⟨p,j⟩:=Dp.nj I d x v m g;obtain⟨o,i⟩:=Dp.nj I e y u l f;exact SeqAt.compareNe_shaped j i c b k ⟨.bl _,H,I,rfl,q⟩
abbrev KO(h:aJ)(c:aa)(v:Option af):Prop:=h.IsCell c v
def YB(a c:fQ):fQ:={ a with names:=a.names.map λ(n,k)=>if(k== .free&&c.kind== .function&&c.names.lookup n==some .cell) then(n,.cell) else(n,k)}
def hC(a:List (ak×aa)):List (ak×kB)->List (ak×aa)->List (ak×aa)
 |[],b=>b
 |(n,k)::r,b=>if k== .free then hC a r ((n,(a.lookup n).getD 0)::b) else hC a r b
def FC(g:fA)(f:ak×kB->List (ak×aa)->Sem (ForInStep<|List<|ak×aa))
 (j:∀n k c,f (n,k) c=if k== .free then(do let a <-cellOf g n;pure (.yield ((n,a)::c))) else pure (.yield c)):
 ∀(b:List (ak×kB))(d:List (ak×aa)),(∀y∈b,y.2=.free->∃c,g.cells.lookup y.1=some c)->forIn b d f=pure (hC g.cells b d)
 |[],d,_=>by rfl
 |(n,k)::r,d,h=>by
  rw[nU,j];have m:=λd=>FC g f j r d<|by grind
  unfold hC;by_cases i:(k==Nt)=true
  ·rw[aM i,aM i];obtain⟨c,l⟩:=h (n,k) cc<|by grind
   have e:cellOf g n=pure c:=by unfold cellOf;rw[l]
   grind
  grind
def Pd(h:∀y∈a.names,y.2=.free->∃c,b.cells.lookup y.1=some c):closureFor a b=pure (hC b.cells a.names []):=by simp only[closureFor];rw[FC b _ (λn k c=>rfl) a.names [] h];rfl
def Bm{a:Type}:∀{l:List (ak×a)}{n:ak}{c:a},(n,c)∈l->∃b,l.lookup n=some b
 |(k,v)::r,n,c,h=>by
  rw[Nm];cases d:n==k with
  |true=>grind
  |false=>
   rcases cO.mp h with e|h;·grind
   ·exact Bm h
def xQ:∀{a:List (ak×kB)}{d:List (ak×aa)}{n:ak}{c:aa},(n,c)∈hC b a d->(n,c)∈d\/((n,.free)∈a/\c=(b.lookup n).getD 0)
 |[],_,_,_,h=>.inl h
 |(m,k)::r,d,n,c,h=>by
  unfold hC at h;split at h
  ·rename_i e;have e:k=.free:=by grind
   rcases xQ h with h|⟨g,f⟩;·grind
   grind
  ·rcases xQ h with h|⟨g,f⟩;·grind
   grind
def A8:∀{a:List (ak×kB)}{b:List (ak×aa)}{p:ak×aa},p∈b->p∈hC c a b
 |[],_,_,h=>h
 |(m,k)::r,b,p,h=>by
  unfold hC;split;·exact A8<|e8 _ h
  ·exact A8 h
def Bc:∀{a:List (ak×kB)}{acc:List (ak×aa)}{n:ak},(n,.free)∈a->(n,(cells.lookup n).getD 0)∈hC cells a acc
 |(m,k)::r,acc,n,h=>by
  unfold hC;rcases cO.mp h with e|h
  ·cases e;exact A8 cc
  ·split;·exact Bc h
   ·exact Bc h
def vr:∀{a:List (ak×kB)}{h:aJ}{d:List (ak×aa)}{x:ak}{c:aa},(x,c)∈iz h.objs.size a d->
 (x,c)∈d\/((x,.cell)∈a/\h.objs.size<=c/\KO (tE h a) c none)
 |[],_,_,_,_,h=>.inl h
 |(n,k)::r,h,d,x,c,b=>by
  unfold iz at b;unfold tE;split at b
  ·rename_i f;rw[aM f];have f:k=.cell:=by grind
   rw[<-iw h { cls:=.type "cell",data:=.cell none}] at b;rcases vr b with b|⟨l,g,j⟩
   ·rcases cO.mp b with e|b
    ·cases e;exact .inr ⟨f▸cc,cs _,_,EX r _ _ _<|dM _ rfl,rfl⟩
    grind
   ·rw[iw] at g;grind
  ·rename_i f;rw[aL f];rcases vr b with b|⟨l,g,j⟩;·grind
   grind
def yb:∀{names:List (ak×kB)}{n:Nat}{a:List (ak×aa)}{p:ak×aa},p∈a->p∈iz n names a
 |[],_,_,_,h=>h
 |(m,k)::r,n,a,p,h=>by
  unfold iz;split;·exact yb<|e8 _ h
  ·exact yb h
def BH:∀{a:List (ak×kB)}{n:Nat}{acc:List (ak×aa)}{x:ak},(x,.cell)∈a->∃c,(x,c)∈iz n a acc
 |(m,k)::r,n,acc,x,h=>by
  unfold iz;rcases cO.mp h with e|h
  ·cases e;exact⟨n,yb cc⟩
  ·split;·exact BH h
   ·exact BH h
def BG:∀{e:List (ak×kB)}{h:aJ}{d:List (ak×aa)}{x y:ak}{c:aa},(∀p∈d,p.2<h.objs.size)->(∀x y c,(x,c)∈d->(y,c)∈d->x=y)->
 (x,c)∈iz h.objs.size e d->(y,c)∈iz h.objs.size e d->x=y
 |[],_,_,_,_,_,_,j,g,f=>j _ _ _ g f
 |(n,k)::r,h,d,x,y,c,m,j,g,f=>by
  unfold iz at g f;split at g
  ·rename_i i;rw[aM i] at f;rw[<-iw h { cls:=.type "cell",data:=.cell none}] at g f;refine BG (h:=h.push _) (λp q=>?_) (λx y c a b=>?_) g f
   ·rw[iw];grind
   grind
  ·rename_i i;rw[aL i] at f;exact BG m j g f
def OA(h:Q (newEnv b s.heap.objs.size f (iz (s.heap.objs.size+1) b.names d) i l a (some g) e)
 { s with heap:=tE (s.heap.push { cls:=.type "dict",data:=.dict #[]}) b.names}):
 aw M A (newFunctionEnv b f d [] i l a (some g) e) Q E s:=by
 simp only[newFunctionEnv,aaX,k6];refine ao<|wpAny_alloc ?_;refine ao<|wpAny_layCells _ (λn k c=>rfl) b.names d _ _ ?_;rw[show({ s with heap:=s.heap.push { cls:=.type "dict",data:=.dict #[]}}:am).heap.objs.size=s.heap.objs.size+1 from iw ..];rw[oY];exact ao<|a8<|a8 h
def A_{b:fQ}:∀{a:List (ak×kB)}{x:ak}{k:kB},
 (a.map λ(n,k)=>if(k==Nt&&b.kind== .function&&b.names.lookup n==some .cell) then(n,abs) else(n,k)).lookup x=some k->
 ∃c,a.lookup x=some c/\(k=c\/(c=.free/\k=.cell))
 |[],_,_,h=>by simp at h
 |(n,d)::r,x,k,h=>by have e:=@A_ b r x k;grind
structure pz(N:List ak)(sc scope:fQ)(be:List (ak×Nat)):Prop where
 kind:scope.kind=.function
 DV:∀y∈scope.names,scope.names.lookup y.1=some y.2
 ix:∀p∈be,N[p.2]?=some p.1
 free:∀y∈scope.names,y.2=.free->sc.names.lookup y.1=some .cell\/sc.names.lookup y.1=some .free
 be:∀y∈scope.names,y.2=.local\/y.2=.cell->y.1∈be.map (·.1)\/y.1∉N
def fW(a:St):List Nat->St
 |[]=>a
 |v::b=>(fW a b).set v none
def vj(a:St):∀b:List Nat,(fW a b).length=a.length
 |[]=>rfl
 |v::b=>by unfold fW;rw[oV,vj a b]
def Bv:∀{a:List Nat},(fW b a)[i]?=some (some x)->b[i]?=some (some x)/\i∉a
 |[],h=>⟨h,by simp⟩
 |v::a,h=>by
  unfold fW at h;by_cases c:v=i;·grind
  ·rw[MU c] at h;obtain⟨e,d⟩:=Bv h;grind
abbrev Cx.dX(X:Cx)(s:am)(H:Hp)(a:fQ)(b:fA)(e:List aa):Cx:={ X with ir:=s,wK:=H,ae:=b,aR:=X.i6,ex:=e,fn:=λx=>a.names.lookup x==some .cell,pn:=[],xe:=λ_ _=>False}
def OH(I:Inv X R σ H s)(B:pz X.N X.ae.scope d a')(hN:X.N.Nodup)(A:∀b∈fp,mC X R H b/\b<s.heap.objs.size):
 Inv (X.dX s H d (e9 d (iz (s.heap.objs.size+1) d.names<|hC X.ae.cells d.names []) s.heap.objs.size X.ae) fp) [] (fW σ (a'.map (·.2))) H { s with heap:=tE (s.heap.push { cls:=.type "dict",data:=.dict #[]}) d.names}:=by
 have M:∀y∈d.names,y.2=.free->∃c,X.ae.cells.lookup y.1=some c:=λy hy e=>by
  rcases B.free y hy e with k|k;·exact I.ok.jV _<|.inl k
  ·exact I.ok.jV _<|.inr k
 generalize g:e9 d (iz (s.heap.objs.size+1) d.names<|hC X.ae.cells d.names []) s.heap.objs.size X.ae=f;have kp:∀b o,s.heap.get? b=some o->(tE (s.heap.push { cls:=.type "dict",data:=.dict #[]}) d.names).get? b=some o:=λb o e=>EX _ _ _ _<|bV _ e;have hL:f.locals=s.heap.objs.size:=by rw[<-g];rfl
 have l:f.cells=iz (s.heap.objs.size+1) d.names (hC X.ae.cells d.names []):=by rw[<-g];rfl
 have J:f.scope=YB d X.ae.scope:=by rw[<-g];rfl
 rw[<-iw s.heap { cls:=.type "dict",data:=.dict #[]}] at l;have cm:∀{y c},(y,c)∈hC X.ae.cells d.names []->X.ae.cells.lookup y=some c/\c<s.heap.objs.size:=λ{y c}t=>by
  rcases xQ t with t|⟨j,rfl⟩;·cases t
  ·obtain⟨c,hc⟩:=M _ j rfl;rw[hc];obtain⟨w,z⟩:=I.cell _ _ hc;exact⟨rfl,z.lt⟩
 have E:∀{y c},f.cells.lookup y=some c->(X.ae.cells.lookup y=some c/\c<s.heap.objs.size)\/(s.heap.objs.size+1<=c/\KO (tE (s.heap.push { cls:=.type "dict",data:=.dict #[]}) d.names) c none):=λ{y c}e=>by
  rw[l] at e;rcases vr (kT e) with t|⟨_,Z,h3⟩;·grind
  ·rw[iw] at Z;grind
 have S:∀{y},d.names.lookup y=some .free->∃c,f.cells.lookup y=some c/\X.ae.cells.lookup y=some c:=λ{y}hl=>by
  have hy:(y,Nt)∈d.names:=kT hl;obtain⟨c',u⟩:=Bm<|yb (names:=d.names) (n:=(s.heap.push { cls:=.type "dict",data:=.dict #[]}).objs.size)<|Bc (cells:=X.ae.cells) (acc:=[]) hy;rw[<-l] at u;refine⟨c',u,?_⟩;rw[l] at u;rcases vr (kT u) with t|⟨j,_,_⟩;·grind
  ·have:=B.DV _ j;grind
 have b':(X.dX s H d f fp).Ok:=by
  refine⟨I.ok.mod,by show f.scope.kind=_;rw[J];exact B.kind,by show f.globals=_;rw[<-g];exact I.ok.pG,by show f.builtins=_;rw[<-g];exact I.ok.uQ,by grind,
   λy z c O D=>?_,λy hy=>?_,λy c z e=>?_,I.ok.hd,I.ok.frames,.inl rfl,λb Q=>⟨?_,λy c e z=>?_⟩,I.bs,dY I.ok.pZ I.sz,λb o e Q=>?_,λb Q z=>?_,I.i6,I.Jp⟩
  ·have O:f.cells.lookup y=some c:=O;have D:f.cells.lookup z=some c:=D;rw[l] at O D;refine BG (λp hp=>?_) (λy z c a b=>I.ok.inj y z c (cm a).1 (cm b).1) (kT O)<|kT D;rw[iw];grind
  ·show ∃c,f.cells.lookup y=some c;have f':∀k,f.kindOf y=some k->(k=.cell\/k=.free)->∃c,f.cells.lookup y=some c:=λk L Y=>by
    unfold Env.kindOf at L;rw[J] at L;obtain⟨C,e,r⟩:=A_ L;have:C=.cell\/C=.free:=by grind
    rcases this with rfl|rfl
    ·obtain⟨c,t⟩:=BH (n:=(s.heap.push { cls:=.type "dict",data:=.dict #[]}).objs.size) (acc:=hC X.ae.cells d.names [])<|kT e;obtain⟨c',u⟩:=Bm t;grind
    grind
   grind
  ·have z:(d.names.lookup y==some abs)=true:=z;have z:d.names.lookup y=some .cell:=by grind
   have e:f.cells.lookup y=some c:=e;rw[l] at e;rcases vr (kT e) with t|⟨_,Z,_⟩
   ·rcases xQ t with t|⟨j,_⟩;·cases t
    ·have q:=B.DV _ j;grind
   ·rw[iw] at Z;grind
  ·grind
  ·have e:f.cells.lookup y=some c:=e;rcases E e with⟨j,_⟩|⟨j,_⟩;·exact(A b Q).1.2.2.2.2.1 y c j z
   grind
  ·rcases(A b Q).1.2.2.2.1 with z|z;·exact I.ok.wu b o e z
   ·exact cy (jA (cq e)<|dY I.ok.pZ z)<|qf _
  ·rcases cO.mp (I.Dl b z) with z|z;·exact(A b Q).1.2.1 z
   ·exact(A b Q).1.2.2.1 z
 refine⟨b',rfl,I.bare,Un.eN kp,⟨λ_=>none,?_,λi y av O D e3=>?_⟩,λy c e=>?_,?_,λy c e=>?_,λp hp=>?_,I.a_.eN kp,by rw[vj];exact I.aX⟩
 ·show Heap.Ns _ f.locals _;rw[hL];exact Heap.Ns.keeps (Heap.Ns.new ..) λb o e=>EX _ _ _ _ e
 ·obtain⟨D,h'⟩:=Bv D;have x:d.names.lookup y=some .free/\(f.kindOf y=some .cell\/f.kindOf y=some .free):=by
   have f':∀k,f.scope.names.lookup y=some k->k=.local\/k=.cell\/k=.free->d.names.lookup y=some .free/\(f.kindOf y=some .cell\/f.kindOf y=some .free):=λk L Y=>by
    have U:=L;rw[J] at L;obtain⟨C,e,r⟩:=A_ L;have no:¬(C=.local\/C=.cell):=λhh=>by
     rcases B.be _ (kT e) hh with u|u
     ·obtain⟨p,hp,g'⟩:=cY.mp u;have e3:=B.ix p hp;have:p.1=y:=g';rw[this] at e3;exact h'<|cY.mpr ⟨p,hp,BW hN e3 O⟩
     grind
    rcases r with rfl|⟨rfl,rfl⟩
    ·rcases Y with rfl|rfl|rfl;·grind
     ·grind
     ·exact⟨e,.inr U⟩
    ·exact⟨e,.inl U⟩
   have e3:oT f.scope y:=e3;rcases e3 with e3|e3|e3;·grind
   ·grind
   grind
  obtain⟨m,hn,hl⟩:=I.jW;have T:oT X.ae.scope y:=(B.free _ (kT x.1) rfl).elim (λk=>.inr<|.inl k) λk=>.inr<|.inr k;obtain⟨w,r,q⟩:=hl i y av O D T;refine⟨w,r,.inr ⟨x.2,?_⟩⟩;obtain⟨c,j,Z⟩:=S x.1;rcases q with⟨k,_⟩|⟨_,c',u,z⟩
  ·have k:X.ae.scope.names.lookup y=some .local:=k;rcases B.free _ (kT x.1) rfl with C|C<;>rw[show X.ae.scope.names.lookup y=_ from C] at k<;>cases k
  ·rw[Z] at u;cases u;exact⟨c,j,z.keeps kp⟩
 ·have e:f.cells.lookup y=some c:=e;rcases E e with⟨j,_⟩|⟨_,z⟩
  ·obtain⟨w,z⟩:=I.cell y c j;exact⟨w,z.keeps kp⟩
  grind
 ·show H f.locals=none;rw[hL];exact I.a_.fresh<|cs _
 ·have e:f.cells.lookup y=some c:=e;rcases E e with⟨j,_⟩|⟨j,_⟩;·exact I.nl y c j
  ·exact I.a_.fresh<|Nat.le_of_succ_le j
 grind
def Xi{X:Cx}(I:Inv X a l H s)(k:H D=some (.aq f))(B:f.length<bx)(r:bM y v)(h:∀g,Inv X a l (bv H D (.aq (f++[y]))) g->Q .none g):aw (aH X.prog X.w) X.A (call (.builtin "list.append") [.ref D,v]) Q E s:=by obtain⟨o,c,n,i,e⟩:=I.a_ D _ k;have C:=i.length;refine append_at (hsz:=by grind) e λx m d=>?_;refine h { s with heap:=x}<|I.qM (t':=s.toks) (by rw[k];trivial) (.inl rfl) (λb u t q=>(m.2 b t).trans q) ⟨_,d⟩ ⟨by grind,c++[v],n+1,i.append<|.cons r .nil,?_⟩;grind
def rh(X:Cx)(d:List az)(t:TT):Prop:=
 ∀(a:List (aa×bD))(s:am)(b:St)(H:Hp)(Q:Bool->Hp->Prop),Inv X a b H s->t b H Q->
  aw (aH X.prog X.w) X.A (forIn d true λc r=>if r=true then do let e <-xB c X.ae (aO c X.ae);pure (tj e) else pure (tj r)) (TP X a b Q) X.xe s
def Zh:TT:=λ_ H Q=>Q true H
def VN:rh X [] Zh:=λ_ _ _ H _ I h=>wpAny_tests_nil ⟨H,I,h⟩
def VE(h:PT X c t):rh X [c] t:=λa s b H Q I hw=>wpAny_tests_one<|h a s b H Q I hw
def uz(h:aw M A t Q (λ_ _=>False) s)(b:∀a s,Q a s->c a s):aw M A t c E s:=mT h b λ_ _ z=>lZ z
def Oh(I:Nat->am->Prop)(z:∀n s,I n s->aw (aH a w) A (e_ O) (λr i=>match r with
 |none=>R (.ok .next) i
 |some v=>aw (aH a w) A (EY d O v) (λ_ g=>aw (aH a w) A (AX d b v) (λ_ p=>
  aw (aH a w) A (forIn D true λc r=>if r=true then do let B <-xB c b (aO c b);pure (tj B) else pure (tj r)) (λB f=>
   if B=true then aw (aH a w) A (aO L b) (λx o=>
    aw (aH a w) A (call (.builtin "list.append") [M,x]) (λ_ l=>∃m,m<n/\I m l) (xu (aH a w) A b λe j=>R (.error e) j) o) (xu (aH a w) A b λe j=>R (.error e) j) f
   else ∃m,m<n/\I m f) (xu (aH a w) A b λe j=>R (.error e) j) p) (xu (aH a w) A b λe j=>R (.error e) j) g) (xu (aH a w) A b λe j=>R (.error e) j) i) (xu (aH a w) A b λe j=>R (.error e) j) s)(n:Nat)(h:I n s):
 mU (aH a w) A (.compLoop (.ListComp L [⟨d,C,D,0⟩] u N) 0 O M b) R s:=by
 refine codeAny_loop rfl I (λn s Q=>?_) n h;show aw _ A ((compTurn (.ListComp L [⟨d,C,D,0⟩] u N) 0 O M b).onRaise λx=>do noteFrame x b;theTreesLotGoes x) _ _ s;refine wpAny_noted ?_;rw[compTurn_list];refine ao<|wpAny_standAt<|ao<|mT (z n s Q) (λr i t=>?_) λ_ _ k=>k;cases r with
 |none=>exact a8 t
 |some v=>
  refine ao<|mT t (λ_ g y=>?_) λ_ _ k=>k;refine ao<|mT y (λ_ p J=>ao<|mT J (λB f q=>?_) λ_ _ k=>k) λ_ _ k=>k;cases B with
  |false=>exact a8 ⟨rfl,q⟩
  |true=>exact ao<|ao<|mT q (λx o H=>ao<|mT H (λ_ l E=>a8<|a8 ⟨rfl,E⟩) λ_ _ k=>k) λ_ _ k=>k
def wQ(o:TI)(g:TG)(p:TT)(q:TE)(f:List Nat):TE:=λe H Q=>o e H λJ n=>∀D,n D=none->∃W:Nat->Nat->Hp->Prop,(∃m,W 0 m (bv n D (.aq [])))/\∀i m H,W i m H->
 (J.qX i H/\Q (.ref D) H)\/(J.go i H/\∃h:Hp->Prop,(∀d,h d->∃j,j<m/\W (i+1) j d)/\∀x d,J.Ad i H x d->g x (fW e f) d λa r=>fW a f=fW e f/\p a r λb l=>
  if b=true then q a l λy k=>∃c,k D=some (.aq c)/\c.length<bx/\h (bv k D (.aq (c++[y]))) else h l)
def JT(hc:X.cX=true)(hN:X.N.Nodup)(I:Inv X l Y H s)(hi:PI X tg B wi)(ok:pz X.N X.ae.scope a S)(hg:∀(s:am)(H:Hp)(C:aa)(cl:List (ak×aa))(f:List aa),PG (X.dX s H a (e9 a cl C X.ae) f) tg g)(ht:∀(s:am)(H:Hp)(C:aa)(cl:List (ak×aa))(f:List aa),rh (X.dX s H a (e9 a cl C X.ae) f) c' tt)(he:∀(s:am)(H:Hp)(C:aa)(cl:List (ak×aa))(f:List aa),PE (X.dX s H a (e9 a cl C X.ae) f) e' te)(hs:∀x,kU B X.ae x=pure x)(h:wQ wi g tt te (S.map (·.2)) Y H Q)(A':∀D C E m p,Inv X l Y p E->Q (.ref D) p->E.heap.Ns C m->mC X l p C->compPost (aH X.prog X.w) X.A X.xe use Qf (.ref D) C (.ok .next) E):
 aw (aH X.prog X.w) X.A (comprehension (.ListComp e' [⟨tg,B,c',0⟩] a l') a X.ae G' (newList []) false (aO B X.ae) use) Qf X.xe s:=by
 have d':∀y∈a.names,y.2=.free->∃c,X.ae.cells.lookup y.1=some c:=λy hy e=>by
  rcases ok.free y hy e with k|k;·exact I.ok.jV _<|.inl k
  ·exact I.ok.jV _<|.inr k
 refine wpAny_comprehension_free (use:=use) rfl hs (Pd d') ok.kind (λy hy e=>by rw[ok.DV y hy,e])
  (bH (hi l s Y H _ I h) λxv s1 hx=>bH hx λM' s2 h2=>?_)
 obtain⟨it,f,tn,J,H2,e,I2,T,k',f2,q⟩:=h2;subst e;refine uX (OA ?_)<|by show 0<=bx;decide
 generalize hD:s2.heap.objs.size=D;have C':H2 D=none:=I2.a_.fresh<|NO hD;obtain⟨W,⟨m0,w0⟩,h'⟩:=q D C';generalize y':({ s2 with heap:=s2.heap.push { cls:=.type "list",data:=.seq ([]:List af).toArray}}:am)=d;have I3:Inv X l Y (bv H2 D (.aq [])) d:=by rw[<-y'];refine I2.ij (t':=s2.toks) (λb o e=>bV _ e) (NO hD) ⟨j0 _,[],0,.nil,?_⟩;rw[<-hD];exact dM _ rfl
 have h3:d.heap=s2.heap.push { cls:=.type "list",data:=.seq ([]:List af).toArray}:=by grind
 have sz:∀b∈f,b<s2.heap.objs.size:=λb t=>by obtain⟨o,e,_⟩:=T.obj _ _ k' b t;exact cq e
 have f3:∀b∈f,mC X l (bv H2 D (.aq [])) b/\b<d.heap.objs.size:=λb t=>by have N':=sz b t;refine⟨⟨?_,(f2 b t).2⟩,by rw[h3,iw];grind⟩;rw[ew<|by grind];exact(f2 b t).1
 have u':tn 0 d.heap:=T.keep _ _ _ k' λb _ o e=>by rw[h3];exact bV _ e
 have I4:=OH I3 ok hN f3;have pg:=hg d (bv H2 D<|.aq []) d.heap.objs.size (iz (d.heap.objs.size+1) a.names<|hC X.ae.cells a.names []) f;have pt:=ht d (bv H2 D<|.aq []) d.heap.objs.size (iz (d.heap.objs.size+1) a.names<|hC X.ae.cells a.names []) f;have pe:=he d (bv H2 D<|.aq []) d.heap.objs.size (iz (d.heap.objs.size+1) a.names<|hC X.ae.cells a.names []) f;show mU _ _ (.compStart (.ListComp e' [⟨tg,B,c',0⟩] a l') 0 (.ref it) (.ref D)<|e9 a (iz (d.heap.objs.size+1) a.names<|hC X.ae.cells a.names []) d.heap.objs.size X.ae) (compPost (aH X.prog X.w) X.A X.xe use Qf (.ref D) d.heap.objs.size) { d with heap:=tE (d.heap.push { cls:=.type "dict",data:=.dict #[]}) a.names};have n':∀b∈f,(bv H2 D (.aq [])) b=none:=λb t=>(f3 b t).1.1;generalize z':e9 a (iz (d.heap.objs.size+1) a.names<|hC X.ae.cells a.names []) d.heap.objs.size X.ae=L at I4 pg pt pe ⊢;have cL:L.locals=d.heap.objs.size:=by subst z';rfl
 generalize O':bv H2 D (.aq [])=U at I3 I4 pg pt pe w0 n' f3;generalize x':({ d with heap:=tE (d.heap.push { cls:=.type "dict",data:=.dict #[]}) a.names}:am)=s4 at I4 ⊢;have j':tn 0 s4.heap:=T.keep _ _ _ u' λb _ o e=>by rw[<-x'];exact EX _ _ _ _<|bV _ e
 have M:∀{g':St}{p:Hp}{E:am},Inv (X.dX d U a L f) [] g' p E->(∀b∈f,p b=none)->∀b∈f,mC (X.dX d U a L f) [] p b:=λ{g' p E}I' hn b t=>
  ⟨hn b t,(I'.ok.zT b t).1,I'.ok.wx b t,.inl t,λx c e=>(I'.ok.zT b t).2 x c e,(by grind)⟩
 have Z:mU (aH X.prog X.w) X.A (.compLoop (.ListComp e' [⟨tg,B,c',0⟩] a l') 0 (.ref it) (.ref D) L) (compPost (aH X.prog X.w) X.A X.xe use Qf (.ref D) d.heap.objs.size) s4:=by
  refine Oh (λn E=>∃i p,Inv (X.dX d U a L f) [] (fW Y (S.map (·.2))) p E/\tn i E.heap/\(∀b∈f,p b=none)/\W i n p) ?_ m0 ⟨0,U,I4,j',n',w0⟩;rintro n s5 ⟨i,H5,I5,i',n5,w5⟩;rcases h' i n H5 w5 with⟨qX,qq⟩|⟨go,Nx,B',step⟩
  ·have td:=T.done (X.dX d U a L f) rfl rfl rfl hc i [] s5 _ H5 (λ_ _=>False) I5 (M I5 n5) i' qX;refine uz td λr s6⟨hr,I6⟩=>?_;subst hr;have I7:Inv X l Y H5 s6:=I3.XJ (ch:=f) I6.os I6.ai I6.a_ I6.bare λb t=>⟨(f3 b t).1.2.2.2.1,(f3 b t).1.2.1,(f3 b t).1.2.2.2.2.1,(f3 b t).1.2.2.2.2.2⟩
   have nC:H5 d.heap.objs.size=none:=by have z:H5 L.locals=none:=I6.free;grind
   obtain⟨m,hn,_⟩:=I6.jW;have hn:s6.heap.Ns L.locals m:=hn;rw[cL] at hn;exact A' D d.heap.objs.size s6 m H5 I7 qq hn<|I3.ss (cs _) nC
  ·have ti:=T.item (X.dX d U a L f) rfl rfl rfl hc i [] s5 _ H5 (λ_ _=>False) I5 (M I5 n5) i' go;refine uz ti λr s6⟨u,hr,h6⟩=>?_;subst hr;refine uz h6 λ_ s7⟨x,H7,I7,r7,y7,b',n7⟩=>?_;have D':=I7.K3 (M I7 n7)<|T.obj _ _ b';refine uz (pg _ s7 _ H7 x u _ D' r7<|step x H7 y7) λ_ s8⟨R,H8,I8,p',q8⟩=>?_;refine uz (pt _ s8 R H8 _ I8 q8) λb s9⟨H9,I9,q9⟩=>?_;have r':∀{E:am}{p:Hp},Inv (X.dX d U a L f) ([]++v5 f s7.heap) R p E->Nx p->∃m,m<n/\∃i p,Inv (X.dX d U a L f) [] (fW Y (S.map (·.2))) p E/\tn i E.heap/\(∀b∈f,p b=none)/\W i m p:=λ{E p}I' nx=>by
    obtain⟨m',hm,w'⟩:=B' p nx;have J':∀b∈f,∀o,s7.heap.get? b=some o->E.heap.get? b=some o/\p b=none:=λb t o e=>
     let z:=I'.lJ (b,o)<|nM _<|nM _<|Bo t e
     ⟨z.1,z.2.1⟩
    have hl:(fW Y (S.map (·.2))).length=R.length:=by rw[<-p',vj]
    refine⟨m',hm,i+1,p,(I'.yC (pins:=[])).aN hl λj v e=>?_,T.keep _ _ _ b' (by grind),λb t=>?_,w'⟩
    ·rw[<-p'] at e;exact(Bv e).1
    ·obtain⟨o,e,_⟩:=T.obj _ _ b' b t;grind
   cases b with
   |false=>simp only[nP,oi] at q9 ⊢;exact r' I9 q9
   |true=>simp only[k6] at q9 ⊢;refine uz (pe _ s9 R H9 _ I9 q9) λz L'⟨yv,Q',F',v',P',q',o',nx⟩=>?_;exact Xi (X:=X.dX d U a L f) F' q' o' v' λK' E'=>r' E' nx
 exact codeAny_compStart_list Z<|T.kj X.A 0 _ _ _ j' Z
def XI(O:X.cX=true)(S:X.N.Nodup)(J:PI X n c r)(z:pz X.N X.ae.scope a j)(L:∀(s:am)(H:Hp)(C:aa)(i:List (ak×aa))(d:List aa),PG (X.dX s H a (e9 a i C X.ae) d) n g)(A:∀(s:am)(H:Hp)(C:aa)(i:List (ak×aa))(d:List aa),rh (X.dX s H a (e9 a i C X.ae) d) k t)(M:∀(s:am)(H:Hp)(C:aa)(i:List (ak×aa))(d:List aa),PE (X.dX s H a (e9 a i C X.ae) d) l u)(B:∀x,kU c X.ae x=pure x:=by intro _;rfl):
 PE X (.ListComp l [⟨n,c,k,0⟩] a y) (wQ r g t u (j.map (·.2))):=by
 intro p s σ H Q I h;rw[eval_ListComp];refine JT O S I J z L A M B h λD C w m H' I' q E f=>⟨m,E,λT v=>?_⟩
 obtain⟨f0,f1,f2,Z,Y,U⟩:=f;exact⟨.ref D,H',I'.kG (t':=w.toks) (λb o R e=>(v.2 b R).trans e) f0 f1 Z Y U,rfl,q⟩
def Si(hc:X.cX=true)(U:X.N.Nodup)(hy:X.N[i]?=some y)(u:X.ae.scope.names.lookup y=some .local)(M:jg (.ListComp l [⟨n,d,j,0⟩] c k) (some<|.Name y J) p.line X.ae=pure true)(hi:PI X n d R)(ok:pz X.N X.ae.scope c t)(hg:∀(s:am)(H:Hp)(C:aa)(z:List (ak×aa))(w:List aa),PG (X.dX s H c (e9 c z C X.ae) w) n g)(ht:∀(s:am)(H:Hp)(C:aa)(z:List (ak×aa))(w:List aa),rh (X.dX s H c (e9 c z C X.ae) w) j S)(he:∀(s:am)(H:Hp)(C:aa)(z:List (ak×aa))(w:List aa),PE (X.dX s H c (e9 c z C X.ae) w) l T)(hs:∀x,kU d X.ae x=pure x:=by intro _;rfl):
 PS X (.Assign [.Name y J] (.ListComp l [⟨n,d,j,0⟩] c k) p) (LQ (wQ R g S T (t.map (·.2)))<|jN i):=by
 intro r s Q H D I h;rw[exec_Assign_Name_used _ _ _ _ M];refine ao<|wpAny_standAt<|ao ?_;show aw _ X.A (do let _ <-comprehension (.ListComp l [⟨n,d,j,0⟩] c k) c X.ae (firstIterPos [⟨n,d,j,0⟩] k) (newList []) false (aO d X.ae)<|some<|AX (.Name y J) X.ae) _ _ s;have h:wQ R g S T (t.map (·.2)) Q H (λx H1=>jN i x Q H1 D.nx):=h;refine ao<|bH (JT (Qf:=λ_ E=>SP X r D .next E) hc U I hi ok hg ht he hs h λL C E m H' I' q hn f=>?_) λ_ E hq=>a8<|a8 hq;show aw _ _ (AX (.Name y J) X.ae<|.ref L) _ _ _;refine acp<|Hh (v:=V.ref L) I' U hy (.inl u) rfl (λZ I2⟨a,Y,ha⟩=>?_)<|.inr u;obtain⟨f0,f1,f2,f3,f4,f5⟩:=f;have O:C≠a:=by grind
 refine⟨m,hn.sameBut Y O,λh3 B=>?_⟩;exact⟨_,H',I2.kG (t':=Z.toks) (λb o hb e=>(B.2 b hb).trans e) f0 f1 f3 f4 f5,q⟩
def LW(N:List ak)(c a:fQ)(b:List (ak×Nat)):Bool:=
 (match a.kind with|.function=>true|_=>false)&&(a.names.all λy=>decide<|a.names.lookup y.1=some y.2)&&(b.all λp=>decide<|N[p.2]?=some p.1)&&
  (a.names.all λy=>match y.2 with
   |.free=>(match c.names.lookup y.1 with|some .cell=>true|some .free=>true|_=>false)
   |.local=>decide (y.1∈b.map (·.1))||decide (y.1∉N)
   |.cell=>decide (y.1∈b.map (·.1))||decide (y.1∉N)
   |_=>true)
def g_(h:LW N c a b=true):pz N c a b:=by
 unfold LW at h;simp only[dc,iu,eg] at h;obtain⟨⟨⟨j,g⟩,f⟩,i⟩:=h;refine⟨?_,g,f,λy d e=>?_,λy d e=>?_⟩;·grind
 ·grind
 grind
section
variable {κ:Type} [DecidableEq κ]
def iN(a:List (κ×V))(k:κ):Option V:=(a.find? λb=>decide<|b.1=k).map (·.2)
def i_(a:List (κ×V))(k:κ)(v:V):List (κ×V):=if(a.any λb=>decide<|b.1=k)=true then a.map (λb=>if b.1=k then(b.1,v) else b) else a++[(k,v)]
def qR(a:List (κ×V))(k:κ):List (κ×V):=a.filter λb=>decide<|b.1≠k
theorem yo{p:κ×V}{r:List (κ×V)}{k:κ}(e:p.1=k):iN (p::r) k=some p.2:=by simp[iN,rs,e]
theorem yF{p:κ×V}{r:List (κ×V)}{k:κ}(e:¬p.1=k):iN (p::r) k=iN r k:=by simp[iN,rs,e]
theorem Iu(k:κ):∀a:List (κ×V),(a.any λb=>decide<|b.1=k)=(iN a k).isSome
 |[]=>rfl
 |p::r=>by
  rw[rA];by_cases e:p.1=k;·simp only[yo e,kC e,acC,aaX]
  ·rw[yF e,mX e,xl];exact Iu k r
theorem A7(a:List (κ×V))(k:κ)(v:V):(i_ a k v).length<=a.length+1:=by unfold i_;grind
theorem ik.QE{o:Option V}{u:Option af}(r:ik o u):o.isSome=u.isSome:=by
 cases o with
 |none=>cases u with
  |none=>rfl
  |some _=>exact(show False from r).elim
 |some _=>cases u with
  |none=>exact(show False from r).elim
  |some _=>rfl
theorem ik.getD{o:Option V}{u:Option af}{d:V}{a:af}(r:ik o u)(b:bM d a):bM (o.getD d) (u.getD a):=by
 cases o with
 |none=>cases u with
  |none=>exact b
  |some _=>exact(show False from r).elim
 |some _=>cases u with
  |none=>exact(show False from r).elim
  |some _=>exact r
theorem KV.val{a:List (κ×V)}{f:List (κ×af)}(r:KV a f)(k:κ):ik (iN a k) (l5 f k):=by
 unfold KV at r;induction r with
 |nil=>exact qi
 |@cons p q l c h t i=>
  obtain⟨g,j⟩:=h;by_cases e:p.1=k
  ·have d:q.1=k:=g.symm.trans e;have b:l5 (q::c) k=some q.2:=by simp[l5,rs,d]
   rw[yo e,b];exact j
  ·have d:¬q.1=k:=λz=>e<|g.trans z;have b:l5 (q::c) k=l5 c k:=by simp[l5,rs,d]
   rw[yF e,b];exact i
theorem KV.any{a:List (κ×V)}{c:List (κ×af)}(r:KV a c)(k:κ):(a.any λb=>decide<|b.1=k)=c.any λb=>decide (b.1=k):=by
 unfold KV at r;induction r with
 |nil=>rfl
 |cons h t d=>grind
theorem KV.DR{b:List (κ×V)}{c:List (κ×af)}(r:KV b c)(k:κ){y:V}{u:af}(e:bM y u):
 KV (b.map λa=>if a.1=k then(a.1,y) else a) (c.map λa=>if a.1=k then(a.1,u) else a):=by
 unfold KV at r ⊢;induction r with
 |nil=>exact .nil
 |@cons p q g f h t d=>rw[dB,dB];refine .cons ?_ d;grind
theorem KV.eO{a:List (κ×V)}{b:List (κ×af)}(r:KV a b)(k:κ){y:V}{u:af}(c:bM y u):KV (i_ a k y) (stored b k u):=by
 unfold i_ stored;rw[r.any k];by_cases e:(b.any λd=>decide<|d.1=k)=true;·rw[aM e,aM e];exact r.DR k c
 ·rw[aL e,aL e];exact acg r ⟨rfl,c⟩
theorem KV.drop{c:List (κ×V)}{d:List (κ×af)}(r:KV c d)(k:κ):KV (qR c k) (without d k):=by
 unfold KV at r ⊢;unfold qR without;induction r with
 |nil=>exact .nil
 |@cons p q m l h t g=>
  obtain⟨f,i⟩:=h;rw[tc,tc];by_cases e:p.1=k;·grind
  ·have j:¬q.1=k:=λz=>e<|f.trans z;have a:decide (p.1≠k)=true:=by simp[e]
   have b:decide (q.1≠k)=true:=by simp[j]
   rw[aM a,aM b];exact .cons ⟨f,i⟩ g
theorem KV.length{a:List (κ×V)}{b:List (κ×af)}(r:KV a b):a.length=b.length:=Nv r
theorem TV(a:List (κ×V))(k:κ):(qR a k).length<=a.length:=w9 _ _
end
def r9(r:bM (kV k) u):(cF a w).is k u=true:=by
 cases k with
 |inl i=>obtain⟨t,e⟩:=(show ∃t,u=rC i t from r);subst e;exact OI a w i t
 |inr x=>obtain⟨t,e⟩:=(show ∃t,u=AR x t from r);subst e;exact OC a w x t
def BN:∀{ks:List bg}{b:List af},bF (ks.map kV) b->ItemsAre (cF a w) ks b
 |[],_,r=>by rw[xp] at r;cases r;exact .nil
 |k::ks,_,r=>by
  rw[dB] at r;cases r with
  |cons h t=>exact .cons (r9 h)<|BN t
abbrev KT(H:Hp):List (List bg×V)->List (List bg×aa×af)->Prop:=Paired λp q=>p.1=q.1/\H q.2.1=some (.a9<|p.1.map kV)/\bM p.2 q.2.2
def KT.val(r:KT H c g)(k:List bg):ik (iN c k) ((atKey g k).map (·.2)):=by
 induction r with
 |nil=>exact qi
 |@cons p q l a h t i=>
  obtain⟨f,_,j⟩:=h;by_cases e:p.1=k
  ·have d:q.1=k:=f.symm.trans e;have b:atKey (q::a) k=some q.2:=by simp[atKey,rs,d]
   rw[yo e,b];exact j
  ·have d:¬q.1=k:=λz=>e<|f.trans z;have b:atKey (q::a) k=atKey a k:=by simp[atKey,rs,d]
   rw[yF e,b];exact i
def KT.DR(r:KT H a c)(k:List bg)(e:bM y u):
 KT H (a.map λb=>if b.1=k then(b.1,y) else b) (c.map<|ve k u):=by
 induction r with
 |nil=>exact .nil
 |@cons p q g f h t d=>rw[dB,dB];refine .cons ?_ d;obtain⟨l,j,i⟩:=h;unfold ve;grind
def KT.eO(r:KT H a c)(k:List bg)(g:H b=some (.a9<|k.map kV))(d:bM y u):
 KT H (i_ a k y) (storedH c k b u):=by
 have e:(a.any λf=>decide<|f.1=k)=(atKey c k).isSome:=by rw[Iu,(r.val k).QE,M_]
 unfold i_ storedH;rw[e];by_cases q:(atKey c k).isSome=true;·rw[aM q,aM q];exact r.DR k d
 ·rw[aL q,aL q];exact acg r ⟨rfl,g,d⟩
def KT.keeps(r:KT H a d)(f:∀b c,H b=some (.a9 c)->e b=some (.a9 c)):KT e a d:=Paired.sj r (by grind)
def LG(c:ek b w H h)(e:Rd H a u):eA b w H h a u:=e.ok c
def oE(f:ek b w H h)(e:Rd H a (.dK c)):c.length<=bx/\(a==kz)=false/\∃d,KV c d/\h.DictOf (cF b w) a d:=
 show eA b w H h a (.dK c) from LG f e
def DJ(f:ek b w H h)(e:H a=some (.dK c)):c.length<=bx/\(a==kz)=false/\∃d,KV c d/\h.DictOf (cF b w) a d:=oE f<|.inl e
def zr(f:ek b w H h)(e:H a=some (.a9<|d.map kV)):(og<|cF b w).is h d a:=by
 obtain⟨_,c,r,o,j,i,n,g⟩:=(show eA b w H h a (.a9<|d.map kV) from f a _ e)
 exact⟨o,c.toArray,n,j,i,g,by simpa using BN r⟩
def wq(g:ek b w H h)(e:Rd H a (.dT c)):c.length<=bx/\(a==kz)=false/\
 ∃d,KT H c d/\h.DictOfH (og (cF b w)) a d:=by
 obtain⟨z,y,d,r,o,u,v,s,n,k,j,i⟩:=(show eA b w H h a (.dT c) from LG g e)
 refine⟨z,y,d,r,o,u,v,s,n,k,j,λx f=>?_,i⟩;have A:∀{l:List (List bg×V)}{m:List (List bg×aa×af)},KT H l m->∀x∈m,(og (cF b w)).is h x.1 x.2.1:=by
  intro l m q;induction q with
  |nil=>grind
  |@cons p q C B E t D=>
   intro x f;rcases cO.mp f with e|f
   ·subst e;exact zr g<|by grind
   grind
 grind
def XC(f:ek b w H h)(e:H a=some (.dT c)):c.length<=bx/\(a==kz)=false/\
 ∃d,KT H c d/\h.DictOfH (og (cF b w)) a d:=wq f<|.inl e
def pJ(H:Hp)(a:aa)(y:V)(r:Option V):Prop:=(∃c k,Rd H a (.dK c)/\y=kV k/\r=iN c k)\/∃c k b,Rd H a (.dT c)/\y=.ref b/\H b=some (.a9 (k.map kV))/\r=iN c k
def wI(H:Hp)(a:aa)(y v:V)(d:Hp):Prop:=
 (∃c k,H a=some (.dK c)/\y=kV k/\c.length<bx/\d=bv H a (.dK (i_ c k v)))\/
 ∃c k b,H a=some (.dT c)/\y=.ref b/\H b=some (.a9 (k.map kV))/\c.length<bx/\d=bv H a (.dT (i_ c k v))
def pJ.k{k:bg}(e:H a=some (.dK b)):pJ H a (kV k) (iN b k):=.inl ⟨b,k,.inl e,rfl,rfl⟩
def wI.k{k:bg}(e:H a=some (.dK b))(c:b.length<bx):wI H a (kV k) v (bv H a<|.dK<|i_ b k v):=.inl ⟨b,k,e,rfl,c,rfl⟩
def Inv.jS(I:Inv X a b H s):kz<s.heap.objs.size:=by have h:iY<s.heap.objs.size:=(I.mod.pG.keeps I.bk).lt;exact Nat.lt_trans (by decide) h
def Rg(D:A.units+1<cH)(I:Inv X i x H s)(g:pJ H a y (some v))(t:bM y u)(h:∀f r,Inv X i x H r->bM v f->Q f r):
 aw (aH X.prog X.w) A (xw (.ref a) u) Q E s:=by
 rcases g with⟨j,k,e,n,l⟩|⟨j,k,b,e,n,M,l⟩
 ·subst n;obtain⟨z,L,C,d,q⟩:=oE I.a_ e;obtain⟨f,hw,c⟩:=ik.vK (v:=v) (o:=l5 C k)<|by rw[l];exact d.val k
  exact acD (r9 t) q.mapOf hw<|h f _ (I.jb _) c
 ·subst n;cases(show u=c7 b from t);obtain⟨z,L,B,d,q⟩:=wq I.a_ e;obtain⟨f,hw,c⟩:=ik.vK (v:=v) (o:=(atKey B k).map (·.2))<|by rw[l];exact d.val k
  obtain⟨p,J,m⟩:=aaA.mp hw;refine acb (EI D) (zr I.a_ M) q J ?_;rw[m];exact h f _ (I.jb _) c
def vQ(I:Inv X c j H s)(k:wW (H a))(l:oa a s.heap f)(m:∃q,f.get? a=some q)(d:eA X.prog X.w (bv H a h) f a h):
 Inv X c j (bv H a h) { s with heap:=f,toks:=o}:=
 I.qM (x:=a) (e:=a) k (.inl rfl) (λb q n z=>(l.2 b n).trans z) m d
def zo(z:c.length<=bx)(f:(a==kz)=false)(d:KV c e)(h:g.DictOf (cF b w) a e):
 eA b w i g a (.dK c):=⟨z,f,e,d,h⟩
def Qo(U:A.units+1<cH)(I:Inv X j R H s)(g:wI H a y v H')(L:bM y u)(M:bM v r)(h:∀J,Inv X j R H' J->Q () J):
 aw (aH X.prog X.w) A (setItem (.ref a) u r) Q E s:=by
 rcases g with⟨f,k,e,B,l,C⟩|⟨f,k,b,e,B,O,l,C⟩
 ·subst B C;obtain⟨z,x,T,d,D⟩:=DJ I.a_ e;have n:T.length<=bx:=by rw[<-d.length];exact z
  have t:(i_ f k v).length<=bx:=by have:=A7 f k v;omega
  refine wpAny_setItem_pairs (hsz:=n) (r9 L) D λN i p=>h _ ?_;have Y:∃q,N.get? a=some q:=let⟨q,_,_,m,_⟩:=i;⟨q,m⟩;exact vQ I (by rw[e];exact qi) p Y<|zo t x (d.eO k M) i
 ·subst B C;cases(show u=c7 b from L);obtain⟨z,x,S,d,D⟩:=XC I.a_ e;have n:S.length<=bx:=by rw[<-Nv d];exact z
  have t:(i_ f k v).length<=bx:=by have:=A7 f k v;omega
  refine ab9 (hsz:=n) (EI U) (zr I.a_ O) D λN i p=>h _ ?_;obtain⟨q,es,ep,m,h2,h3,h4,_,Z⟩:=i;refine vQ I (by rw[e];exact qi) p ⟨q,m⟩ ⟨t,x,_,(d.eO k O M).keeps λc ys ec=>?_,q,es,ep,m,h2,h3,h4,Z⟩;rw[ew<|by grind];exact ec
def Xs(I:Inv X g C H s)(e:H a=some (.dK d))(m:bM (kV k) u)(l:iN d k=some v)(y:b=[]\/∃x,b=[x])(h:∀f r,Inv X g C (bv H a (.dK (qR d k))) r->bM v f->Q f r):aw (aH X.prog X.w) A (call (.builtin "dict.pop") (.ref a::u::b)) Q E s:=by
 obtain⟨z,N,p,c,B⟩:=DJ I.a_ e;obtain⟨f,hw,n⟩:=ik.vK (v:=v) (o:=l5 p k)<|by rw[<-l];exact c.val k
 have L:(keyPart u).isSome=true:=by
  cases k with
  |inl i=>obtain⟨t,q⟩:=(show ∃t,u=rC i t from m);subst q;rfl
  |inr x=>obtain⟨t,q⟩:=(show ∃t,u=AR x t from m);subst q;rfl
 have O:argsOk "dict.pop" ⟨.ref a::u::b,[]⟩:=by
  rcases y with q|⟨x,q⟩;·subst q;exact PySem.F.args_dict_pop_2 _ _
  ·subst q;exact PySem.F.args_dict_pop_3 _ _ _
 refine NU aaz B.typeIs PySem.F.entry_dict_pop O (meets_dict_pop_there (cF X.prog X.w) a (r9 m) b y L)
  ⟨p,f,B,by rw[<-c.length];exact z,hw,λR j D=>h f _ ?_ n⟩
 have M:∃q,R.get? a=some q:=let⟨q,_,_,J,_⟩:=j;⟨q,J⟩;exact vQ I (by rw[e];exact qi) D M<|zo (dY (TV d k) z) N (c.drop k) j
def XX(I:Inv X c g H s)(e:Rd H a (.dK d))(h:∀t f,Inv X c g H f->Q (.int d.length t) f):aw (aH X.prog X.w) A (call (.builtin "len") [.ref a]) Q E s:=by obtain⟨z,i,k,b,j⟩:=oE I.a_ e;refine call_len_dict i j (by rw[<-b.length];rw[fu] at z;omega) ?_;rw[<-b.length];exact h _ _<|I.jb _
def uB(i:az):Prop:=∀a b,Fc i false a b=operate [a,b] (xw a b)
def CF(u:qj (.type T) "__getitem__"=pure (some<|.builtin a))(t:uB c)(h:aw (aH b w) A (aO e n) (λo j=>aw (aH b w) A (aO c n) (λi d=>d.TypeIs o T/\aw (aH b w) A (xw o i) Q E d) E j) E s):
 aw (aH b w) A (aO (.Subscript e c q) n) Q E s:=by
 refine N3<|mT h (λo j m=>mT m (λi d f=>?_) λ_ _ x=>x) λ_ _ x=>x;obtain⟨p,f⟩:=f;unfold NS;refine ao ?_;rw[getitemInPython_of_ne p.not_modules];refine ao<|tq p u ?_;have k:aw (aH b w) A (Fc c false o i) (λr g=>aw (aH b w) A (letTemporaryGo e o r >>= λ_=>pure r) Q E g) E d:=by rw[t o i];exact wpAny_operating<|mT f (λr g l=>ao<|wpAny_letTemporaryGo<|a8 l) λ_ _ x=>x
 first
  |exact a8<|ao k
  |exact ao<|a8<|ao k
  |exact ao k
def OK(I:Inv X f h H s)(g:pJ H a y o):s.TypeIs (.ref a) "dict":=by
 rcases g with⟨c,k,e,_,_⟩|⟨c,k,b,e,_,_,_⟩
 ·obtain⟨_,_,j,_,d⟩:=oE I.a_ e;exact d.typeIs
 ·obtain⟨_,_,i,_,d⟩:=wq I.a_ e;exact d.typeIs
def XU(e d:TE):TE:=λb H Q=>e b H λx f=>d b f λy c=>∃a v,x=.ref a/\pJ c a y (some v)/\Q v c
def Yo(f d e:TE):TS:=λD b H=>e b H λv i=>f b i λx h=>d b h λy g=>∃a c,x=.ref a/\wI g a y v c/\D.nx b c
def Ui(r:X.A.units+1<cH)(w:PE X o j)(z:PE X i f)(t:uB i):PE X (.Subscript o i q) (XU j f):=by intro b s d H Q I h;refine CF MC.lookup t<|bH (w b s d H _ I h) λu k⟨x,J,D,m,p⟩=>bH (z b k d J _ D p) λO N⟨y,E,e,l,a,v,B,g,n⟩=>?_;subst B;obtain rfl:u=c7 a:=m;exact⟨OK e g,Rg r e g l λL M C c=>⟨v,E,C,c,n⟩⟩
def VL(E:X.A.units+1<cH)(L:PE X o l)(M:PE X i j)(C:PE X b k)(J:jg b (some<|.Subscript o i d) f.line X.ae=pure false):
 PS X (.Assign [.Subscript o i d] b f) (Yo l j k):=by
 intro c s e H D I h;refine abn (bH (C c s e H _ I h) λr n⟨v,Y,S,t,B⟩=>bH (L c n e Y _ S B) λu m⟨x,U,R,q,z⟩=>bH (M c m e U _ R z) λiv s3⟨y,H3,Q,p,a,T,N,g,w⟩=>?_) J;subst N;obtain rfl:u=c7 a:=q;exact Qo E Q g p t λZ O=>⟨e,T,O,w⟩
def Sg(h:aJ)(d:kz<h.objs.size):eA a w H (h.push { cls:=.type "dict",data:=.dict #[]}) h.objs.size (.dK []):=⟨j0 _,(by grind),[],.nil,Heap.DictOf.new h⟩
def C3:List (TE×TE)->St->Hp->(List (V×V)->Hp->Prop)->Prop
 |[],_,H,Q=>Q [] H
 |(c,b)::r,a,H,Q=>c a H λx g=>b a g λy f=>C3 r a f λd e=>Q ((x,y)::d) e
abbrev VV:List (V×V)->List (af×af)->Prop:=Paired λp q=>bM p.1 q.1/\bM p.2 q.2
def zX(X:Cx)(f:bf)(c:List (Option az))(a:List az)(e:List (TE×TE)):Prop:=
 ∀(b:List (aa×bD))(s:am)(d:St)(H:Hp)(Q:List (V×V)->Hp->Prop),Inv X b d H s->C3 e d H Q->
  aw (aH X.prog X.w) X.A (evalPairs<|pairTrees c a X.ae f) (λi j=>∃g h,Inv X b d h j/\VV g i/\Q g h) X.xe s
def UY:zX X b [] [] []:=λa s c H Q I h=>pairTrees_nil_walk ⟨[],H,I,.nil,h⟩
def Tq(A:PE X k i)(w:PE X v g)(z:zX X e t f c):
 zX X e (some k::t) (v::f) ((i,g)::c):=λa s b H Q I h=>
 pairTrees_cons_walk (bH (A a s b H _ I h) λu l⟨x,L,D,n,q⟩=>bH (w a l b L _ D q) λN j⟨y,J,C,m,p⟩=>
  bH (z a j b J _ C p) λM O⟨r,E,B,d,o⟩=>⟨(x,y)::r,E,B,.cons ⟨n,m⟩ d,o⟩)
def vT(b a:List (bg×V)):List (bg×V):=a.foldl (λc d=>i_ c d.1 d.2) b
def KV.merge:∀{a:List (bg×V)}{d:List (bg×af)}{b:List (bg×V)}{c:List (bg×af)},KV a d->KV b c->KV (vT b a) (merged c d):=by
 intro a d b c r;unfold KV at r;induction r generalizing b c with
 |nil=>intro q;exact q
 |@cons p q j i h t g=>
  intro f;have e:KV (i_ b p.1 p.2) (stored c q.1 q.2):=by have:=f.eO p.1 h.2;grind
  exact g e
def Ft:∀(b a:List (bg×V)),(vT a b).length<=a.length+b.length
 |[],a=>by show a.length<=a.length+0;omega
 |p::r,a=>by have d:=Ft r<|i_ a p.1 p.2;have c:=A7 a p.1 p.2;show(vT (i_ a p.1 p.2) r).length<=_;grind
def FR{P:a0}:∀{d:List (bg×V)}{f:List (af×af)},VV (d.map λg=>(kV g.1,g.2)) f->∃e,Carries (cF P w) f e/\KV d e
 |[],_,r=>by rw[xp] at r;cases r;exact⟨[],qi,.nil⟩
 |p::d,_,r=>by
  rw[dB] at r;cases r with
  |@cons a b l j h t=>obtain⟨e,c,q⟩:=FR (P:=P) (w:=w) t;obtain⟨k,i⟩:=b;exact⟨(p.1,i)::e,⟨r9 h.1,rfl,c⟩,.cons ⟨rfl,h.2⟩ q⟩
def Xv(b:List (TE×TE)):TE:=λe H Q=>∀p,H p=none->C3 b e (bv H p (.dK [])) λf d=>d p=some (.dK [])/\∃a:List (bg×V),f=a.map (λc=>(kV c.1,c.2))/\a.length<=15/\Q (.ref p) (bv d p<|.dK<|vT [] a)
def Uc(h:zX X m b d k)(i:b.all (·.isSome)=true)(M:b.length=d.length)(S:b≠[])(n:b.length<=15):PE X (.Dict b d m) (Xv k):=by
 intro f s u H Q I q;have L:=I.a_.fresh<|cs s.heap.objs.size;have Z:=I.ij (a:=s.heap.objs.size) (o:=.dK []) (h':=s.heap.push { cls:=.type "dict",data:=.dict #[]}) (t':=s.toks) (λ_ _ q=>bV _ q) (cs _)<|Sg s.heap I.jS;refine wpAny_Dict_walk (knd:=cF X.prog X.w) i M S n<|bH (h f _ u _ _ Z<|q _ L) λws s2⟨ps,H2,t,l,e,g,T,lk,B⟩=>?_;subst T;obtain⟨x,c,y⟩:=FR (P:=X.prog) (w:=X.w) l;obtain⟨z,O,v,A,U⟩:=DJ t.a_ e;cases A;refine⟨x,c,U,λp j E=>⟨.ref s.heap.objs.size,_,?_,rfl,B⟩⟩;have D:(vT [] g).length<=bx:=by have R:=Ft g [];rw[uY] at R;rw[fu];omega
 have N:∃q,p.get? s.heap.objs.size=some q:=let⟨q,_,_,J,_⟩:=j;⟨q,J⟩;exact vQ t (by rw[e];exact qi) E N<|zo D O (y.merge .nil) j
structure M1(X:Cx)(o:az)(m:ak)(apos:bf)(e:az)(cpos:bf):Prop where
 ai:kx o m X.ae (aO o X.ae)=aO o X.ae
 D4:((eK cpos<|aB [e] X.ae).all (λx=>!x.1)&&(backToKw cpos<|NX [] X.ae).all (λx=>x.1.isSome)
  &&decide (([e]:List az).length+([]:List xy).length+(if([]:List xy).isEmpty then 0 else 1)<30))=true
 line:(apos.endLine==cpos.line)=true
 Dv:eK cpos (aB [e] X.ae)=[(false,aO e X.ae)]
structure M2(X:Cx)(o:az)(m:ak)(apos:bf)(e f:az)(cpos:bf):Prop where
 ai:kx o m X.ae (aO o X.ae)=aO o X.ae
 D4:((eK cpos<|aB [e,f] X.ae).all (λx=>!x.1)&&(backToKw cpos<|NX [] X.ae).all (λx=>x.1.isSome)
  &&decide (([e,f]:List az).length+([]:List xy).length+(if([]:List xy).isEmpty then 0 else 1)<30))=true
 line:(apos.endLine==cpos.line)=true
 Dv:eK cpos (aB [e,f] X.ae)=[(false,aO e X.ae),(false,aO f X.ae)]
def Eh(H:Hp)(a:aa):Prop:=(∃b,Rd H a (.dK b))\/∃b,Rd H a (.dT b)
def KP(I:Inv X k l H s)(d:Eh H a):
 s.TypeIs (.ref a) "dict"/\(∀b,c7 a=.ref b->∃c,s.heap.get? b=some c/\c.dict=none)/\(a==kz)=false:=by
 rcases d with⟨g,e⟩|⟨g,e⟩
 ·obtain⟨_,h,n,_,f⟩:=oE I.a_ e;refine⟨f.typeIs,λb q=>?_,h⟩;cases q;obtain⟨c,_,_,j,i,_⟩:=f;exact⟨c,j,i.2.1⟩
 ·obtain⟨_,h,m,_,f⟩:=wq I.a_ e;refine⟨f.typeIs,λb q=>?_,h⟩;cases q;obtain⟨c,_,_,j,i,_⟩:=f;exact⟨c,j,i.2.1⟩
def We(C:A.units+1<cH)(I:Inv X f x H s)(g:pJ H a y o)(t:bM y u)(v:bM d r)(h:∀p q,Inv X f x H q->bM (o.getD d) p->Q p q):
 aw (aH X.prog X.w) A (call (.builtin "dict.get") [.ref a,u,r]) Q E s:=by
 rcases g with⟨j,k,e,n,l⟩|⟨j,k,b,e,n,D,l⟩
 ·subst n;obtain⟨z,m,J,c,i⟩:=oE I.a_ e;refine NU MN i.typeIs aat (aao _ _ _) (meets_dict_get_default (cF X.prog X.w) a (r9 t) m r) ⟨_,i.mapOf,h _ _ (I.jb _) ?_⟩;rw[l];exact(c.val k).getD v
 ·subst n;cases(show u=c7 b from t);obtain⟨z,m,B,c,i⟩:=wq I.a_ e;refine NU MN i.typeIs aat (aao _ _ _) (meetsH_dict_get_default (og<|cF X.prog X.w) a b m r) ⟨EI C,k,B,zr I.a_ D,i,h _ _ (I.jb _) ?_⟩;rw[l];exact(c.val k).getD v
def Xo(g e f:TE):TE:=λb H Q=>g b H λx d=>∃a,x=.ref a/\Eh d a/\e b d λy h=>f b h λz c=>∃o,pJ c a y o/\Q (o.getD z) c
def Xm(g f:TE):TE:=λc H Q=>g c H λx e=>∃a,x=.ref a/\Eh e a/\f c e λy d=>∃b k v,d a=some (.dK b)/\y=kV k/\iN b k=some v/\Q v (bv d a (.dK (qR b k)))
def TM(M:X.A.units+1<cH)(N:PE X o q)(R:PE X e n)(O:PE X f p)(m:M2 X o "get" i e f c):PE X (.Call (.Attribute o "get" i) [e,f] [] c) (Xo q n p):=by
 intro b s j H Q I h;refine acq m.ai m.D4 m.line aam MN PySem.F.type_dict_get<|bH (N b s j H _ I h) λu w⟨x,H1,l,D,a,S,d,L⟩=>?_;subst S;obtain rfl:u=c7 a:=D;obtain⟨t,r,_⟩:=KP l d;refine⟨t,r,?_⟩;rw[m.Dv];refine Es rfl (MQ (uU (bH (R b w j H1 _ l L) λiv v⟨y,H2,Y,C,J⟩=>
  uU (bH (O b v j H2 _ Y J) λfv s3⟨z,Z,U,B,ov,g,E⟩=>xf ?_))))
 exact We M U g C B λw' s4 T k=>⟨_,Z,T,k,E⟩
def SJ(D:PE X o p)(E:PE X e n)(m:M1 X o "pop" f e c):PE X (.Call (.Attribute o "pop" f) [e] [] c) (Xm p n):=by intro b s i H Q I h;refine acq m.ai m.D4 m.line aam aaz PySem.F.type_dict_pop<|bH (D b s i H _ I h) λu t⟨x,R,j,z,a,L,d,B⟩=>?_;subst L;obtain rfl:u=c7 a:=z;obtain⟨r,q,_⟩:=KP j d;refine⟨r,q,?_⟩;rw[m.Dv];refine Es rfl<|MQ<|uU<|bH (E b t i R _ j B) λY U⟨y,Z,O,w,C,k,v,M,J,l,A⟩=>xf ?_;subst J;exact Xs O M w l (.inl rfl) λS T N g=>⟨v,_,N,g,A⟩
def R6(I:Inv X d k H s)(e:Rd H a (.dK f))(h:∀p i,H p=none->Inv X d k (bv H p (.dK f)) i->Q (.ref p) i):aw (aH X.prog X.w) A (call (.type "dict") [.ref a]) Q E s:=by obtain⟨z,m,r,c,n⟩:=oE I.a_ e;refine kt_call_dict m n (by rw[<-c.length];exact z) λu g l=>?_;refine h _ _ (I.a_.fresh<|cs _)<|I.ij (a:=s.heap.objs.size) (o:=.dK f) (t':=s.toks) (λb q j=>?_) (cs _)<|zo z (beq_eq_false_iff_ne.mpr<|ci<|fg I.jS) c g;exact(l.2 b<|fg<|cq j).trans<|bV _ j
def Inv.T4{ch:List aa}(I:Inv X a j H s)(k:∀b o,b∉ch->s.heap.get? b=some o->w.get? b=some o)(d:∀b∈ch,mC X a H b):Inv X a j H { s with heap:=w,toks:=t'}:=by
 have l:∀b u,H b=some u->b∉ch:=λb u e z=>by have q:=(d b z).1;grind
 refine I.step (g':=s.gens) (d':=s.drawn) (ch:=ch) (λb f=>⟨(d b f).2.2.2.1,(d b f).2.1,(d b f).2.2.2.2.1,(d b f).2.2.2.2.2⟩) (by grind) (λb o _ _ i e _=>⟨o.slots,k b o i e⟩)
  (λ_ _ _ _ n=>n) (by grind) (λ_ _ e=>e) (λ_ _ _ e=>e) (λb A e=>⟨#[],by grind⟩) (λm t=>?_) (λb u e=>?_) I.bare
 ·obtain⟨o,x,y,p,r⟩:=t;exact⟨o,x,y,k _ o (λz=>(d _ z).2.1 rfl) p,r⟩
 ·refine(I.a_ b u e).qY (λc v i q=>k c v ?_ q) (λ_ q=>q) λ_ _ q=>q;grind
def Inv.Hr{ch:List aa}(I:Inv X a x H s)(k:∀b o,b∉ch->s.heap.get? b=some o->t.get? b=some o)(f:∀b∈ch,mC X a H b)(p:s.heap.objs.size<=T)(B:eA X.prog X.w (bv H T i) t T i):Inv X a x (bv H T i) { s with heap:=t,toks:=t'}:=by
 have g:H T=none:=I.a_.fresh p;have A:∀b u,H b=some u->b∉ch:=λb u e z=>by have q:=(f b z).1;grind
 refine I.step (g':=s.gens) (d':=s.drawn) (ch:=ch) (λb d=>⟨(f b d).2.2.2.1,(f b d).2.1,(f b d).2.2.2.2.1,(f b d).2.2.2.2.2⟩) (by grind) (λb o _ _ l e _=>⟨o.slots,k b o l e⟩)
  (λb o _ e n=>?_) (by grind) (λb y e=>?_) (λb o u e=>?_) (λb L e=>⟨#[],?_⟩) (λm D=>?_) (λb u e=>?_) I.bare
 ·rw[ew<|fg<|jA (cq e) p];exact n
 ·rw[ew<|l7 e g];exact e
 ·rw[ew<|l7 e g];exact e
 ·rw[ew<|l7 e g,e];simp
 ·obtain⟨o,E,J,C,r⟩:=D;exact⟨o,E,J,k _ o (λz=>(f _ z).2.1 rfl) C,r⟩
 ·by_cases d:b=T
  ·subst d;rw[pf] at e;grind
  ·rw[ew d] at e;refine(I.a_ b u e).qY (λc v l q=>k c v ?_ q) (λc q=>by rw[ew<|l7 q g];exact q) λc y q=>by rw[ew<|l7 q g];exact q
   grind
def WB(I:Inv X a g H s)(o:bD)(T:qU X.prog X.w X.K h J [s.heap.objs.size] s.heap.objs.size d)(st:d 0 (s.heap.push o))(q:R J H):Eb X a g h R (.ref s.heap.objs.size) { s with heap:=s.heap.push o,toks:=tk}:=by
 refine⟨s.heap.objs.size,[s.heap.objs.size],d,J,H,rfl,I.eN λb i e=>bV _ e,T,st,λb j=>?_,q⟩;have e:b=s.heap.objs.size:=by grind
 subst e;exact I.ss (cs _)<|I.a_.fresh<|cs _
def Ef(lo c:Int)(n:Nat):It:=⟨λi _=>i<n,λi H x a=>a=H/\x=.int (lo+(i:Nat)*c),λi _=>n<=i⟩
def OB{P:a0}{w:aT}{K:ax}{M:az}(d:aa)(lo c:Int)(n:Nat):qU P w K M (Ef lo c n) [d] d (λi h=>Fd h d (lo+(i:Nat)*c) ((n:Int)-(i:Nat)) c) where
 mem:=by simp
 obj:=by grind
 keep:=by grind
 item:=by
  intro X q hw r m i a s D H E I k st l;subst q hw r;obtain⟨C,B,O,z,y,x⟩:=k d<|by simp
  have W:=act (prog:=X.prog) (w:=X.w) (I.ok.hd m) d lo c n;refine W.item i s _ _ l st λv u J N g U=>?_;obtain⟨t,rfl⟩:=N;have S:Inv X a D H { s with heap:=u,toks:=J}:=I.kG (by grind) C B z y x;exact⟨_,rfl,zx (s:={ s with heap:=u,toks:=J}) (n:="range_iterator") g rfl rfl (by decide) ⟨.int<|lo+(i:Nat)*c,H,S,⟨t,rfl⟩,⟨rfl,rfl⟩,g,λb p=>(k b p).1⟩⟩
 done:=by
  intro X q hw r m i a s D H E I k st l;subst q hw r;obtain⟨C,B,O,z,y,x⟩:=k d<|by simp
  exact abk (I.ok.hd m) st (by have:n<=i:=l;omega) λu R=>⟨rfl,I.kG (t':=s.toks) (λb o p e=>R b o p e) C B z y x⟩
 kj:=λA i s Q E st h=>abm st h
def D5(i j c:Int)(n:Nat):Prop:=c≠0/\c.natAbs<1073741824/\aaa i j c=true/\Ak i j c=n
def Yn(d:TA):TI:=λa H R=>d a H λb e=>∃(i j c:Int)(n:Nat),b=[.int i,.int j,.int c]/\D5 i j c n/\R (Ef i c n) e
def Qb(L:Gl X "range")(J:X.mg "range"=none)(M:PA X [a,b,c] A)(E:aB [a,b,c] X.ae=(false,aO a X.ae)::aB [b,c] X.ae:=by rfl)(v:(eK g<|aB [b,c] X.ae).any (·.1)=false:=by rfl):
 PI X tg (.Call (.Name "range" p) [a,b,c] [] g) (Yn A):=by
 intro d s w H R I h;refine o7<|lu I L J N2<|nL (bH (M g d s w H _ I h) λus l⟨vs,H1,Z,B,D⟩=>?_) E v;obtain⟨i,j,k,n,e,⟨U,T,S,c3⟩,q⟩:=D;subst e;cases B with
 |cons r f=>
  cases f with
  |cons C f=>
   cases f with
   |cons u f=>
    cases f;obtain⟨t,rfl⟩:=r;obtain⟨x,rfl⟩:=C;obtain⟨m,rfl⟩:=u;refine call_range_3 U ?_<|.inl<|PyProof.noPylong_small T;refine ab_ (abX ..) S ?_;have Y:Inv X d w H1 { l with heap:=l.heap.push { cls:=.type "range",data:=.fields #[.int i t,.int j x,.int k m]}}:=Z.eN (t':=l.toks) λb o e=>bV _ e;refine WB (tk:=l.toks) Y _ (OB _ i k n) ?_ q;have O:i+((0:Nat):Int)*k=i:=by simp
    have N:(n:Int)-((0:Nat):Int)=Ak i j k:=by omega
    show Fd _ _ (i+((0:Nat):Int)*k) ((n:Int)-((0:Nat):Int)) k;rw[O,N];exact dM _ rfl
def Mn(K:ax)(a:aa):It:=⟨λi H=>∃(b:List V)(x:V),bi K H a b/\b[i]?=some x,λi H v c=>∃T x,v=.ref T/\H T=none/\c=bv H T (.a9 [.int (i:Nat),x])/\∀b,bi K H a b->b[i]?=some x,λi H=>∃b:List V,bi K H a b/\b.length<=i⟩
def Qu{P:a0}{w:aT}{K:ax}{B:List az}{kk:Nat}{r:bf}(a e f:aa):
 qU P w K (.Tuple B kk r) (Mn K a) [e,f] e (λi h=>(∃c,IsEnum h e f ((i:Nat):Int) c)/\h.IsListIter f a i/\e≠f) where
 mem:=by simp
 obj:=λi h st b n=>by obtain⟨⟨c,j⟩,⟨o,ho,T,hd⟩,_⟩:=st;grind
 keep:=λi h h' st k=>let⟨⟨c,j⟩,hi,d⟩:=st;⟨⟨c,k e (by simp) _ j⟩,hi.at λo q=>k f (by simp) o q,d⟩
 item:=by
  intro X Z hw hK T i l s σ H E I D st R;subst Z hw hK;obtain⟨⟨c,j⟩,g,d⟩:=st;obtain⟨xs,x,C,O⟩:=R;obtain⟨N,L,p,hz⟩:=I.list C;obtain⟨u,hu,ru⟩:=L.get O;have S:e<s.heap.objs.size:=cq j;have c':f<s.heap.objs.size:=by obtain⟨_,q,_⟩:=g;exact cq q
  refine wpAny_pyNext_enum_item j g p.isList (x:=u) (by grind) d λh' ho v hT b' hk=>?_;refine⟨_,rfl,wpAny_letOwnedTupleGo_enum (s:={ s with heap:=h',toks:=s.toks+1}) ho λm d' J=>?_⟩;have Y:m.get? s.heap.objs.size=some { cls:=.type "tuple",data:=.seq #[.int i s.toks,u]}:=(J.2 _<|o4 S).trans hT;have M:eA X.prog X.w (bv H s.heap.objs.size (.a9 [.int (i:Nat),x])) m s.heap.objs.size (.a9 [.int (i:Nat),x]):=⟨by show 2<=bx;decide,[.int i s.toks,u],.cons ⟨_,rfl⟩<|.cons ru .nil,⟨_,Y,rfl,_,rfl⟩⟩
  have I1:Inv X l σ (bv H s.heap.objs.size (.a9 [.int (i:Nat),x])) { s with heap:=m,toks:=s.toks+1}:=I.Hr (ch:=[e,f]) (λb ob n q=>(J.2 b λz=>n<|by simp[z]).trans<|by grind) D (cs _) M
  refine⟨.ref s.heap.objs.size,_,I1,rfl,⟨_,x,rfl,I.a_.fresh<|cs _,rfl,λys hy=>by rw[I.vx hy C];exact O⟩,⟨⟨u,?_⟩,v.at λo q=>(J.2 f<|ci d).trans q,d⟩,λb n=>?_⟩;·grind
  ·have U:b<s.heap.objs.size:=by grind
   rw[ew<|fg U];exact(D b n).1
 done:=by
  intro X Z hw hK T i l s σ H E I D st R;subst Z hw hK;obtain⟨⟨c,j⟩,g,d⟩:=st;obtain⟨xs,C,O⟩:=R;obtain⟨N,L,p,hz⟩:=I.list C;obtain⟨f0,f1,f2,f3,f4,f5⟩:=D f<|by simp
  have hl:=L.length;exact wpAny_pyNext_enum_end (I.ok.hd T) j g p.isList (by grind) λh' eb=>⟨rfl,I.kG (t':=s.toks) (λb o n q=>eb b o n q) f0 f1 f3 f4 f5⟩
 kj:=λA i s Q E st h=>let⟨⟨_,j⟩,_⟩:=st;aco j h
def XG(K:ax)(f:TA):TI:=λc H R=>f c H λe b=>∃a d,e=[.ref a]/\bi K b a d/\R (Mn K a) b
def UQ(E:Gl X "enumerate")(B:X.mg "enumerate"=none)(L:PA X [e] o)(z:aB [e] X.ae=[(false,aO e X.ae)]:=by rfl):
 PI X (.Tuple m Z k) (.Call (.Name "enumerate" p) [e] [] i) (XG X.K o):=by
 intro d s j H R I h;refine o7<|lu I E B boot_enumerate<|nL (bH (L i d s j H _ I h) λT c⟨S,n,g,u,v⟩=>?_) z rfl;obtain⟨a,Q,N,A,q⟩:=v;subst N;cases u with
 |cons r t=>
  cases t;cases r;obtain⟨x,Y,w,hz⟩:=g.list A;refine call_enumerate_list w.isList λM J D y C=>aco J ?_;have O:Inv X d j n { c with heap:=M}:=g.eN (t':=c.toks) C;refine⟨c.heap.objs.size+1,[c.heap.objs.size+1,c.heap.objs.size],_,_,n,rfl,O,Qu a (c.heap.objs.size+1) c.heap.objs.size,(by grind),λb hb=>?_,q⟩;have e':b=c.heap.objs.size+1\/b=c.heap.objs.size:=by grind
  have f:c.heap.objs.size<=b:=by grind
  exact g.ss f<|g.a_.fresh f
def BE:tw "zip"=some (.type "zip"):=by decide
def l9(s:cv):Arguments:=match s with
 |.FunctionDef _ a _ _ _ _ _ _ _ _=>a
 |_=>{ posonlyargs:=[],args:=[],vararg:=none,kwonlyargs:=[],kw_defaults:=[],kwarg:=none,defaults:=[]}
def iF(s:cv):List cv:=match s with
 |.FunctionDef _ _ b _ _ _ _ _ _ _=>b
 |_=>[]
def bh(s:cv):fQ:=match s with
 |.FunctionDef _ _ _ _ _ _ e _ _ _=>e
 |_=>{ kind:=.function,names:=[],isGenerator:=false,isCoroutine:=false}
abbrev bC:nF:=λ_ _ _ _ _ _=>False
abbrev E0:XK:=λ_ _ _=>False
def ur:ug bC X E0:=λ_ _ _ _ _ _ _ h=>h.elim
structure bK(K:ax)(x qual:ak)(st:cv)(f:aa)(fd:bI):Prop where
 ex:∃(oc:af)(od:Option aa)(kV doc pm:af)(an:Option aa)(cdv ct:af)(osl:Array (Option af)),
  fd=lW x qual (l9 st) (iF st) (bh st) .none kV doc pm an cdv ct/\K.lookup f=some ⟨oc,od,.func fd,osl⟩/\xi K cdv qual=true
 kp:rx K (.ref f)=true
def bK.ok(F:bK c x g a f z)(S:bP N r (bh a))(m:∀i H Q E,p i H Q E->i.length=r.length)(j:∀(e:af)(A:b8)(d:List fA)(s:am)(H:Hp)(i:List V)(Q:VK)(E:XK),dn k (A.deeper (mV g (bh a) s.heap.objs.size f e))->p i H Q E->
 ∃t,dr (mr bC b w c v l N g (bh a) f e A d s H E).oM (iF a) t/\t { nx:=λ_ C=>Q .aS C,rt:=Q} (start N i) H):bB b w c v l bC (k+1) f z r p:=by
 obtain⟨L,J,kV,B,I,R,e,O,u,rfl,lk,o⟩:=F.ex;refine Yu lk o S m λA d s H i Q E y n=>?_;obtain⟨t,h,q⟩:=j e A d s H i Q E y n;exact⟨t,h.oM,q⟩
def bK.qO(F:bK b x e a f o)(h:∀(kV c i:af)(k:Option aa)(d j:af)(g:List af),g.length=l.length->Ff (lW x e (l9 a) (iF a) (bh a) .none kV c i k d j) ⟨g,[]⟩=pure (l.zip g)):oG b o l []:=by obtain⟨q,p,kV,c,i,k,d,j,m,rfl,lk,n⟩:=F.ex;exact .all<|h kV c i k d j
def ze{st:cv}(l:b.lookup f=some ⟨o,n,.func<|lW x d (l9 st) (iF st) (bh st) .none a g h m e j,i⟩)(c:xi b e d=true)(k:rx b (.ref f)=true):bK b x d st f (lW x d (l9 st) (iF st) (bh st) .none a g h m e j):=⟨(by grind),k⟩
def pD(a:dn k A):A.units+1<cH:=sY (by omega) a.units
def QT:gU X (.builtin "len") (λc H Q=>∃a b,c=[V.ref a]/\H a=some (.dK b)/\Q (.int b.length) H):=by intro d s i H c j Q I r h;obtain⟨a,b,rfl,f,q⟩:=h;obtain⟨u,rfl,e⟩:=DL r;cases e;exact XX I (.inl f) λt k g=>⟨.int b.length,H,g,⟨t,rfl⟩,q⟩
def YM{A:Prop}(h:B):if false=true then A else B:=by grind
def YO{A:Prop}(h:A):if true=true then A else B:=by grind
def aW(H a:Hp):Prop:=∀b o,H b=some o->a b=some o
def aW.refl(H:Hp):aW H H:=λ_ _ h=>h
def aW.trans(a:aW H e)(b:aW e d):aW H d:=λc o h=>b c o<|a c o h
def aW.seq(e:aW H d)(h:bi b H a c):bi b d a c:=by
 rcases h with(h|⟨o,h⟩)|h;·exact .inl<|.inl<|e _ _ h
 ·exact .inl<|.inr ⟨o,e _ _ h⟩
 ·exact .inr h
open PySem.W(WData Codec OpenSpec Well WellAll ReadsW ReadsAllW)
mutual
inductive Dw (K:ax) (H:Hp):V->f9->Prop
 |aS:Dw K H .aS .none
 |bl (b:Bool):Dw K H (.bl b) (.bool b)
 |int (i:Int):Dw K H (.int i) (.int i)
 |str (x:ak):Dw K H (.str x) (.str x)
 |jx (b:Array UInt8):Dw K H (.jx b) (.bytes b.toList)
 |aq {a:aa} {xs:List V} {ds:List f9}:bi K H a xs->mj K H xs ds->Dw K H (.ref a) (.list ds)
 |a9 {a:aa} {xs:List V} {ds:List f9}:cV K H a xs->mj K H xs ds->Dw K H (.ref a) (.tuple ds)
inductive mj (K:ax) (H:Hp):List V->List f9->Prop
 |nil:mj K H [] []
 |cons {v:V} {vs:List V} {d:f9} {ds:List f9}:Dw K H v d->mj K H vs ds->mj K H (v::vs) (d::ds)
end
def Jg:∀b:List Int,mj a H (b.map V.int) (b.map WData.int)
 |[]=>.nil
 |n::r=>.cons (.int n)<|Jg r
def IX:∀(c:List Int)(b:List V),mj a H b (c.map WData.int)->b=c.map V.int
 |[],b,h=>by cases h;rfl
 |n::r,b,h=>by
  cases h with
  |cons e d=>cases e;rw[IX r _ d]<;>rfl
def WG(f:ek b w H h)(l:c.In h)(q:bi c H a g):∃(d:List af)(o:bD)(n:Nat),bF g d/\h.get? a=some o/\o.cls=.type "list"/\o.data=.seq d.toArray n:=by
 rcases q with q|⟨o,d,n,e,k,_,j,_,i⟩
 ·obtain⟨_,d,n,i,e⟩:=(show eA b w H h a (.aq g) from q.ok f)
  grind
 ·exact⟨d.toList,o,n,i,l _ _ e,k,by simp[j]⟩
def VU(f:ek b w H h)(l:c.In h)(q:cV c H a g):∃(d:List af)(o:bD)(n:Nat),bF g d/\h.get? a=some o/\o.cls=.type "tuple"/\o.data=.seq d.toArray n:=by
 rcases q with q|⟨o,d,n,e,k,j,_,i⟩
 ·obtain⟨_,d,i,o,e,k,n,j⟩:=(show eA b w H h a (.a9 g) from q.ok f)
  grind
 ·exact⟨d.toList,o,n,i,l _ _ e,k,by simp[j]⟩
mutual
def Dw.nj {P:a0} {K:ax} {R:aa5} (a:ek P w H h) (f:K.In h):∀(d:f9)(v:V)(u:af),Dw K H v d->bM v u->∃g,ReadsW R cl h u d g
 |.none,_,_,x,r=>by
  cases x
  cases r
  exact⟨_,ReadsW.none⟩
 |.bool b,_,_,x,r=>by
  cases x
  cases r
  exact⟨_,ReadsW.bool b⟩
 |.int i,_,_,x,r=>by
  cases x
  obtain⟨t,rfl⟩:=r
  exact⟨_,ReadsW.int i t⟩
 |.str s,_,_,x,r=>by
  cases x
  obtain⟨t,rfl⟩:=r
  exact⟨_,ReadsW.str s t⟩
 |.bytes b,_,_,x,r=>by
  cases x
  obtain⟨t,rfl⟩:=r
  exact⟨_,ReadsW.bytes _ t⟩
 |.list c,_,_,x,r=>by
  cases x with
  |aq k y=>
   cases r
   obtain⟨e,o,n,j,m,q,p⟩:=WG a f k
   obtain⟨g,l⟩:=Dw.rP a f c _ e y j
   exact⟨_,ReadsW.list m q p l⟩
 |.tuple c,_,_,x,r=>by
  cases x with
  |a9 k y=>
   cases r
   obtain⟨e,o,n,j,m,q,p⟩:=VU a f k
   obtain⟨g,l⟩:=Dw.rP a f c _ e y j
   exact⟨_,ReadsW.tuple m q p l⟩
 |.float _,_,_,x,_=>by cases x
 |.dict _,_,_,x,_=>by cases x
 |.bytearray _,_,_,x,_=>by cases x
 |.set _,_,_,x,_=>by cases x
 |.frozenset _,_,_,x,_=>by cases x
 |.obj _ _,_,_,x,_=>by cases x
def Dw.rP {P:a0} {K:ax} {R:aa5} (a:ek P w H h) (f:K.In h):∀(c:List f9)(z:List V)(A:List af),mj K H z c->bF z A->∃g,ReadsAllW R cl h A c g
 |[],_,_,x,r=>by
  cases x
  cases r
  exact⟨_,ReadsAllW.nil⟩
 |d::c,_,_,x,r=>by
  cases x with
  |cons J I=>
   cases r with
   |cons C B=>
    obtain⟨g,E⟩:=Dw.nj a f d _ _ J C
    obtain⟨L,D⟩:=Dw.rP a f c _ _ I B
    exact⟨_,ReadsAllW.cons E D⟩
end
mutual
def kS:f9->Bool
 |.none=>true
 |.bool _=>true
 |.int _=>true
 |.str _=>true
 |.bytes _=>true
 |.list a=>my a
 |.tuple a=>my a
 |_=>false
def my:List f9->Bool
 |[]=>true
 |x::r=>kS x&&my r
end
def Ix{b:Type}{f:b->f9}(h:∀a,kS (f a)=true):∀l:List b,my (l.map f)=true
 |[]=>rfl
 |x::r=>by show(kS (f x)&&my (r.map f))=true;rw[h x,Ix h r]<;>rfl
def qH:∀(c:tJ)(a:c.denote),kS (c.enc a)=true
 |.unit,_=>rfl
 |.bool,_=>rfl
 |.int _ _,_=>rfl
 |.nat _ _,_=>rfl
 |.u8,_=>rfl
 |.bytes _ _,_=>rfl
 |.text _ _ _ _,_=>rfl
 |.list _ _ c,a=>Ix (λx=>qH c x) a
 |.pair c d,a=>by show(kS (c.enc a.1)&&(kS (d.enc a.2)&&true))=true;rw[qH c a.1,qH d a.2]<;>rfl
 |.triple c d e,a=>by show(kS (c.enc a.1)&&(kS (d.enc a.2.1)&&(kS (e.enc a.2.2)&&true)))=true;rw[qH c a.1,qH d a.2.1,qH e a.2.2]<;>rfl
 |.option c,none=>rfl
 |.option c,some x=>qH c x
def Hj:∀(b:List tJ)(a:ER b),my (xo b a)=true
 |[],_=>rfl
 |c::b,a=>by show(kS (c.enc a.1)&&my (xo b a.2))=true;rw[qH c a.1,Hj b a.2]<;>rfl
def Bk:∀{a:List f9}{d:f9},d∈a->d.weight<=EQ a
 |[],d,h=>cy h<|by simp
 |x::r,d,h=>by
  show d.weight<=x.weight+1+EQ r;rcases cO.mp h with e|m;·grind
  ·have z:=Bk m;omega
def lM:af->V
 |.none=>.aS
 |.bool b=>.bl b
 |.int i _=>.int i
 |.str x _=>.str x
 |.bytes b _=>.jx b
 |.ref a=>.ref a
 |_=>.aS
def lI(A:List aa):af->Prop
 |.none=>True
 |.bool _=>True
 |.int _ _=>True
 |.str _ _=>True
 |.bytes _ _=>True
 |.ref a=>a∈A
 |_=>False
def lI.cb(h:∀a∈A,a∈B):∀{u:af},lI A u->lI B u:=λ{u}x=>by
 cases u with
 |ref a=>exact h a x
 |none=>trivial
 |bool b=>trivial
 |int i t=>trivial
 |str s t=>trivial
 |bytes b t=>trivial
 |_=>exact lZ x
def Tv(x:lI A u):bM (lM u) u:=by
 cases u with
 |ref a=>rfl
 |none=>rfl
 |bool b=>rfl
 |int i t=>exact⟨t,rfl⟩
 |str s t=>exact⟨t,rfl⟩
 |bytes b t=>exact⟨t,rfl⟩
 |_=>exact lZ x
def tV:∀{a:List af},(∀u∈a,lI A u)->bF (a.map lM) a
 |[],_=>.nil
 |u::r,h=>.cons (Tv<|h u<|cc ..)<|tV λx b=>h x<|e8 _ b
def mn(h:aJ)(A:List aa)(a:aa):Prop:=∃c:List af,c.length<=bx/\(∀u∈c,lI A u)/\
 (h.get? a=some { cls:=.type "list",data:=.seq c.toArray}\/h.get? a=some { cls:=.type "tuple",data:=.seq c.toArray})
def mn.cb(k:∀a∈A,a∈B)(x:mn h A a):mn h B a:=by obtain⟨b,f,e,d⟩:=x;exact⟨b,f,λu c=>(e u c).cb k,d⟩
def xP:∀{c:List af}{d:List f9},rF a h c d->c.length=d.length
 |_,_,.nil=>rfl
 |_,_,.cons _ b=>by show _+1=_+1;rw[xP b]
def Gx(x:Well b h v (.list f)):∃(a:aa)(c:List af),v=.ref a/\h.get? a=some { cls:=.type "list",data:=.seq c.toArray}/\rF b h c f:=by
 cases x with
 |list i d=>grind
def Gi(x:Well b h v (.tuple f)):∃(a:aa)(c:List af),v=.ref a/\h.get? a=some { cls:=.type "tuple",data:=.seq c.toArray}/\rF b h c f:=by
 cases x with
 |tuple i d=>grind
def GU(x:rF c h f (d::g)):∃(v:af)(e:List af),f=v::e/\Well c h v d/\rF c h e g:=by
 cases x with
 |cons a b=>grind
def J1(h:n<=1048576):n<=bx:=dY h<|by decide
mutual
def SI {P:rG}:∀(d:f9)(v:af),Well P h v d->kS d=true->d.weight<=1048576->∃A:List aa,lI A v/\∀a∈A,mn h A a
 |.none,_,x,_,_=>by
  cases x
  exact⟨[],trivial,λa m=>cy m<|by simp⟩
 |.bool b,_,x,_,_=>by
  cases x
  exact⟨[],trivial,λa m=>cy m<|by simp⟩
 |.int i,_,x,_,_=>by
  cases x
  exact⟨[],trivial,λa m=>cy m<|by simp⟩
 |.str s,_,x,_,_=>by
  cases x
  exact⟨[],trivial,λa m=>cy m<|by simp⟩
 |.bytes b,_,x,_,_=>by
  cases x
  exact⟨[],trivial,λa m=>cy m<|by simp⟩
 |.list f,_,x,p,z=>by
  obtain⟨a,g,rfl,o,c⟩:=Gx x
  have j:EQ f<=1048576:=z
  obtain⟨A,w,t⟩:=yu f _ c p λd r=>dY (Bk r) j
  have k:∀b∈A,b∈a::A:=by grind
  refine⟨a::A,cc ..,λb n=>?_⟩
  rcases cO.mp n with e|m
  ·rw[e]
   exact⟨g,J1 (by rw[xP c];exact dY (Z1 f) j),λu l=>(w u l).cb k,.inl o⟩
  ·exact(t b m).cb k
 |.tuple f,_,x,p,z=>by
  obtain⟨a,g,rfl,o,c⟩:=Gi x
  have j:EQ f<=1048576:=z
  obtain⟨A,w,t⟩:=yu f _ c p λd r=>dY (Bk r) j
  have k:∀b∈A,b∈a::A:=by grind
  refine⟨a::A,cc ..,λb n=>?_⟩
  rcases cO.mp n with e|m
  ·rw[e]
   exact⟨g,J1 (by rw[xP c];exact dY (Z1 f) j),λu l=>(w u l).cb k,.inr o⟩
  ·exact(t b m).cb k
 |.float _,_,_,p,_=>mL<|show false=true from p
 |.dict _,_,_,p,_=>mL<|show false=true from p
 |.bytearray _,_,_,p,_=>mL<|show false=true from p
 |.set _,_,_,p,_=>mL<|show false=true from p
 |.frozenset _,_,_,p,_=>mL<|show false=true from p
 |.obj _ _,_,_,p,_=>mL<|show false=true from p
def yu {P:rG}:∀(f:List f9)(g:List af),rF P h g f->my f=true->(∀d∈f,d.weight<=1048576)->∃A:List aa,(∀u∈g,lI A u)/\∀a∈A,mn h A a
 |[],_,x,_,_=>by
  cases x
  exact⟨[],λu m=>cy m (by simp),λa m=>cy m<|by simp⟩
 |d::f,_,x,p,z=>by
  obtain⟨v,g,rfl,E,D⟩:=GU x
  have q:kS d=true/\my f=true:=aa2.mp p
  obtain⟨A,L,J⟩:=SI d v E q.1<|z d<|cc ..
  obtain⟨B,I,H⟩:=yu f g D q.2<|by grind
  have C:∀b∈A,b∈A++B:=by grind
  have y:∀b∈B,b∈A++B:=by grind
  refine⟨A++B,λu l=>?_,λb n=>?_⟩
  ·rcases cO.mp l with e|m
   ·rw[e]
    exact L.cb C
   ·exact(I u m).cb y
  ·rcases eI.mp n with m|m
   ·exact(J b m).cb C
   ·exact(H b m).cb y
end
def zP(o:bD):Option HO:=match o.data with
 |.seq a _=>if(o.cls==ky "list")=true then some (.kr o<|.aq<|a.toList.map lM) else some (.kr o<|.a9<|a.toList.map lM)
 |_=>none
def iK(K:ax)(h:aJ)(A:List aa):Hp:=λb=>if b∈A then(if(K.lookup b).isNone=true then(h.get? b).bind zP else none) else none
def we(H:Hp):Prop:=∀b,H b=none\/∃o u,H b=some (.kr o u)
def HD(b:List af):zP { cls:=.type "list",data:=.seq b.toArray}=some (.kr { cls:=.type "list",data:=.seq b.toArray}<|.aq<|b.map lM):=by rfl
def IG(b:List af):zP { cls:=.type "tuple",data:=.seq b.toArray}=some (.kr { cls:=.type "tuple",data:=.seq b.toArray}<|.a9<|b.map lM):=by rfl
def yT(d:b∈A)(c:a.lookup b=none)(e:h.get? b=some o):iK a h A b=zP o:=by unfold iK;grind
def VH(q:iK a h A b=some u):b∈A/\a.lookup b=none:=by
 unfold iK at q;by_cases c:b∈A
 ·rw[aM c] at q;cases d:a.lookup b with
  |none=>grind
  |some o=>grind
 grind
theorem yU (n : ∀ a ∈ A, mn h A a) (q : iK c h A b = some u) : c.lookup b = none ∧ ∃ f : List af, f.length ≤ bx ∧ (∀ u ∈ f, lI A u) ∧
    ((h.get? b = some { cls := .type "list", data := .seq f.toArray } ∧ u = .kr { cls := .type "list", data := .seq f.toArray } (.aq (f.map lM))) ∨
     (h.get? b = some { cls := .type "tuple", data := .seq f.toArray } ∧ u = .kr { cls := .type "tuple", data := .seq f.toArray } (.a9 (f.map lM)))) := by
  obtain ⟨j, i⟩ := VH q
  obtain ⟨f, m, l, k⟩ := n b j
  refine ⟨i, f, m, l, ?_⟩
  rcases k with e | e
  · rw [yT j i e, HD] at q
    grind
  · rw [yT j i e, IG] at q
    grind
def Ql(d:∀a∈A,mn h A a):we (iK c h A):=λb=>by
 cases q:iK c h A b with
 |none=>grind
 |some u=>
  obtain⟨_,f,_,_,⟨_,e⟩|⟨_,e⟩⟩:=yU d q;·grind
  grind
def TY(i:∀a∈A,mn h A a):ek c w (iK d h A) h:=λb u q=>by
 obtain⟨_,f,j,g,⟨e,rfl⟩|⟨e,rfl⟩⟩:=yU i q;·exact⟨e,by grind,f,_,tV g,e⟩
 ·exact⟨e,by grind,f,tV g,_,e,rfl,_,rfl⟩
def Zd(p:b.In h)(n:∀a∈A,mn h A a){c:List af}(g:a∈A)(e:h.get? a=some { cls:=.type "list",data:=.seq c.toArray}):(∀u∈c,lI A u)/\bi b (iK b h A) a (c.map lM):=by
 obtain⟨f,r,i,q⟩:=n a g;have l:f=c:=by grind
 subst l;refine⟨i,?_⟩;cases d:b.lookup a with
 |none=>exact .inl<|.inr ⟨_,by rw[yT g d e,HD]⟩
 |some o=>have j:=p a o d;rw[e] at j;obtain rfl:=ta j;exact .inr ⟨_,f.toArray,_,d,rfl,rfl,rfl,by omega,by simpa using tV i⟩
def oJ(p:b.In h)(n:∀a∈A,mn h A a){c:List af}(g:a∈A)(e:h.get? a=some { cls:=.type "tuple",data:=.seq c.toArray}):(∀u∈c,lI A u)/\cV b (iK b h A) a (c.map lM):=by
 obtain⟨f,r,i,q⟩:=n a g;have l:f=c:=by grind
 subst l;refine⟨i,?_⟩;cases d:b.lookup a with
 |none=>exact .inl<|.inr ⟨_,by rw[yT g d e,IG]⟩
 |some o=>have j:=p a o d;rw[e] at j;obtain rfl:=ta j;exact .inr ⟨_,f.toArray,_,d,rfl,rfl,by omega,by simpa using tV i⟩
mutual
def VW {K:ax} {o:rG} (j:K.In h) (g:∀a∈A,mn h A a):∀(d:f9)(v:af),Well o h v d->kS d=true->lI A v->Dw K (iK K h A) (lM v) d
 |.none,_,x,_,_=>by
  cases x
  exact .aS
 |.bool b,_,x,_,_=>by
  cases x
  exact .bl b
 |.int i,_,x,_,_=>by
  cases x
  exact .int i
 |.str s,_,x,_,_=>by
  cases x
  exact .str s
 |.bytes b,_,x,_,_=>by
  cases x
  have z:=Dw.jx (K:=K) (H:=iK K h A) b.toArray
  exact z
 |.list e,_,x,p,k=>by
  obtain⟨a,f,rfl,m,c⟩:=Gx x
  obtain⟨n,l⟩:=Zd j g k m
  exact .aq l<|yZ j g e _ c p n
 |.tuple e,_,x,p,k=>by
  obtain⟨a,f,rfl,m,c⟩:=Gi x
  obtain⟨n,l⟩:=oJ j g k m
  exact .a9 l<|yZ j g e _ c p n
 |.float _,_,_,p,_=>mL<|show false=true from p
 |.dict _,_,_,p,_=>mL<|show false=true from p
 |.bytearray _,_,_,p,_=>mL<|show false=true from p
 |.set _,_,_,p,_=>mL<|show false=true from p
 |.frozenset _,_,_,p,_=>mL<|show false=true from p
 |.obj _ _,_,_,p,_=>mL<|show false=true from p
def yZ {K:ax} {o:rG} (j:K.In h) (g:∀a∈A,mn h A a):∀(e:List f9)(f:List af),rF o h f e->my e=true->(∀u∈f,lI A u)->mj K (iK K h A) (f.map lM) e
 |[],_,x,_,_=>by
  cases x
  exact .nil
 |d::e,_,x,p,k=>by
  obtain⟨v,f,rfl,t,r⟩:=GU x
  have q:kS d=true/\my e=true:=aa2.mp p
  exact .cons (VW j g d v t q.1<|k _<|cc ..)<|yZ j g e f r q.2<|by grind
end
def Q4{R:aa5}(KX:c.In f.heap)(J:f.heap.Ns iY S)(hb:f.heap.Ns N1 mb)(b':∀x:ak,x≠"__name__"->mb x=tw x)(L:f.heap.NoLimit)(hg:f.gens=#[])(y:rF w.params f.heap g D)(I:my D=true)(Y:∀d∈D,d.weight<=1048576)(hr:dn k xx)(F:∀i:aJ,c.In i->i.Ns iY S->bB a w c S i CX k fa fd Q sp)(C:∀(s:am)(X:List af),X.length=Q.length->xz s fd ⟨X,[]⟩ (Q.zip X))(e':D.length=Q.length)(Z:∀(H:Hp)(xs:List V),we H->mj c H xs D->sp xs H (λv H'=>Dw c H' v d0) λ_ _ _=>False)(c':∀H e j,CX [] H f (λ_ _ _=>False) e j->False):
 mU (aH a w) xx (.call (.ref fa) ⟨g,[]⟩) (λr j=>∃u as,r=.ok (.ret u)/\ReadsW R cl j.heap u d0 as/\OldK f.heap j.heap/\j.os=f.os/\vc j.gens) f:=by
 obtain⟨A,ho,O⟩:=yu D g y I Y;have hO:we (iK c f.heap A):=Ql O;have B:ek a w (iK c f.heap A) f.heap:=TY O;have hS:=yZ KX O D g y I ho;have hV:=tV ho;have hK:∀b u,iK c f.heap A b=some u->c.lookup b=none:=λb u q=>(yU O q).1;have E:∀{b:aa}{o:bD}{T:Array Fe}{U:Nat},f.heap.get? b=some o->o.data=.dict T U->iK c f.heap A b=none:=λ{b o T U}e d=>by
  cases q:iK c f.heap A b with
  |none=>rfl
  |some u=>
   obtain⟨_,vs,_,_,⟨e2,_⟩|⟨e2,_⟩⟩:=yU O q;·grind
   grind
 generalize iK c f.heap A=H at hO B hS hK E;have h:∀{b:aa}{o:bD},f.heap.get? b=some o->H b=none->(pF f.heap H).get? b=some o:=λe n=>RO e n;have l:∀{b:aa}{m:ak->Option af},f.heap.Ns b m->(pF f.heap H).Ns b m:=λ{b m}⟨o,T,U,e,d,r⟩=>⟨o,T,U,h e<|E e d,d,r⟩
 have nK:∀b o,c.lookup b=some o->H b=none:=λb o e=>by
  cases q:H b with
  |none=>rfl
  |some u=>grind
 have M:c.In (pF f.heap H):=λb o e=>h (KX b o e)<|nK b o e;have hM:Mod c S (pF f.heap H):=⟨M,l J,⟨mb,l hb,b'⟩,let⟨mc,h1,h2⟩:=L;⟨mc,l h1,h2⟩⟩
 have e0:sn a w c S (pF f.heap H) xx [] f H:=⟨rfl,hM,λb o e=>U6 e,NO<|Qr _ _,trivial,λb hb=>cy (show b∈([]:List aa) from hb) (by simp),B,.of_eq hg⟩
 have hl:g.length=Q.length:=by rw[xP y];omega
 refine Fb ((F _ M<|l J).uM xx [] f H ⟨g,[]⟩ g (g.map lM) _ _ hr e0 (C f g hl) hV<|Z H _ hO hS) λr j x=>?_;cases r with
 |error e=>exact(c' H e j x).elim
 |ok fl=>
  cases fl with
  |next=>exact lZ x
  |brk=>exact lZ x
  |cont=>exact lZ x
  |ret u=>
   obtain⟨v,H',os,N,un,t,r',q⟩:=x;have p:∀b o,f.heap.get? b=some o->j.heap.get? b=some o:=λb o e=>by
    cases q2:H b with
    |none=>exact un.keep b o e q2 (by intro z;exact cy (show b∈([]:List aa) from z)<|by simp)<|by simp
    |some u2=>
     rcases hO b with z|⟨ob,u3,z⟩;·grind
     ·have z2:=un.pK b ob _ z;obtain⟨e1,_⟩:=B b _ z;obtain⟨e2,_⟩:=t b _ z2;grind
   have d':c.In j.heap:=λb o e=>p b o<|KX b o e;obtain⟨as,a'⟩:=Dw.nj (R:=R) (cl:=cl) t d' d0 v u q r';exact⟨u,as,rfl,a',OldK.of_keep p,os,N⟩
def N7(h:WData.layableAll b=true):∀d∈b,d.weight<=1048576:=λd a=>
 (PySem.W.layableW_iff.mp<|iu.mp h d a).2.2
def F1:∀(b:List tJ)(a:ER b),(xo b a).length=b.length
 |[],_=>rfl
 |c::b,a=>by show(xo b a.2).length+1=b.length+1;rw[F1 b a.2]
def Qw{K:rG->ax}{CX:aT->nF}{sp:aT->Sp}(i:r.wellSaid=true)(b':d.params.defaults=[])(Q:r.args.length=C.length)(hr:dn k xx)(hY:∀(w:aT)(h:aJ),S w h->(K w.params).In h)(F:∀(w:aT)(j:ak->Option af)(y:aa)(h:aJ),S w h->(K w.params).In h->h.Ns iY j->j d.name=some (.ref y)->
 ∃M:bI,(∀(s:am)(A:List af),A.length=C.length->xz s M ⟨A,[]⟩ (C.zip A))/\
  ∀c:aJ,(K w.params).In c->c.Ns iY j->bB r.prog w (K w.params) j c (CX w) k y M C (sp w))(I:∀(w:aT)(H:Hp)(t:List V)(a:ER r.args),we H->abF r.args a=true->AQ r.args r.asked a=true->mj (K w.params) H t (xo r.args a)->
 sp w t H (λv H'=>Dw (K w.params) H' v<|r.ret.enc<|AQ r.args r.f a) λ_ _ _=>False)(L:∀(w:aT)(H:Hp)(s:am)(e:af)(x:am),CX w [] H s (λ_ _ _=>False) e x->False):
 abp q D XP S r d [] (λf X=>gG f X):=by
 intro w B l j mb G Y y o pm cd d' dV kV ho hd c' hD J hg args O as n p Z E a';obtain⟨a,e1,e2⟩:=PySem.W.os_pre_some n;obtain⟨e3,m⟩:=Codec.encAll_of_decAll r.args args a e1;subst e3;have U:=hY w _ Y;obtain⟨M,hb,hF⟩:=F w j y _ Y U G.T.g J;refine PySem.W.enter_call (Fb (Q4 (R:=[]) (cl:=classAt B.heap) (d0:=r.ret.enc<|AQ r.args r.f a) U G.T.g G.T.b G.T.builtins G.T.nolimit hg E (Hj _ _) (N7 p) hr hF hb (by rw[F1];omega)
  (λH t hO hS=>I w H t a hO m e2 hS) λH e x=>L w H l e x) λr' x hq=>?_)
 obtain⟨u,N,rfl,h1,h2,h3,h4⟩:=hq;exact⟨.inl ⟨u,_,N,rfl,λ_=>rfl,h1,(OpenSpec.post_iff i m _ _).mpr rfl,λz=>mL<|show false=true from z⟩,h2,h3,h4⟩
def PH{K:rG->ax}{ps:List ak}{sp:ax->Sp}(c:r.wellSaid=true)(n:d.params.defaults=[])(g:r.args.length=ps.length)(A:dn k xx)(B:∀(w:aT)(h:aJ),x w h->(K w.params).In h)(F:∀(w:aT)(i:ak->Option af)(u:aa)(h:aJ),x w h->(K w.params).In h->h.Ns iY i->i d.name=some (.ref u)->
 ∃t:bI,(∀(s:am)(j:List af),j.length=ps.length->xz s t ⟨j,[]⟩ (ps.zip j))/\
  ∀b:aJ,(K w.params).In b->b.Ns iY i->bB r.prog w (K w.params) i b CX k u t ps (sp (K w.params)))(z:∀(K:ax)(H:Hp)(p:List V)(a:ER r.args),we H->abF r.args a=true->AQ r.args r.asked a=true->mj K H p (xo r.args a)->
 sp K p H (λv C=>Dw K C v<|r.ret.enc<|AQ r.args r.f a) λ_ _ _=>False)(o:∀(H:Hp)(s:am)(e:af)(l:am),CX [] H s (λ_ _ _=>False) e l->False):
 abp q m D x r d [] (λf y=>gG f y):=
 Qw (K:=K) (CX:=λ_=>CX) (sp:=λw=>sp<|K w.params) c n g A B F (by grind) λ_ H s e l=>o H s e l
end L2
namespace Ld
abbrev Q:=Rat×Rat
def tn(a b c:Q):Rat:=(b.1-a.1)*(c.2-a.2)-(b.2-a.2)*(c.1-a.1)
def On(a b z:Q):Prop:=∃t:Rat,0<=t/\t<=1/\z.1=a.1+t*(b.1-a.1)/\z.2=a.2+t*(b.2-a.2)
def pp{a:Rat}(h:0<a)(k:0<b):0<a*b:=Rat.mul_pos h k
def nn{a:Rat}(h:0<=a)(k:0<=b):0<=a*b:=Rat.mul_nonneg h k
def pn{a:Rat}(h:0<a)(k:b<0):a*b<0:=by have:=pp h (show 0< -b by grind);grind
def np{a:Rat}(h:a<0)(k:0<b):a*b<0:=by have:=pp (show 0< -a by grind) k;grind
def mm{a:Rat}(h:a<0)(k:b<0):0<a*b:=by have:=pp (show 0< -a by grind) (show 0< -b by grind);grind
def nz{a:Rat}(h:0<=a)(k:b<=0):a*b<=0:=by have:=nn h (show 0<=-b by grind);grind
def zn{a:Rat}(h:a<=0)(k:0<=b):a*b<=0:=by have:=nn (show 0<=-a by grind) k;grind
def zz{a:Rat}(h:a<=0)(k:b<=0):0<=a*b:=by have:=nn (show 0<=-a by grind) (show 0<=-b by grind);grind
def fk{a:Rat}(h:0<a)(k:0<a*b):0<b:=by
 rcases abA (0<b) with q|q;·exact q
 ·have:=nz (kY h) (mS.mp q);grind
def iD{a:Rat}(h:0<a)(k:0<=a*b):0<=b:=by
 rcases abA (0<=b) with q|q;·exact q
 ·have:=pn h (Rat.not_le.mp q);grind
def wH{a:Rat}(h:a≠0)(k:a*b=a*c):b=c:=by grind
def DX(h:a≠b)(k:(0<=a/\b<=0)\/(a<=0/\0<=b)):∃t:Rat,0<=t/\t<=1/\t*(a-b)=a:=by
 have f:a-b≠0:=by grind
 refine⟨a/(a-b),?_,?_,jZ f⟩
 ·have e:=jZ (a:=a) f;generalize a/(a-b)=t at e ⊢;rcases k with⟨d,c⟩|⟨d,c⟩
  ·have:0<a-b:=by grind
   exact iD this<|by grind
  ·have:0<b-a:=by grind
   exact iD this<|by grind
 ·have e:=jZ (a:=a) f;generalize a/(a-b)=t at e ⊢;rcases k with⟨d,c⟩|⟨d,c⟩
  ·have:0<a-b:=by grind
   have:=iD this (b:=1-t)<|by grind
   grind
  ·have:0<b-a:=by grind
   have:=iD this (b:=1-t)<|by grind
   grind
def hit(h:tn u v z≠tn u v w)(m:(0<=tn u v z/\tn u v w<=0)\/(tn u v z<=0/\0<=tn u v w))(l:(0<=tn z w u/\tn z w v<=0)\/(tn z w u<=0/\0<=tn z w v)):
 ∃c,On z w c/\On u v c:=by
 have e:tn u v w-tn u v z=tn z w u-tn z w v:=by unfold tn;grind
 obtain⟨t,g,f,n⟩:=DX h m;obtain⟨s,j,i,o⟩:=DX (a:=tn z w u) (b:=tn z w v) (by grind) l;have d:tn u v z-tn u v w≠0:=by grind
 refine⟨(z.1+t*(w.1-z.1),z.2+t*(w.2-z.2)),⟨t,g,f,rfl,rfl⟩,⟨s,j,i,?_,?_⟩⟩
 ·refine wH d ?_;have k:(tn u v z-tn u v w)*(z.1-u.1)+tn u v z*(w.1-z.1)+tn z w u*(v.1-u.1)=0:=by unfold tn;grind
  grind
 ·refine wH d ?_;have k:(tn u v z-tn u v w)*(z.2-u.2)+tn u v z*(w.2-z.2)+tn z w u*(v.2-u.2)=0:=by unfold tn;grind
  grind
def cr(z:Q)(e:Q×Q):Bool:=(decide (e.1.2<=z.2)&&(decide (z.2<e.2.2)&&decide (0<tn e.1 e.2 z)))||(decide (e.2.2<=z.2)&&(decide (z.2<e.1.2)&&decide (tn e.1 e.2 z<0)))
def gz(z w x:Q):Bool:=decide (z.2<x.2)&&(decide (x.2<=w.2)&&decide (tn z w x<0))
def Cr(z u v:Q):cr z (u,v)=cr z (v,u):=by
 have e:tn u v z=-tn v u z:=by unfold tn;grind
 unfold cr;grind
section
variable {uy vy zy wy A A' B B':Rat}
 (i1:(wy-vy)*A+(vy-zy)*A'=-((vy-uy)*B')) (i2:(wy-uy)*A+(uy-zy)*A'=-((vy-uy)*B))
 (j1:(vy-zy)*B+(zy-uy)*B'=-((wy-zy)*A)) (j2:(vy-wy)*B+(wy-uy)*B'=-((wy-zy)*A'))
 (no:A≠A'->((0<=A/\A'<=0)\/(A<=0/\0<=A'))->((0<=B/\B'<=0)\/(B<=0/\0<=B'))->False)
include i1 i2 j1 j2 no
theorem Zp(l:zy<uy)(k:zy<vy)(j:uy<=wy)(i:vy<=wy):B<0↔B'<0:=by
 constructor
 ·intro b;apply gs;intro c;have c:0<=B':=mS.mp c;have g:=pn (show 0<vy-zy by grind) b;have f:=zn (show zy-uy<=0 by grind) c;have a:0<A:=fk (show 0<wy-zy by grind)<|by grind
  have e:=zz (show vy-wy<=0 by grind)<|kY b;have d:=nn (show 0<=wy-uy by grind) c;have h:0<=-A':=iD (show 0<wy-zy by grind)<|by grind
  grind
 ·intro b;apply gs;intro c;have c:0<=B:=mS.mp c;have g:=nn (show 0<=vy-zy by grind) c;have f:=mm (show zy-uy<0 by grind) b;have a:0< -A:=fk (show 0<wy-zy by grind)<|by grind
  have e:=zn (show vy-wy<=0 by grind) c;have d:=nz (show 0<=wy-uy by grind)<|kY b;have h:0<=A':=iD (show 0<wy-zy by grind)<|by grind
  grind
theorem ZF(k:uy<=zy)(j:zy<vy)(i:vy<=wy):0<A↔B'<0:=by
 constructor
 ·intro a;apply gs;intro c;have c:0<=B':=mS.mp c;have h:=nn (show 0<=vy-uy by grind) c;have g:=nn (show 0<=wy-vy by grind)<|kY a;have d:0<=-A':=iD (show 0<vy-zy by grind)<|by grind
  have f:=pp (show 0<wy-uy by grind) a;have e:=zz (show uy-zy<=0 by grind)<|show A'<=0 by grind
  have b:0< -B:=fk (show 0<vy-uy by grind)<|by grind
  grind
 ·intro b;apply gs;intro c;have c:A<=0:=mS.mp c;have h:=pn (show 0<vy-uy by grind) b;have g:=nz (show 0<=wy-vy by grind) c;have d:0<A':=fk (show 0<vy-zy by grind)<|by grind
  have f:=nz (show 0<=wy-uy by grind) c;have e:=zn (show uy-zy<=0 by grind)<|kY d;have l:0<=B:=iD (show 0<vy-uy by grind)<|by grind
  grind
theorem Zt(k:uy<=zy)(i:zy<=wy)(j:wy<vy):0<A↔0<A':=by
 constructor
 ·intro a;apply gs;intro c;have c:A'<=0:=mS.mp c;have g:=np (show wy-vy<0 by grind) a;have f:=nz (show 0<=vy-zy by grind) c;have h:0<B':=fk (show 0<vy-uy by grind)<|by grind
  have e:=nn (show 0<=wy-uy by grind)<|kY a;have d:=zz (show uy-zy<=0 by grind) c;have b:0<=-B:=iD (show 0<vy-uy by grind)<|by grind
  grind
 ·intro a;apply gs;intro c;have c:A<=0:=mS.mp c;have g:=zz (show wy-vy<=0 by grind) c;have f:=pp (show 0<vy-zy by grind) a;have h:0< -B':=fk (show 0<vy-uy by grind)<|by grind
  have e:=nz (show 0<=wy-uy by grind) c;have d:=zn (show uy-zy<=0 by grind)<|kY a;have b:0<=B:=iD (show 0<vy-uy by grind)<|by grind
  grind
theorem ZN(m:zy<uy)(l:uy<=wy)(k:wy<vy):0<A'↔B<0:=by
 constructor
 ·intro a;apply gs;intro c;have c:0<=B:=mS.mp c;have i:=nn (show 0<=vy-uy by grind) c;have h:=pp (show 0<uy-zy by grind) a;have e:A<0:=by apply gs;intro d;have:=nn (show 0<=wy-uy by grind)<|mS.mp d;grind
  have g:=mm (show wy-vy<0 by grind) e;have f:=pp (show 0<vy-zy by grind) a;have j:0< -B':=fk (show 0<vy-uy by grind)<|by grind
  grind
 ·intro b;apply gs;intro c;have c:A'<=0:=mS.mp c;have i:=pn (show 0<vy-uy by grind) b;have h:=nz (show 0<=uy-zy by grind) c;have e:0<A:=by apply gs;intro d;have:=nz (show 0<=wy-uy by grind)<|mS.mp d;grind
  have g:=np (show wy-vy<0 by grind) e;have f:=nz (show 0<=vy-zy by grind) c;have j:0<B':=fk (show 0<vy-uy by grind)<|by grind
  grind
end
def LH(o:u.2<=v.2)(j:z.2<=w.2)(n:∀c,On z w c->On u v c->False):(cr z (u,v)^^cr w (u,v))=(gz z w u^^gz z w v):=by
 have h:(w.2-v.2)*tn u v z+(v.2-z.2)*tn u v w=-((v.2-u.2)*tn z w v):=by unfold tn;grind
 have g:(w.2-u.2)*tn u v z+(u.2-z.2)*tn u v w=-((v.2-u.2)*tn z w u):=by unfold tn;grind
 have f:(v.2-z.2)*tn z w u+(z.2-u.2)*tn z w v=-((w.2-z.2)*tn u v z):=by unfold tn;grind
 have e:(v.2-w.2)*tn z w u+(w.2-u.2)*tn z w v=-((w.2-z.2)*tn u v w):=by unfold tn;grind
 have d:tn u v z≠tn u v w->((0<=tn u v z/\tn u v w<=0)\/(tn u v z<=0/\0<=tn u v w))->((0<=tn z w u/\tn z w v<=0)\/(tn z w u<=0/\0<=tn z w v))->False:=λa b c=>
  let⟨c,q,p⟩:=hit a b c
  n c q p
 unfold cr gz;dsimp only;by_cases m:u.2<=z.2
 ·have:¬z.2<u.2:=by grind
  have:u.2<=w.2:=by grind
  have:¬w.2<u.2:=by grind
  by_cases r:v.2<=z.2;·grind
  ·have:z.2<v.2:=by grind
   by_cases i:v.2<=w.2
   ·have:¬w.2<v.2:=by grind
    have k:=ZF h g f e d m ‹z.2<v.2› i;simp[*]
   ·have:w.2<v.2:=by grind
    have k:=Zt h g f e d m j this;simp[*]
 ·have:z.2<u.2:=by grind
  have:¬v.2<=z.2:=by grind
  have:z.2<v.2:=by grind
  by_cases l:u.2<=w.2
  ·have:¬w.2<u.2:=by grind
   by_cases i:v.2<=w.2
   ·have:¬w.2<v.2:=by grind
    have k:=Zp h g f e d ‹z.2<u.2› ‹z.2<v.2› l i;simp[*]
   ·have:w.2<v.2:=by grind
    have k:=ZN h g f e d ‹z.2<u.2› l this;simp[*]
  grind
def e1(e:z.2<=w.2)(f:∀c,On z w c->On u v c->False):(cr z (u,v)^^cr w (u,v))=(gz z w u^^gz z w v):=by
 by_cases h:u.2<=v.2;·exact LH h e f
 ·rw[Cr z u v,Cr w u v,acl<|gz z w u];refine LH (by grind) e λc i g=>f c i ?_;obtain⟨t,a,b,c,d⟩:=g;exact⟨1-t,by grind,by grind,by grind,by grind⟩
def sw(z:Q):Q:=(z.2,z.1)
def jc(e:Q×Q):Q×Q:=(sw e.1,sw e.2)
def qd(z x:Q):Bool:=decide (z.2<x.2)&&decide (z.1<x.1)
def Ll(u v z:Q):tn (sw u) (sw v) (sw z)=-tn u v z:=by unfold tn sw;grind
def On.symm(h:On a b z):On b a z:=by obtain⟨t,f,e,d,c⟩:=h;exact⟨1-t,by grind,by grind,by grind,by grind⟩
def On.sw(h:On a b z):On (sw a) (sw b) (sw z):=by obtain⟨t,f,e,d,c⟩:=h;exact⟨t,f,e,c,d⟩
def vl(h:tn u v z=0)(b:(u.2<=z.2/\z.2<=v.2/\u.2≠v.2)\/(v.2<=z.2/\z.2<=u.2/\u.2≠v.2)):On u v z:=by
 obtain⟨t,f,d,e⟩:=DX (a:=u.2-z.2) (b:=v.2-z.2) (by grind)<|by grind
 refine⟨t,f,d,?_,by grind⟩;have c:u.2-v.2≠0:=by grind
 refine wH c ?_;unfold tn at h;grind
def FF(h:tn u v z=0)(b:(u.1<=z.1/\z.1<=v.1/\u.1≠v.1)\/(v.1<=z.1/\z.1<=u.1/\u.1≠v.1)):On u v z:=by have:=vl (u:=Ld.sw u) (v:=Ld.sw v) (z:=Ld.sw z) (by rw[Ll,h];grind) b;exact this.sw
def e0(e:¬On u v z):(cr z (u,v)^^cr (sw z) (jc (u,v)))=(qd z u^^qd z v):=by
 have t:tn u v z=(u.1-z.1)*(v.2-z.2)-(v.1-z.1)*(u.2-z.2):=by unfold tn;grind
 have n:(u.2<=z.2/\z.2<=v.2/\u.2≠v.2)\/(v.2<=z.2/\z.2<=u.2/\u.2≠v.2)->tn u v z≠0:=λb h=>e<|vl h b;have m:(u.1<=z.1/\z.1<=v.1/\u.1≠v.1)\/(v.1<=z.1/\z.1<=u.1/\u.1≠v.1)->tn u v z≠0:=λb h=>e<|FF h b;unfold cr qd jc;dsimp only;rw[Ll];generalize tn u v z=D at *;show _=_;unfold sw;dsimp only;have g:(0< -D)↔D<0:=by grind
 have f:(-D<0)↔0<D:=by grind
 simp only[g,f];by_cases a:z.1<u.1<;>by_cases b:z.2<u.2<;>by_cases c:z.1<v.1<;>by_cases d:z.2<v.2;all_goals
  have l:(u.1<=z.1)↔¬z.1<u.1:=by grind
  have k:(u.2<=z.2)↔¬z.2<u.2:=by grind
  have j:(v.1<=z.1)↔¬z.1<v.1:=by grind
  have i:(v.2<=z.2)↔¬z.2<v.2:=by grind
  simp only[l,k,j,i];simp only[a,b,c,d,decide_true,decide_false,not_true,not_false_iff,ts,AG,AH,E3,E2,xl,ack,EW,Bool.false_xor]
 all_goals
  have r:0<u.1-z.1->0<v.2-z.2->0<(u.1-z.1)*(v.2-z.2):=pp;have q:0<=u.1-z.1->v.2-z.2<=0->(u.1-z.1)*(v.2-z.2)<=0:=nz;have p:u.1-z.1<=0->0<=v.2-z.2->(u.1-z.1)*(v.2-z.2)<=0:=zn;have o:u.1-z.1<=0->v.2-z.2<=0->0<=(u.1-z.1)*(v.2-z.2):=zz;have y:0<v.1-z.1->0<u.2-z.2->0<(v.1-z.1)*(u.2-z.2):=pp;have x:0<=v.1-z.1->u.2-z.2<=0->(v.1-z.1)*(u.2-z.2)<=0:=nz;have w:v.1-z.1<=0->0<=u.2-z.2->(v.1-z.1)*(u.2-z.2)<=0:=zn;have s:v.1-z.1<=0->u.2-z.2<=0->0<=(v.1-z.1)*(u.2-z.2):=zz;generalize(u.1-z.1)*(v.2-z.2)=S at *;generalize(v.1-z.1)*(u.2-z.2)=T at *
 all_goals try grind
def ay(z:Q):List (Q×Q)->Bool
 |[]=>false
 |e::r=>cr z e^^ay z r
def gH(z:Q):∀(a b:List (Q×Q)),ay z (a++b)=(ay z a^^ay z b)
 |[],b=>by simp[ay]
 |e::a,b=>by
  show(cr z e^^ay z (a++b))=((cr z e^^ay z a)^^ay z b)
  rw[gH z a b,Bool.xor_assoc]
def sg{c:Type}:c->List c->List (c×c)
 |_,[]=>[]
 |a,b::l=>(a,b)::sg b l
def fin{c:Type}:c->List c->c
 |a,[]=>a
 |_,b::l=>fin b l
def fE(a:List (Q×Q))(c:Q):Prop:=∀e∈a,¬On e.1 e.2 c
def fE.append:fE (a++b) c↔fE a c/\fE b c:=by
 unfold fE;constructor;·simp_all
 grind
def BI(d:z.2<=w.2):∀(l:List Q)(a:Q),(∀c,On z w c->fE (sg a l) c)->(ay z (sg a l)^^ay w (sg a l))=(gz z w a^^gz z w (fin a l))
 |[],a,_=>by simp[sg,ay,fin]
 |b::l,a,h=>by
  have p:=BI d l b λc f e q=>h c f e<|e8 _ q;have s:=e1 (u:=a) (v:=b) d λc f r=>h c f (a,b) cc r;show((cr z (a,b)^^ay z (sg b l))^^(cr w (a,b)^^ay w (sg b l)))=(gz z w a^^gz z w (fin b l))
  generalize cr z (a,b)=o at *;generalize cr w (a,b)=n at *;generalize ay z (sg b l)=m at *;generalize ay w (sg b l)=k at *;generalize gz z w a=j at *;generalize gz z w b=i at *;generalize gz z w (fin b l)=g at *;revert s p;cases o<;>cases n<;>cases m<;>cases k<;>cases j<;>cases i<;>cases g<;>decide
def Cl(a:List (Q×Q)):Prop:=∀z w,(∀c,On z w c->fE a c)->ay z a=ay w a
def Cv(h:(b=a/\fin b m=fin a l)\/(b=fin a l/\fin b m=a)):Cl (sg a l++sg b m):=by
 have s:∀z w,z.2<=w.2->(∀c,On z w c->fE (sg a l++sg b m) c)->ay z (sg a l++sg b m)=ay w (sg a l++sg b m):=by
  intro z w d g;have r:=BI d l a λc e=>(fE.append.mp<|g c e).1;have f:=BI d m b λc e=>(fE.append.mp<|g c e).2;rw[gH,gH];rcases h with⟨i,t⟩|⟨i,t⟩
  ·rw[t,i] at f;rw[i];revert r f;generalize ay z (sg a l)=q;generalize ay w (sg a l)=p;generalize ay z (sg a m)=o;generalize ay w (sg a m)=n;generalize gz z w a=k;generalize gz z w (fin a l)=j;cases q<;>cases p<;>cases o<;>cases n<;>cases k<;>cases j<;>decide
  ·rw[t] at f;rw[<-i] at r;revert r f;generalize ay z (sg a l)=q;generalize ay w (sg a l)=p;generalize ay z (sg b m)=o;generalize ay w (sg b m)=n;generalize gz z w a=k;generalize gz z w b=j;cases q<;>cases p<;>cases o<;>cases n<;>cases k<;>cases j<;>decide
 intro z w g;by_cases h:z.2<=w.2;·grind
 ·exact(s w z (by grind) λc e=>g c e.symm).symm
def Bw:∀(l:List Q)(a:Q),fE (sg a l) z->(ay z (sg a l)^^ay (sw z) ((sg a l).map jc))=(qd z a^^qd z (fin a l))
 |[],a,_=>by simp[sg,ay,fin]
 |b::l,a,h=>by
  have m:=Bw l b λe n=>h e<|e8 _ n;have s:=e0 (u:=a) (v:=b)<|h (a,b) cc;show((cr z (a,b)^^ay z (sg b l))^^(cr (sw z) (jc (a,b))^^ay (sw z) ((sg b l).map jc)))=(qd z a^^qd z (fin b l))
  generalize cr z (a,b)=k at *;generalize cr (sw z) (jc (a,b))=j at *;generalize ay z (sg b l)=i at *;generalize ay (sw z) ((sg b l).map jc)=g at *;generalize qd z a=f at *;generalize qd z b=d at *;generalize qd z (fin b l)=c at *;revert s m;cases k<;>cases j<;>cases i<;>cases g<;>cases f<;>cases d<;>cases c<;>decide
def BJ(h:(b=a/\fin b m=fin a l)\/(b=fin a l/\fin b m=a))(p:fE (sg a l++sg b m) z):
 ay z (sg a l++sg b m)=ay (sw z) ((sg a l++sg b m).map jc):=by
 have n:=Bw l a (fE.append.mp p).1;have c:=Bw m b (fE.append.mp p).2;rw[gH,dw,gH];rcases h with⟨d,o⟩|⟨d,o⟩
 ·rw[o,d] at c;rw[d];revert n c;generalize ay z (sg a l)=k;generalize ay (sw z) ((sg a l).map jc)=j;generalize ay z (sg a m)=i;generalize ay (sw z) ((sg a m).map jc)=g;generalize qd z a=f;generalize qd z (fin a l)=e;cases k<;>cases j<;>cases i<;>cases g<;>cases f<;>cases e<;>decide
 ·rw[o] at c;rw[<-d] at n;revert n c;generalize ay z (sg a l)=k;generalize ay (sw z) ((sg a l).map jc)=j;generalize ay z (sg b m)=i;generalize ay (sw z) ((sg b m).map jc)=g;generalize qd z a=f;generalize qd z b=e;cases k<;>cases j<;>cases i<;>cases g<;>cases f<;>cases e<;>decide
def jO:∀(l:List Q)(a:Q),sg (sw a) (l.map sw)=(sg a l).map jc
 |[],a=>rfl
 |b::l,a=>by show(sw a,sw b)::sg (sw b) (l.map sw)=jc (a,b)::(sg b l).map jc;rw[jO l b];rfl
def yY:∀(l:List Q)(a:Q),fin (sw a) (l.map sw)=sw (fin a l)
 |[],a=>rfl
 |b::l,a=>yY l b
def At(a b:Q)(t:Rat):Q:=(a.1+t*(b.1-a.1),a.2+t*(b.2-a.2))
def ey:Q->List Q->Q->Prop
 |_,[],_=>False
 |a,[b],c=>∃t:Rat,0<t/\t<1/\c=At a b t
 |a,b::d::l,c=>(∃t:Rat,0<t/\t<=1/\c=At a b t)\/ey b (d::l) c
def xT(h:On (At a b t) (At a b s) c):∃r:Rat,c=At a b r/\((t<=r/\r<=s)\/(s<=r/\r<=t)):=by
 obtain⟨k,d,f,e1,e⟩:=h;refine⟨t+k*(s-t),?_,?_⟩
 ·refine f7 ?_ ?_;·rw[e1];show a.1+t*(b.1-a.1)+k*((a.1+s*(b.1-a.1))-(a.1+t*(b.1-a.1)))=a.1+(t+k*(s-t))*(b.1-a.1);grind
  ·rw[e];show a.2+t*(b.2-a.2)+k*((a.2+s*(b.2-a.2))-(a.2+t*(b.2-a.2)))=a.2+(t+k*(s-t))*(b.2-a.2);grind
 ·by_cases h:t<=s
  ·left;have:=nn d<|show 0<=s-t by grind
   have:=nn (show 0<=1-k by grind)<|show 0<=s-t by grind
   grind
  ·right;have:=nn d<|show 0<=t-s by grind
   have:=nn (show 0<=1-k by grind)<|show 0<=t-s by grind
   grind
def ic(a b:Q):At a b 0=a:=by unfold At;grind
def iH(a b:Q):At a b 1=b:=by unfold At;grind
def nv(a b:Q)(d:0<=t)(c:t<=1):On a b (At a b t):=⟨t,d,c,rfl,rfl⟩
def Gf(n:Cl f):∀(l:List Q)(a:Q),fE f a->(∀c,ey a l c->fE f c)->∀c,ey a l c->ay a f=ay c f
 |[],a,_,_,c,h=>h.elim
 |[b],a,k,g,c,h=>by
  obtain⟨t,p,o,rfl⟩:=h;refine n _ _ λd v=>?_;rw[<-ic a b] at v;have j:On (At a b 0) (At a b t) d:=by
   have e:At (At a b 0) b t=At a b t:=by rw[ic]
   grind
  obtain⟨r,rfl,u⟩:=xT j;by_cases m:r=0;·rw[m,ic];exact k
  ·exact g _ ⟨r,by grind,by grind,rfl⟩
 |b::d::l,a,k,g,c,h=>by
  have first:∀t:Rat,0<t->t<=1->ay a f=ay (At a b t) f:=λt p o=>by
   refine n _ _ λx s=>?_;have i:On (At a b 0) (At a b t) x:=by rw[ic];exact s
   obtain⟨r,rfl,u⟩:=xT i;by_cases m:r=0;·rw[m,ic];exact k
   ·exact g _<|.inl<|by grind
  rcases h with⟨t,p,o,rfl⟩|h;·grind
  ·have y:ay a f=ay b f:=by have:=first 1 (by grind) (by grind);rwa [iH] at this
   have q:fE f b:=by have:=g (At a b 1) (.inl<|by grind);rwa [iH] at this
   rw[y];exact Gf n (d::l) b q (λc w=>g c<|.inr w) c h
def Bf(j:Cl f):∀(l:List Q)(a:Q),(∀c,ey a l c->fE f c)->∀c i,ey a l c->ey a l i->ay c f=ay i f
 |[],a,_,c,_,h,_=>h.elim
 |[b],a,g,c,i,h,k=>by obtain⟨t,o,n,rfl⟩:=h;obtain⟨s,A,z,rfl⟩:=k;refine j _ _ λd v=>?_;obtain⟨r,rfl,u⟩:=xT v;exact g _ ⟨r,by grind,by grind,rfl⟩
 |b::d::l,a,g,c,i,h,k=>by
  have p:fE f b:=by have:=g (At a b 1) (.inl<|by grind);rwa [iH] at this
  have m:∀c,ey a (b::d::l) c->ay b f=ay c f:=λc h=>by
   rcases h with⟨t,o,n,rfl⟩|h
   ·have e:At a b 1=b:=iH a b;rw[<-e];have y:At a (At a b 1) t=At a b t:=by rw[e]
    rw[y];refine j _ _ λx q=>?_;obtain⟨r,rfl,u⟩:=xT q;exact g _<|.inl<|by grind
   ·exact Gf j (d::l) b p (λc w=>g c<|.inr w) c h
  grind
def FU:∀(l:List Q)(a:Q)(e:Q×Q),e∈sg a l->On e.1 e.2 c->c≠e.1->c≠e.2->ey a l c
 |[],a,e,f,_,_,_=>by simp[sg] at f
 |[b],a,e,f,g,k,j=>by
  have:e=(a,b):=by simpa [sg] using f
  subst this;obtain⟨t,n,m,e1,i⟩:=g;have h:c=At a b t:=f7 e1 i;subst h;refine⟨t,?_,?_,rfl⟩
  ·have:t≠0:=by grind
   grind
  ·have:t≠1:=by grind
   grind
 |b::d::l,a,e,f,g,k,j=>by
  rcases cO.mp f with q|q
  ·subst q;obtain⟨t,n,m,e1,i⟩:=g;have h:c=At a b t:=f7 e1 i;subst h;left;grind
  ·exact .inr<|FU (d::l) b e q g k j
def yJ:∀(l:List Q)(a:Q),ey a l c->ey (sw a) (l.map sw) (sw c)
 |[],a,h=>h.elim
 |[b],a,h=>by obtain⟨t,f,e,rfl⟩:=h;exact⟨t,f,e,rfl⟩
 |b::d::l,a,h=>by
  rcases h with⟨t,f,e,rfl⟩|h;·exact .inl ⟨t,f,e,rfl⟩
  ·exact .inr<|yJ (d::l) b h
def da(h:Rat)(e:Q×Q):Prop:=(e.1.2<h/\h<e.2.2)\/(e.2.2<h/\h<e.1.2)
instance (h:Rat) (e:Q×Q):Decidable (da h e):=by unfold da;infer_instance
def ps(h:Rat)(e:Q×Q):Rat:=e.1.1+(h-e.1.2)/(e.2.2-e.1.2)*(e.2.1-e.1.1)
def ko(h:Rat)(a:List (Q×Q)):Prop:=∀e∈a,e.1.2≠h/\e.2.2≠h
def LA(k:da h e):tn e.1 e.2 (t,h)=(e.2.2-e.1.2)*(ps h e-t):=by
 have b:e.2.2-e.1.2≠0:=by unfold da at k;grind
 have q:=jZ (a:=h-e.1.2) b;unfold tn ps;grind
def zw(g:e.1.2≠h/\e.2.2≠h):cr (t,h) e=(decide (da h e)&&decide (t<ps h e)):=by
 by_cases k:da h e
 ·have q:=LA (t:=t) k;simp only[k,decide_true,ts];unfold cr;rw[q];generalize ps h e=m at *;unfold da at k;rcases k with⟨f,a⟩|⟨f,a⟩
  ·have d:e.1.2<=h:=by grind
   have c:¬h<e.1.2:=by grind
   simp only[d,a,c,decide_true,decide_false,ts,AG,AH,E2];apply decide_eq_decide.mpr;constructor
   ·intro z;have:=fk (by grind) z;grind
   ·intro z;exact pp (by grind)<|by grind
  ·have d:e.2.2<=h:=by grind
   have c:¬h<e.2.2:=by grind
   simp only[d,a,c,decide_true,decide_false,ts,AG,AH,xl];apply decide_eq_decide.mpr;constructor
   ·intro z;have:=fk (show 0<e.1.2-e.2.2 by grind) (b:=m-t)<|by grind
    grind
   ·intro z;have:=pp (show 0<e.1.2-e.2.2 by grind)<|show 0<m-t by grind
    grind
 ·simp only[k,decide_false,AG];unfold cr;unfold da at k;grind
def DB(k:da h e):On e.1 e.2 (ps h e,h):=by
 have z:tn e.1 e.2 (ps h e,h)=0:=by rw[LA k];grind
 refine vl z ?_;unfold da at k;grind
def sG(m h:Rat):List (Q×Q)->Bool
 |[]=>false
 |e::r=>decide (da h e/\ps h e=m)^^sG m h r
def vC(b:t<m):∀(a:List (Q×Q)),ko h a->(∀e∈a,da h e->t<ps h e->m<=ps h e)->ay (t,h) a=(ay (m,h) a^^sG m h a)
 |[],_,_=>rfl
 |e::r,g,k=>by
  have d:=vC b r (λe f=>g e<|e8 _ f)<|by grind
  have c:=g e cc;have i:=k e cc;show(cr (t,h) e^^ay (t,h) r)=((cr (m,h) e^^ay (m,h) r)^^(decide (da h e/\ps h e=m)^^sG m h r))
  rw[d,zw c,zw c];grind
def oF(e f:Q×Q):Prop:=∀c,On e.1 e.2 c->On f.1 f.2 c->c=e.1\/c=e.2
def oF.ps(a:oF e f)(g:e.1.2≠h/\e.2.2≠h)(k:da h e)(d:da h f):ps h e≠ps h f:=λq=>by
 have c:=DB k;have b:=DB d;rw[<-q] at b;rcases a _ c b with z|z;·grind
 grind
def qx:∀(a:List (Q×Q)),(∀e∈a,da h e->ps h e≠m)->sG m h a=false
 |[],_=>rfl
 |e::r,k=>by show(decide (da h e/\ps h e=m)^^sG m h r)=false;rw[qx r<|by grind];grind
def vP:∀(c:List (Q×Q)),ko h c->c.Pairwise oF->∀e∈c,da h e->ps h e=m->sG m h c=true
 |[],_,_,e,b,_,_=>by grind
 |f::r,g,a,e,b,k,q=>by
  show(decide (da h f/\ps h f=m)^^sG m h r)=true;rw[iX] at a;rcases cO.mp b with z|z
  ·subst z;rw[qx r λx j d=>λl=>(a.1 x j).ps (g e cc) k d<|by grind];grind
  ·rw[vP r (λe b=>g e<|e8 _ b) a.2 e z k q];have:¬(da h f/\ps h f=m):=λ⟨i,n⟩=>(a.1 e z).ps (g f cc) i k<|by grind
   grind
def GD{c:Type}{p q:c->Bool}(d:∀x,p x=true->q x=true):∀(l:List c),(∃x∈l,q x=true/\p x=false)->(l.filter p).length<(l.filter q).length
 |[],⟨x,e,_⟩=>by grind
 |a::l,⟨x,e,h,g⟩=>by
  have i:∀(l:List c),(l.filter p).length<=(l.filter q).length:=λl=>by
   induction l with
   |nil=>simp
   |cons b l f=>grind
  rw[tc,tc];rcases cO.mp e with z|z;·grind
  ·have f:=GD d l ⟨x,z,h,g⟩;grind
def K0{f:Q×Q->Rat}:∀(l:List (Q×Q)),l≠[]->∃e∈l,∀x∈l,f e<=f x
 |[],h=>(h rfl).elim
 |[a],_=>by simp
 |a::b::l,_=>by
  obtain⟨e,d,c⟩:=K0 (f:=f) (b::l)<|by simp
  grind
def vB:∀(a:List (Q×Q)),ko h a->(∀e∈a,da h e->¬t<ps h e)->ay (t,h) a=false
 |[],_,_=>rfl
 |e::r,g,k=>by show(cr (t,h) e^^ay (t,h) r)=false;rw[vB r (λe b=>g e<|e8 _ b) (by grind),zw<|g e cc];grind
def sm(g:ko h (d++(b++a)))(A:(d++(b++a)).Pairwise oF)(S:Bool->Bool->Bool->Prop)(C:S false false false)(O:∀e∈d,da h e->∀c,c=(ps h e,h)->S (ay c d) (ay c b) (ay c a)->S (!ay c d) (ay c b) (ay c a))(N:∀e∈b,da h e->∀c,c=(ps h e,h)->S (ay c d) (ay c b) (ay c a)->S (ay c d) (!ay c b) (ay c a))(M:∀e∈a,da h e->∀c,c=(ps h e,h)->S (ay c d) (ay c b) (ay c a)->S (ay c d) (ay c b) (!ay c a)):
 ∀(n:Nat)(t:Rat),((d++(b++a)).filter λe=>decide (da h e)&&decide (t<ps h e)).length=n->S (ay (t,h) d) (ay (t,h) b) (ay (t,h) a):=by
 have l:ko h d:=λe m=>g e<|w_ _ m;have p:ko h b:=λe m=>g e<|by grind
 have w:ko h a:=λe m=>g e<|by grind
 rw[sV] at A;obtain⟨J,s,u⟩:=A;rw[sV] at s;obtain⟨I,H,B⟩:=s;intro n;induction n using Nat.strongRecOn with
 |ind n E=>
  intro t F;by_cases G:((d++(b++a)).filter λe=>decide (da h e)&&decide (t<ps h e))=[]
  ·have none:∀e∈d++(b++a),da h e->¬t<ps h e:=λe m k q=>by
    have:e∈((d++(b++a)).filter λe=>decide (da h e)&&decide (t<ps h e)):=by grind
    grind
   rw[vB d l (by grind),vB b p (by grind),vB a w<|by grind];exact C
  ·obtain⟨e,m,L⟩:=K0 (f:=ps h) _ G;obtain⟨o,v⟩:=oU.mp m;have j:da h e:=by grind
   have y:t<ps h e:=by grind
   have K:∀x∈d++(b++a),da h x->t<ps h x->ps h e<=ps h x:=by grind
   have D:((d++(b++a)).filter λx=>decide (da h x)&&decide (ps h e<ps h x)).length<n:=by
    rw[<-F];refine GD (λx i=>?_) _ ⟨e,o,v,?_⟩;·grind
    grind
   have r:=E _ D (ps h e) rfl;rw[vC y d l (by grind),vC y b p (by grind),vC y a w<|by grind];rcases eI.mp o with q|q
   ·rw[vP d l J e q j rfl,qx b λx i k z=>(u e q x<|w_ _ i).ps (l e q) j k z.symm,qx a λx i k z=>(u e q x<|nM _ i).ps (l e q) j k z.symm];simp only[Nz,EW];grind
   ·rcases eI.mp q with q|q
    ·rw[qx d λx i k z=>(u x i e<|w_ _ q).ps (l x i) k j z,vP b p I e q j rfl,qx a λx i k z=>(B e q x i).ps (p e q) j k z.symm];simp only[Nz,EW];grind
    ·rw[qx d λx i k z=>(u x i e<|nM _ q).ps (l x i) k j z,qx b λx i k z=>(B x i e q).ps (p x i) k j z,vP a w H e q j rfl];simp only[Nz,EW];grind
def yR:∀(l:List Q)(a:Q),ko h (sg a l)->(∀e∈sg a l,da h e->t<ps h e)->ay (t,h) (sg a l)=(decide (h<a.2)^^decide (h<(fin a l).2))
 |[],a,_,_=>(ack _).symm
 |b::l,a,g,k=>by
  have i:=yR l b (λe d=>g e<|e8 _ d) λe d=>k e<|e8 _ d;have j:a.2≠h/\b.2≠h:=g (a,b) cc;have f:=k (a,b) cc;show(cr (t,h) (a,b)^^ay (t,h) (sg b l))=(decide (h<a.2)^^decide (h<(fin b l).2))
  rw[i,zw j];have s:(decide (da h (a,b))&&decide (t<ps h (a,b)))=(decide (h<a.2)^^decide (h<b.2)):=by
   by_cases c:da h (a,b)
   ·have:=f c;simp only[c,this,decide_true,ts];unfold da at c;grind
   ·simp only[c,decide_false,AG];unfold da at c;grind
  grind
def zE:∀(L:List Rat)(a b:Rat),a<b->∃h,a<h/\h<b/\h∉L
 |[],a,b,k=>⟨(a+b)/2,by grind,by grind,by simp⟩
 |x::L,a,b,k=>by
  by_cases q:a<x/\x<b
  ·obtain⟨h,e,d,c⟩:=zE L a x q.1;grind
  ·obtain⟨h,e,d,c⟩:=zE L a b k;grind
def zY:∀(L:List Rat),∃t,∀x∈L,t<x
 |[]=>⟨0,by simp⟩
 |x::L=>by
  obtain⟨t,h⟩:=zY L;by_cases q:t<x
  ·refine⟨t,λy a=>?_⟩;grind
  ·refine⟨x-1,λy a=>?_⟩;grind
def mD(d c a b w:Bool):Bool:=match d,c with
 |true,true=>!a&&(!b&&!w)
 |false,true=>(!a&&(!b&&!w))||(a&&(!(b&&w)))
 |true,false=>(!a&&(!b&&!w))||(b&&(!(a&&w)))
 |false,false=>!((a^^w)&&(b^^w))
def S7(b a:Bool):mD b a false false false=true:=by cases b<;>cases a<;>rfl
def Yq(c d a b w:Bool):(b^^w)=c->mD c d a b w=true->mD c d (!a) b w=true:=by revert c d a b w;decide
def Xy(d c a b w:Bool):(a^^w)=c->mD d c a b w=true->mD d c a (!b) w=true:=by revert d c a b w;decide
def Yz(d c a b w:Bool):(a^^b)=true->mD d c a b w=true->mD d c a b (!w)=true:=by revert d c a b w;decide
def UP(b a:Bool):mD b a true true true=true->b=false/\a=false:=by revert b a;decide
structure lB(p q:Q)(la lb lw:List Q):Prop where
 fa:fin q la=p
 fb:fin p lb=q
 fw:fin p lw=q
 ap:(sg q la++(sg p lb++sg p lw)).Pairwise oF
 oA:∀c,ey q la c->fE (sg p lb++sg p lw) c
 oB:∀c,ey p lb c->fE (sg q la++sg p lw) c
 oW:∀c,ey p lw c->fE (sg q la++sg p lb) c
def B4(g:ko h (sg a l))(b:e∈sg a l)(k:da h e):ey a l (ps h e,h):=FU l a e b (DB k) (λz=>(g e b).1 (by grind)) (λz=>(g e b).2 (by grind))
section
variable {p q:Q} {la lb lw:List Q} (T:lB p q la lb lw)
include T
theorem lB.Zs:Cl (sg p lb++sg p lw):=Cv<|.inl ⟨rfl,by rw[T.fb,T.fw]⟩
theorem lB.Zw:Cl (sg q la++sg p lw):=Cv<|.inr ⟨T.fa.symm,T.fw⟩
theorem lB.ZA:Cl (sg q la++sg p lb):=Cv<|.inr ⟨T.fa.symm,T.fb⟩
theorem lB.uM{fa fb:Bool}(j:∀c,ey q la c->ay c (sg p lb++sg p lw)=fa)(i:∀c,ey p lb c->ay c (sg q la++sg p lw)=fb)
 (f:∀c,ey p lw c->ay c (sg q la++sg p lb)=true){h:Rat}(g:ko h (sg q la++(sg p lb++sg p lw)))(t:Rat):
 mD fa fb (ay (t,h)<|sg q la) (ay (t,h)<|sg p lb) (ay (t,h)<|sg p lw)=true:=by
 refine sm g T.ap (λa b w=>mD fa fb a b w=true) (S7 fa fb) ?_ ?_ ?_ _ t rfl
 ·rintro e d k c rfl;refine Yq fa fb _ _ _ ?_;rw[<-gH];exact j _<|B4 (λe d=>g e<|w_ _ d) d k
 ·rintro e d k c rfl;refine Xy fa fb _ _ _ ?_;rw[<-gH];exact i _<|B4 (λe d=>g e<|by grind) d k
 ·rintro e d k c rfl;refine Yz fa fb _ _ _ ?_;rw[<-gH];exact f _<|B4 (λe d=>g e<|by grind) d k
theorem lB.core(v:p.2≠q.2)(x:∀c,ey p lw c->ay c (sg q la++sg p lb)=true):
 (∀c,ey q la c->ay c (sg p lb++sg p lw)=false)/\(∀c,ey p lb c->ay c (sg q la++sg p lw)=false):=by
 have n:∃fa,∀c,ey q la c->ay c (sg p lb++sg p lw)=fa:=by
  by_cases a:∃c,ey q la c
  ·obtain⟨c,i⟩:=a;exact⟨_,λd f=>Bf T.Zs la q T.oA d c f i⟩
  simp_all
 have m:∃fb,∀c,ey p lb c->ay c (sg q la++sg p lw)=fb:=by
  by_cases a:∃c,ey p lb c
  ·obtain⟨c,i⟩:=a;exact⟨_,λd f=>Bf T.Zw lb p T.oB d c f i⟩
  simp_all
 obtain⟨fa,z⟩:=n;obtain⟨fb,y⟩:=m;have w:∃h,(h<p.2/\q.2<h\/p.2<h/\h<q.2)/\ko h (sg q la++(sg p lb++sg p lw)):=by
  have o:∀h,h∉((sg q la++(sg p lb++sg p lw)).map λe=>e.1.2)++((sg q la++(sg p lb++sg p lw)).map λe=>e.2.2)->ko h (sg q la++(sg p lb++sg p lw)):=λh B e b=>
   by grind
  by_cases a:p.2<q.2
  ·obtain⟨h,l,k,j⟩:=zE _ p.2 q.2 a;exact⟨h,.inr ⟨l,k⟩,o h j⟩
  ·obtain⟨h,l,k,j⟩:=zE _ q.2 p.2<|by grind
   exact⟨h,.inl ⟨k,l⟩,o h j⟩
 obtain⟨h,C,g⟩:=w;obtain⟨t,A⟩:=zY<|(sg q la++(sg p lb++sg p lw)).map<|ps h;have lo:∀e∈sg q la++(sg p lb++sg p lw),da h e->t<ps h e:=by grind
 have r:=T.uM z y x g t;rw[yR la q (λe b=>g e<|w_ _ b) (by grind),
  yR lb p (λe b=>g e<|by grind) (by grind),
  yR lw p (λe b=>g e<|by grind) (by grind),T.fa,T.fb,T.fw] at r
 have u:(decide (h<q.2)^^decide (h<p.2))=true:=by grind
 have s:(decide (h<p.2)^^decide (h<q.2))=true:=by grind
 rw[u,s] at r;obtain⟨rfl,rfl⟩:=UP fa fb r;grind
end
def Ti(h:On (sw a) (sw b) (sw z)):On a b z:=h.sw
def SH(h:oF e f):oF (jc e) (jc f):=λc g d=>by
 have k:=h (sw c) (On.sw (a:=sw e.1) (b:=sw e.2) g)<|On.sw (a:=sw f.1) (b:=sw f.2) d;rcases k with k|k;·exact .inl<|c9 sw k
 ·exact .inr<|c9 sw k
def CU(h:fE g c):fE (g.map jc) (sw c):=λe d a=>by obtain⟨f,b,rfl⟩:=cY.mp d;exact h f b<|Ti a
def yr(h:ey (sw a) (l.map sw) c):ey a l (sw c):=by
 have k:=yJ _ _ h;have e:(l.map sw).map sw=l:=by rw[d_];exact(xa λx _=>rfl).trans<|Fa l
 rw[e] at k;exact k
def lB.sw{p q:Q}{e d b:List Q}(T:lB p q e d b):lB (sw p) (sw q) (e.map sw) (d.map sw) (b.map sw) where
 fa:=by rw[yY,T.fa]
 fb:=by rw[yY,T.fb]
 fw:=by rw[yY,T.fw]
 ap:=by rw[jO,jO,jO,<-dw,<-dw,nR];exact T.ap.imp SH
 oA:=λc a=>by have:=CU<|T.oA _<|yr a;rw[jO,jO,<-dw];exact this
 oB:=λc a=>by have:=CU<|T.oB _<|yr a;rw[jO,jO,<-dw];exact this
 oW:=λc a=>by have:=CU<|T.oW _<|yr a;rw[jO,jO,<-dw];exact this
section
variable {p q:Q} {la lb lw:List Q} (T:lB p q la lb lw)
include T
theorem lB.XY(b:p≠q)(d:∀c,ey p lw c->ay c (sg q la++sg p lb)=true):
 (∀c,ey q la c->ay c (sg p lb++sg p lw)=false)/\(∀c,ey p lb c->ay c (sg q la++sg p lw)=false):=by
 by_cases h:p.2=q.2
 ·have f:p.1≠q.1:=λz=>b<|f7 z h;have c:=T.sw.core (by exact f) λc e=>by have o:=yr e;rw[jO,jO,<-dw];have:=BJ (z:=Ld.sw c) (.inr ⟨T.fa.symm,T.fb⟩)<|T.oW _ o;rw[d _ o] at this;exact this.symm
  refine⟨λx a=>?_,λx a=>?_⟩
  ·have:=c.1 (Ld.sw x)<|yJ _ _ a;rw[jO,jO,<-dw] at this;rw[BJ (.inl ⟨rfl,by rw[T.fb,T.fw]⟩)<|T.oA _ a];omega
  ·have:=c.2 (Ld.sw x)<|yJ _ _ a;rw[jO,jO,<-dw] at this;rw[BJ (.inr ⟨T.fa.symm,T.fw⟩)<|T.oB _ a];omega
 ·exact T.core h d
theorem lB.Yt(a:p≠q)(b:∀c,ey p lw c->ay c (sg q la++sg p lb)=true){z:Q}(g:ko z.2 (sg q la++(sg p lb++sg p lw))):
 ¬(ay z (sg q la++sg p lw)=true/\ay z (sg p lb++sg p lw)=true):=by
 obtain⟨f,e⟩:=T.XY a b;have r:=T.uM f e b g z.1;rw[gH,gH];rintro⟨i,h⟩;have d:mD false false (ay z (sg q la)) (ay z (sg p lb)) (ay z (sg p lw))=true:=r;unfold mD at d;grind
end
open Sy(Pt turn onStretch through meet sign)
def io(p:Pt):Q:=((p.1:Rat),(p.2:Rat))
def ie(e:Pt×Pt):Q×Q:=(io e.1,io e.2)
def li(h:io a=io b):a=b:=by have d:((a.1:Int):Rat)=((b.1:Int):Rat):=c9 l4 h;have c:((a.2:Int):Rat)=((b.2:Int):Rat):=c9 kA h;exact f7 (uZ.mp d)<|uZ.mp c
def mi(a b c:Pt):tn (io a) (io b) (io c)=((bc a b c:Int):Rat):=by unfold tn io bc;grind
def oK{a b:Int}:((a:Rat)<(b:Rat))↔a<b:=Rat.intCast_lt_intCast
def fD{a b:Int}:((a:Rat)<=(b:Rat))↔a<=b:=Rat.intCast_le_intCast
def Yd{a:Int}:((a:Rat)=0)↔a=0:=by simp
def DH{a:Int}:((0:Rat)<(a:Rat))↔0<a:=by have:((0:Int):Rat)=0:=rfl;rw[<-this];exact oK
def DC{a:Int}:((a:Rat)<0)↔a<0:=by have:((0:Int):Rat)=0:=rfl;rw[<-this];exact oK
def zu(h:On a b z):tn a b z=0:=by obtain⟨t,_,_,e1,c⟩:=h;unfold tn;grind
def Xb(h:On a b z):((a.1<=z.1/\z.1<=b.1)\/(b.1<=z.1/\z.1<=a.1))/\((a.2<=z.2/\z.2<=b.2)\/(b.2<=z.2/\z.2<=a.2)):=by
 obtain⟨t,c,f,e1,g⟩:=h;constructor
 ·by_cases q:a.1<=b.1
  ·have e:=nn c<|show 0<=b.1-a.1 by grind
   have d:=nn (show 0<=1-t by grind)<|show 0<=b.1-a.1 by grind
   grind
  ·have e:=nn c<|show 0<=a.1-b.1 by grind
   have d:=nn (show 0<=1-t by grind)<|show 0<=a.1-b.1 by grind
   grind
 ·by_cases q:a.2<=b.2
  ·have e:=nn c<|show 0<=b.2-a.2 by grind
   have d:=nn (show 0<=1-t by grind)<|show 0<=b.2-a.2 by grind
   grind
  ·have e:=nn c<|show 0<=a.2-b.2 by grind
   have d:=nn (show 0<=1-t by grind)<|show 0<=a.2-b.2 by grind
   grind
def rK:bN a b c=true↔bc a b c=0/\min a.1 b.1<=c.1/\c.1<=max a.1 b.1/\min a.2 b.2<=c.2/\c.2<=max a.2 b.2:=by unfold bN;grind
def eY:bN a b c=true↔On (io a) (io b) (io c):=by
 rw[rK];constructor
 ·rintro⟨h,l,k,j,i⟩;have d:tn (io a) (io b) (io c)=0:=by rw[mi,h];rfl
  by_cases q:a.1=b.1
  ·by_cases r:a.2=b.2
   ·have e:c=a:=f7 (by omega)<|by omega
    rw[e];exact⟨0,by grind,by grind,by grind,by grind⟩
   ·refine vl d ?_;unfold io;dsimp only;rw[fD,fD,fD,fD];have g:¬((a.2:Rat)=(b.2:Rat)):=λz=>r<|uZ.mp z;grind
  ·refine FF d ?_;unfold io;dsimp only;rw[fD,fD,fD,fD];have g:¬((a.1:Rat)=(b.1:Rat)):=λz=>q<|uZ.mp z;grind
 ·intro h;have d:=zu h;rw[mi] at d;have f:=Xb h;unfold io at f;dsimp only at f;rw[fD,fD,fD,fD,fD,fD,fD,fD] at f;refine⟨Yd.mp d,?_,?_,?_,?_⟩<;>omega
def Tc:sign x*sign y<0↔(x<0/\0<y)\/(0<x/\y<0):=by unfold sign;grind
def A9:dZ a b c d=true↔((bc a b c<0/\0<bc a b d)\/(0<bc a b c/\bc a b d<0))/\((bc c d a<0/\0<bc c d b)\/(0<bc c d a/\bc c d b<0)):=by unfold dZ;simp only[dc,eg,Tc]
def WA(E:On a b z)(D:On c d z):(On a b c\/On a b d\/On c d a\/On c d b)\/
 (((tn a b c<0/\0<tn a b d)\/(0<tn a b c/\tn a b d<0))/\((tn c d a<0/\0<tn c d b)\/(0<tn c d a/\tn c d b<0))):=by
 apply gs;intro A;have B:¬On a b c:=λq=>A<|.inl<|.inl q;have X:¬On a b d:=by grind
 have I:¬On c d a:=by grind
 have H:¬On c d b:=by grind
 have W:=λq=>A<|.inr q;have o:=E;have n:=D;obtain⟨t,P,O,e1,e2⟩:=E;obtain⟨s,v,T,f1,f2⟩:=D;have M:t≠0:=by grind
 have N:t≠1:=by grind
 have R:s≠0:=by grind
 have S:s≠1:=by grind
 have g1:(1-t)*tn c d a+t*tn c d b=0:=by have:=zu n;unfold tn at this ⊢;grind
 have g2:(1-s)*tn a b c+s*tn a b d=0:=by have:=zu o;unfold tn at this ⊢;grind
 have g3:tn c d b-tn c d a=tn a b c-tn a b d:=by unfold tn;grind
 have r:0<t:=by grind
 have g:0<1-t:=by grind
 have u:0<s:=by grind
 have h:0<1-s:=by grind
 by_cases q:tn c d a=0
 ·have V:tn c d b=0:=by grind
  have G:tn a b c=tn a b d:=by grind
  have U:tn a b c=0:=by grind
  have m:¬(b.1-a.1=0/\b.2-a.2=0):=by grind
  have x:(b.1-a.1)*(d.2-c.2)=(b.2-a.2)*(d.1-c.1):=by unfold tn at G;grind
  have K:∃k:Rat,d.1-c.1=k*(b.1-a.1)/\d.2-c.2=k*(b.2-a.2):=by
   by_cases p:b.1-a.1=0
   ·have i:b.2-a.2≠0:=λi=>m ⟨p,i⟩;refine⟨(d.2-c.2)/(b.2-a.2),?_,(jZ i).symm⟩;grind
   ·have e:=jZ (a:=d.1-c.1) p;grind
  obtain⟨k,Z,Y⟩:=K;by_cases J:0<=k
  ·by_cases w:s*k<=t
   ·have:=nn v J;exact B ⟨t-s*k,by grind,by grind,by grind,by grind⟩
   ·have C:0<k:=by grind
    have e:=jZ (a:=t)<|show k≠0 by grind
    have j:0<=s-t/k:=iD C<|by grind
    have F:0<=t/k:=iD C<|by grind
    exact I ⟨s-t/k,j,by grind,by grind,by grind⟩
  ·have l:0< -k:=by grind
   by_cases w:s*(-k)<=1-t
   ·have:=nn v<|kY l;exact B ⟨t-s*k,by grind,by grind,by grind,by grind⟩
   ·have e:=jZ (a:=1-t)<|show-k≠0 by grind
    have j:0<=s-(1-t)/(-k):=iD l<|by grind
    have F:0<=(1-t)/(-k):=iD l<|by grind
    exact H ⟨s-(1-t)/(-k),j,by grind,by grind,by grind⟩
 ·have a1:(tn c d a<0/\0<tn c d b)\/(0<tn c d a/\tn c d b<0):=by
   by_cases y:0<tn c d a
   ·right;refine⟨y,?_⟩;have:=pp g y;have:0< -tn c d b:=fk r<|by grind
    grind
   ·left;have f:tn c d a<0:=by grind
    refine⟨f,?_⟩;have:=pn g f;exact fk r<|by grind
  have a2:(tn a b c<0/\0<tn a b d)\/(0<tn a b c/\tn a b d<0):=by
   by_cases L:tn a b c=0;·grind
   ·by_cases y:0<tn a b c
    ·right;refine⟨y,?_⟩;have:=pp h y;have:0< -tn a b d:=fk u<|by grind
     grind
    ·left;have f:tn a b c<0:=by grind
     refine⟨f,?_⟩;have:=pn h f;exact fk u<|by grind
  grind
def T5(f:On (io a) (io b) z)(e:On (io c) (io d) z):dj a b c d=true:=by
 unfold dj;rcases WA f e with(h|h|h|h)|h;·rw[eY.mpr h];simp
 ·rw[eY.mpr h];simp
 ·rw[eY.mpr h];simp
 ·rw[eY.mpr h];simp
 ·have:dZ a b c d=true:=by rw[A9];simp only[mi,DH,DC] at h;exact h
  grind
def Cf(h:dj a b c d=false)(f:On (io a) (io b) z)(e:On (io c) (io d) z):False:=by rw[T5 f e] at h;cases h
def Ya(h:tn a b c≠0)(e:On a b z)(d:On b c z):z=b:=by
 have q:=zu e;obtain⟨s,g,f,j,i⟩:=d;have:s*tn a b c=0:=by unfold tn at q ⊢;grind
 grind
end Ld
namespace Ld
open Sy(Pt turn)
def Ho(e:Q×Q)(c:Q):Prop:=∃t:Rat,0<=t/\t<1/\c=At e.1 e.2 t
def Ho.on(h:Ho e c):On e.1 e.2 c:=by obtain⟨t,a,b,rfl⟩:=h;exact nv _ _ a<|by grind
def fL(e:Q×Q):Ho e e.1:=⟨0,by grind,by grind,(ic _ _).symm⟩
def sd(h:On e.1 e.2 c):Ho e c\/c=e.2:=by
 obtain⟨t,a,f,e1,d⟩:=h;have b:c=At e.1 e.2 t:=f7 e1 d;by_cases q:t=1;·grind
 ·left;exact⟨t,a,by grind,b⟩
def Bt(a m b:Q):Prop:=∃t:Rat,0<t/\t<1/\m=At a b t
def TR(h:Bt a m b):Ho (a,b) c↔Ho (a,m) c\/Ho (m,b) c:=by
 obtain⟨t,d,n,rfl⟩:=h;constructor
 ·rintro⟨s,f,g,rfl⟩;by_cases q:s<t
  ·left;have e:=jZ (a:=s)<|show t≠0 by grind
   refine⟨s/t,iD d (by grind),?_,?_⟩
   ·have:=fk d (b:=1-s/t)<|by grind
    grind
   ·generalize s/t=k at *;refine f7 ?_ ?_;·show a.1+s*(b.1-a.1)=a.1+k*((a.1+t*(b.1-a.1))-a.1);grind
    ·show a.2+s*(b.2-a.2)=a.2+k*((a.2+t*(b.2-a.2))-a.2);grind
  ·right;have j:0<1-t:=by grind
   have e:=jZ (a:=s-t)<|show 1-t≠0 by grind
   refine⟨(s-t)/(1-t),iD j (by grind),?_,?_⟩
   ·have:=fk j (b:=1-(s-t)/(1-t))<|by grind
    grind
   ·generalize(s-t)/(1-t)=k at *;refine f7 ?_ ?_;·show a.1+s*(b.1-a.1)=(a.1+t*(b.1-a.1))+k*(b.1-(a.1+t*(b.1-a.1)));grind
    ·show a.2+s*(b.2-a.2)=(a.2+t*(b.2-a.2))+k*(b.2-(a.2+t*(b.2-a.2)));grind
 ·rintro(⟨s,f,g,rfl⟩|⟨s,f,g,rfl⟩)
  ·have i:=nn f<|kY d;have l:=pp d<|show 0<1-s by grind
   refine⟨s*t,i,by grind,?_⟩;refine f7 ?_ ?_;·show a.1+s*((a.1+t*(b.1-a.1))-a.1)=a.1+s*t*(b.1-a.1);grind
   ·show a.2+s*((a.2+t*(b.2-a.2))-a.2)=a.2+s*t*(b.2-a.2);grind
  ·have i:=nn f<|show 0<=1-t by grind
   have l:=pp (show 0<1-s by grind)<|show 0<1-t by grind
   refine⟨t+s*(1-t),by grind,by grind,?_⟩;refine f7 ?_ ?_;·show(a.1+t*(b.1-a.1))+s*(b.1-(a.1+t*(b.1-a.1)))=a.1+(t+s*(1-t))*(b.1-a.1);grind
   ·show(a.2+t*(b.2-a.2))+s*(b.2-(a.2+t*(b.2-a.2)))=a.2+(t+s*(1-t))*(b.2-a.2);grind
def kd(h:a≠b)(e:At a b s=At a b t):s=t:=by have e1:a.1+s*(b.1-a.1)=a.1+t*(b.1-a.1):=c9 l4 e;have c:a.2+s*(b.2-a.2)=a.2+t*(b.2-a.2):=c9 kA e;grind
def Fw(n:a≠b)(h:Bt a m b)(i:Ho (a,m) c)(g:Ho (m,b) c):False:=by
 obtain⟨t,d,k,rfl⟩:=h;obtain⟨s,o,l,rfl⟩:=i;obtain⟨r,f,p,e⟩:=g;have u:=pp d<|show 0<1-s by grind
 have q:=nn f<|show 0<=1-t by grind
 have:s*t=t+r*(1-t):=by
  refine kd n ?_;refine f7 ?_ ?_
  ·have:=c9 l4 e;show a.1+s*t*(b.1-a.1)=a.1+(t+r*(1-t))*(b.1-a.1);have j:a.1+s*((a.1+t*(b.1-a.1))-a.1)=(a.1+t*(b.1-a.1))+r*(b.1-(a.1+t*(b.1-a.1))):=this;grind
  ·have:=c9 kA e;show a.2+s*t*(b.2-a.2)=a.2+(t+r*(1-t))*(b.2-a.2);have j:a.2+s*((a.2+t*(b.2-a.2))-a.2)=(a.2+t*(b.2-a.2))+r*(b.2-(a.2+t*(b.2-a.2))):=this;grind
 grind
def LF(n:a≠b)(h:Bt a m b):a≠m/\m≠b:=by
 obtain⟨t,d,c,rfl⟩:=h;constructor
 ·intro q;have:(0:Rat)=t:=kd n<|by rw[ic];exact q
  grind
 ·intro q;have:t=1:=kd n<|by rw[iH];exact q
  grind
def S6(h:Bt a m b):cr z (a,b)=(cr z (a,m)^^cr z (m,b)):=by
 obtain⟨t,c,o,rfl⟩:=h;have e1:tn a (At a b t) z=t*tn a b z:=by unfold tn At;grind
 have n:tn (At a b t) b z=(1-t)*tn a b z:=by unfold tn At;grind
 have l:(At a b t).2=a.2+t*(b.2-a.2):=rfl;have d:0<1-t:=by grind
 unfold cr;dsimp only;rw[e1,n];generalize tn a b z=D;have i:(0<t*D)↔0<D:=⟨λq=>fk c q,λq=>pp c q⟩
 have g:(t*D<0)↔D<0:=⟨λq=>by have:=fk c (b:=-D) (by grind);grind,λq=>pn c q⟩
 have f:(0<(1-t)*D)↔0<D:=⟨λq=>fk d q,λq=>pp d q⟩
 have e:((1-t)*D<0)↔D<0:=⟨(by grind),λq=>pn d q⟩
 simp only[i,g,f,e,l];have p:(a.2<=b.2->a.2<=a.2+t*(b.2-a.2)/\a.2+t*(b.2-a.2)<=b.2)/\(b.2<=a.2->b.2<=a.2+t*(b.2-a.2)/\a.2+t*(b.2-a.2)<=a.2):=by
  constructor
  ·intro q;have k:=nn (kY c)<|show 0<=b.2-a.2 by grind
   have j:=nn (kY d)<|show 0<=b.2-a.2 by grind
   grind
  ·intro q;have k:=nn (kY c)<|show 0<=a.2-b.2 by grind
   have j:=nn (kY d)<|show 0<=a.2-b.2 by grind
   grind
 grind
def ri:Q->List Q->Q->Prop
 |_,[],_=>True
 |a,m::c,b=>Bt a m b/\ri m c b
def v6:∀(d:List Q)(a b:Q),ri a d b->(Ho (a,b) c↔∃e∈sg a (d++[b]),Ho e c)
 |[],a,b,_=>by simp[sg]
 |m::d,a,b,h=>by have f:=v6 (c:=c) d m b h.2;rw[TR h.1,f];show _↔∃e∈(a,m)::sg m (d++[b]),Ho e c;simp
def IW:∀(c:List Q)(a b:Q),ri a c b->ay z (sg a (c++[b]))=cr z (a,b)
 |[],a,b,_=>by simp[sg,ay]
 |m::c,a,b,h=>by have d:=IW (z:=z) c m b h.2;show(cr z (a,m)^^ay z (sg m<|c++[b]))=_;rw[d,S6 h.1]
def Dj(e f:Q×Q):Prop:=∀c,¬(Ho e c/\Ho f c)
def fY(a:List (Q×Q)):Prop:=a.Pairwise Dj
def Dj.symm(h:Dj e f):Dj f e:=λc⟨a,b⟩=>h c ⟨b,a⟩
def IM:∀(d:List Q)(a b:Q),a≠b->ri a d b->fY (sg a (d++[b]))
 |[],a,b,_,_=>by show([(a,b)]:List (Q×Q)).Pairwise Dj;grind
 |m::d,a,b,n,h=>by show((a,m)::sg m (d++[b])).Pairwise Dj;rw[iX];refine⟨λf e c⟨i,g⟩=>?_,IM d m b (LF n h.1).2 h.2⟩;exact Fw n h.1 i<|(v6 d m b h.2).mpr ⟨f,e,g⟩
inductive jt:List (Q×Q)->List (Q×Q)->Prop where
 |nil:jt [] []
 |cons {a b:Q} {ms:List Q} {es fs:List (Q×Q)}:a≠b->ri a ms b->jt es fs->jt ((a,b)::es) (sg a (ms++[b])++fs)
def jt.ho(r:jt d b):(∃e∈d,Ho e c)↔∃e∈b,Ho e c:=by
 induction r with
 |nil=>rfl
 |cons n h _ a=>simp only[cO,eI,exists_eq_left,or_and_right,exists_or];rw[v6 _ _ _ h,a]
def jt.ay(r:jt c b):ay z b=ay z c:=by
 induction r with
 |nil=>rfl
 |cons n h _ a=>rw[gH,IW _ _ _ h,a];rfl
def jt.bJ(r:jt u t):fY u↔fY t:=by
 induction r with
 |nil=>rfl
 |@cons a b d u t n h r s=>
  unfold fY at s ⊢;rw[iX,sV,s];constructor
  ·rintro⟨w,o⟩;refine⟨IM d a b n h,o,λe m f l c⟨q,p⟩=>?_⟩;have j:Ho (a,b) c:=(v6 d a b h).mpr ⟨e,m,q⟩;obtain⟨g,k,i⟩:=r.ho.mpr ⟨f,l,p⟩;exact w g k c ⟨j,i⟩
  ·rintro⟨_,o,v⟩;refine⟨λf l c⟨q,p⟩=>?_,o⟩;obtain⟨e,m,j⟩:=(v6 d a b h).mp q;obtain⟨g,k,i⟩:=r.ho.mp ⟨f,l,p⟩;exact v e m g k c ⟨j,i⟩
def zq:∀{a:List (Q×Q)},fY a->∀{e f:Q×Q},e∈a->f∈a->Ho e c->Ho f c->e=f
 |[],_,e,f,b,_,_,_=>by grind
 |x::a,d,e,f,b,g,i,h=>by
  unfold fY at d;rw[iX] at d;rcases cO.mp b with q|q<;>rcases cO.mp g with r|r;·rw[q,r]
  ·exact(d.1 f r c<|by grind).elim
  ·exact(d.1 e q c<|by grind).elim
  ·exact zq d.2 q r i h
def fY.nw(h:fY b)(p:b.Perm a):fY a:=(p.pairwise_iff λh=>h.symm).mp h
def rM(p:c.Perm b)(z:Q):ay z c=ay z b:=by
 induction p with
 |nil=>rfl
 |cons x _ a=>show(_^^_)=(_^^_);rw[a]
 |swap x y l=>
  show(cr z y^^(cr z x^^ay z l))=(cr z x^^(cr z y^^ay z l))
  grind
 |trans _ _ e d=>grind
open Sy(edges bare rolled Ring)
def mZ:∀(l m:List c)(a:c),sg a (l++m)=sg a l++sg (fin a l) m
 |[],m,a=>rfl
 |b::l,m,a=>by
  show(a,b)::sg b (l++m)=(a,b)::(sg b l++sg (fin b l) m)
  rw[mZ l m b]
def kD:∀(l m:List c)(a:c),fin a (l++m)=fin (fin a l) m
 |[],m,a=>rfl
 |b::l,m,a=>kD l m b
def y8(f:c->d):∀(l:List c)(a:c),(sg a l).map (λe=>(f e.1,f e.2))=sg (f a) (l.map f)
 |[],a=>rfl
 |b::l,a=>by show(f a,f b)::(sg b l).map _=(f a,f b)::sg (f b) (l.map f);rw[y8 f l b]
def qC(f:c->d):∀(l:List c)(a:c),f (fin a l)=fin (f a) (l.map f)
 |[],a=>rfl
 |b::l,a=>qC f l b
def Ke:∀(l:List c)(a x:c),(a::l).zip (l++[x])=sg a (l++[x])
 |[],a,x=>rfl
 |b::l,a,x=>by show(a,b)::(b::l).zip (l++[x])=(a,b)::sg b (l++[x]);rw[Ke l b x]
def jh(a:Pt)(l:List Pt):aj (a::l)=sg a (l++[a]):=by unfold aj;exact Ke l a a
def Lg:∀(l:List c)(a x:c),(sg a (l++[x])).map (·.1)=a::l
 |[],a,x=>rfl
 |b::l,a,x=>by show a::(sg b<|l++[x]).map (·.1)=_;rw[Lg l b x]
def kE(r:aC):(aj r).map (·.1)=r:=by
 cases r with
 |nil=>rfl
 |cons a l=>rw[jh,Lg]
def fS(r:aC):(aj r).length=r.length:=by have:=c9 u6<|kE r;grind
def vo(l m:List Pt):(aj<|l++m).Perm (aj<|m++l):=by
 cases l with
 |nil=>grind
 |cons a l=>
  cases m with
  |nil=>grind
  |cons b m=>
   rw[tf,tf,jh,jh];have e1:l++b::m++[a]=(l++[b])++(m++[a]):=by simp
   have c:m++a::l++[b]=(m++[a])++(l++[b]):=by simp
   rw[e1,c,mZ<|l++[b],mZ<|m++[a]];have e:fin a (l++[b])=b:=by rw[kD];rfl
   have d:fin b (m++[a])=a:=by rw[kD];rfl
   grind
def Fv(r:aC)(i:Nat):(aj<|de r i).Perm (aj r):=by unfold de;have:=vo (r.drop i)<|r.take i;simp_all
def bp:Pt->List Pt->Pt->List Pt
 |_,[],_=>[]
 |x,v::l,n=>if bc x v (l.headD n)=0 then bp v l n else v::bp v l n
def BC:∀(l m:List Pt)(x n:Pt),bp x (l++m) n=bp x l (m.headD n)++bp (fin x l) m n
 |[],m,x,n=>rfl
 |v::l,m,x,n=>by
  have e:(l++m).headD n=l.headD (m.headD n):=by grind
  show(if bc x v ((l++m).headD n)=0 then bp v (l++m) n else v::bp v (l++m) n)=(if bc x v (l.headD<|m.headD n)=0 then bp v l (m.headD n) else v::bp v l (m.headD n))++bp (fin v l) m n;rw[BC l m v n,e];grind
def GC(r:aC):∀(m k:Nat),k+m=r.length->0<k->
 (AL k m).filterMap (λ(i:Nat)=>if bc (r.getD ((i+r.length-1)%r.length) (0,0)) (r.getD i (0,0)) (r.getD ((i+1)%r.length) (0,0))=0 then none else some (r.getD i (0,0)))
  =bp (r.getD (k-1) (0,0)) (r.drop k) (r.headD (0,0))
 |0,k,h,_=>by rw[sT<|by omega];rfl
 |m+1,k,h,g=>by
  have b:k<r.length:=by omega
  rw[Nl,Ex,w6 b];have d:=GC r m (k+1) (by omega)<|by omega
  have c:r.getD k (0,0)=r[k]:=by grind
  have f:(k+r.length-1)%r.length=k-1:=by
   have:k+r.length-1=(k-1)+r.length:=by omega
   rw[this,Ni,th<|by omega]
  have e:r.getD ((k+1)%r.length) (0,0)=(r.drop (k+1)).headD (r.headD (0,0)):=by
   by_cases q:k+1<r.length
   ·rw[th q,w6 q,iV,d9 q];rfl
   ·have:k+1=r.length:=by omega
    rw[this,NM,sT<|by omega];cases r with
    |nil=>rfl
    |cons a l=>rfl
  rw[f,e,c];rw[show k+1-1=k by omega,c] at d;show _=(if bc (r.getD (k-1) (0,0)) r[k] ((r.drop<|k+1).headD<|r.headD (0,0))=0 then bp r[k] (r.drop<|k+1) (r.headD (0,0)) else r[k]::bp r[k] (r.drop<|k+1) (r.headD (0,0)))
  grind
def tX(a:Pt)(l:List Pt):bare (a::l)=bp (fin a l) (a::l) a:=by
 have d:∀(l:List Pt)(a:Pt),(a::l).getD l.length (0,0)=fin a l:=by
  intro l;induction l with
  |nil=>intro a;rfl
  |cons b l c=>intro a;exact c b
 unfold bare;rw[aaY,dI,Nl,Ex];have c:=GC (a::l) l.length 1 (by grind)<|by omega
 rw[show(1-1:Nat)=0 from rfl,dI] at c;have g:(0+(l.length+1)-1)%(l.length+1)=l.length:=by simp
 have f:(a::l).getD ((0+1)%(l.length+1)) (0,0)=l.headD a:=by
  cases l with
  |nil=>rfl
  |cons b l=>rfl
 rw[g,f,d];have h:(a::l).getD 0 (0,0)=a:=rfl;rw[h] at c ⊢;have e:(a::l).headD (0,0)=a:=rfl;rw[e] at c;show _=(if bc (fin a l) a (l.headD a)=0 then bp a l a else a::bp a l a)
 grind
def uI(a m b:Pt):Prop:=Bt (io a) (io m)<|io b
def NB:Pt->List Pt->Pt->Prop
 |x,[],n=>x≠n
 |x,v::l,n=>x≠v/\(bc x v (l.headD n)=0->uI x v (l.headD n))/\NB v l n
def VT(n:x≠v)(h:Bt x v c)(k:c=y\/Bt v c y):Bt x v y:=by
 rcases k with rfl|k;·exact h
 ·obtain⟨t,i,l,g⟩:=h;obtain⟨s,j,m,d⟩:=k;have o:=pp i j;have f:0<(1-t)+t*s:=by grind
  have e:=jZ (a:=t*s)<|show(1-t)+t*s≠0 by grind
  refine⟨t*s/((1-t)+t*s),fk f (by grind),?_,?_⟩
  ·have:=fk f (b:=1-t*s/((1-t)+t*s))<|by grind
   grind
  ·generalize t*s/((1-t)+t*s)=k at *;have u:v.1=x.1+t*(c.1-x.1):=c9 l4 g;have r:v.2=x.2+t*(c.2-x.2):=c9 kA g;have q:c.1=v.1+s*(y.1-v.1):=c9 l4 d;have p:c.2=v.2+s*(y.2-v.2):=c9 kA d;refine f7 ?_ ?_
   ·refine wH (show(1-t)+t*s≠0 by grind) ?_;show((1-t)+t*s)*v.1=((1-t)+t*s)*(x.1+k*(y.1-x.1));grind
   ·refine wH (show(1-t)+t*s≠0 by grind) ?_;show((1-t)+t*s)*v.2=((1-t)+t*s)*(x.2+k*(y.2-x.2));grind
def ii(h:a≠b):io a≠io b:=λq=>h<|li q
def KA:∀(l:List Pt)(x n:Pt),NB x l n->∃(y:Pt)(a:List Q)(f d:List (Q×Q)),
 (sg x<|bp x l n++[n]).map ie=(io x,io y)::f/\(sg x<|l++[n]).map ie=sg (io x) (a++[io y])++d/\x≠y/\ri (io x) a (io y)/\jt f d
 |[],x,n,h=>⟨n,[],[],[],rfl,rfl,h,trivial,.nil⟩
 |v::l,x,n,h=>by
  obtain⟨k,D,C⟩:=h;obtain⟨y,a,f,d,e1,g,w,j,p⟩:=KA l v n C;by_cases q:bc x v (l.headD n)=0
  ·have A:Bt (io x) (io v) (io (l.headD n)):=D q;have u:io (l.headD n)=io y\/Bt (io v) (io (l.headD n)) (io y):=by
    have r:(sg v (l++[n])).map ie=(io v,io (l.headD n))::((sg v (l++[n])).map ie).tail:=by cases l<;>rfl
    cases a with
    |nil=>rw[r] at g;have:(io v,io (l.headD n))=(io v,io y):=(n0 g).1;grind
    |cons m a=>rw[r] at g;have:(io v,io (l.headD n))=(io v,m):=(n0 g).1;have E:io (l.headD n)=m:=c9 kA this;rw[E];exact .inr j.1
   have c:=VT (ii k) A u;refine⟨y,io v::a,f,d,?_,?_,?_,⟨c,j⟩,p⟩
   ·have o:bp x (v::l) n=bp v l n:=aM q;rw[o];cases s:bp v l n++[n] with
    |nil=>simp at s
    |cons b B=>rw[s] at e1;have i:(io v,io b)::(sg b B).map ie=(io v,io y)::f:=e1;have I:=(n0 i).1;have H:=(n0 i).2;show(io x,io b)::(sg b B).map ie=(io x,io y)::f;grind
   ·show(io x,io v)::(sg v<|l++[n]).map ie=(io x,io v)::(sg (io v) (a++[io y])++d)
    rw[g]
   ·intro z;rw[<-z] at c;obtain⟨t,G,F,e⟩:=c;exact k<|li<|by rw[e];refine f7 ?_ ?_<;>(unfold At;grind)
  ·have o:bp x (v::l) n=v::bp v l n:=aL q;refine⟨v,[],(io v,io y)::f,sg (io v) (a++[io y])++d,?_,?_,k,trivial,.cons (ii w) j p⟩
   ·rw[o];show(io x,io v)::(sg v<|bp v l n++[n]).map ie=_;rw[e1]
   ·show(io x,io v)::(sg v<|l++[n]).map ie=(io x,io v)::(sg (io v) (a++[io y])++d)
    rw[g]
def Ux(h:NB x l n):jt ((sg x<|bp x l n++[n]).map ie) ((sg x<|l++[n]).map ie):=by obtain⟨y,e,g,f,e1,d,b,c,a⟩:=KA l x n h;rw[e1,d];exact .cons (ii b) c a
open Sy(tidy firstAt before)
def j8:aY a b=true↔a.1<b.1\/(a.1=b.1/\a.2<b.2):=by unfold aY;grind
def tW:∀(r:List Pt),r≠[]->∃m∈r,∀q∈r,aY q m=false
 |[],h=>(h rfl).elim
 |[a],_=>⟨a,cc,λq d=>by
  have:q=a:=by grind
  subst this;cases h:aY q q with
  |false=>rfl
  |true=>rw[j8] at h;omega⟩
 |a::b::l,_=>by
  obtain⟨m,e,h⟩:=tW (b::l)<|by simp
  cases q:aY a m with
  |true=>
   refine⟨a,cc,λx c=>?_⟩;cases k:aY x a with
   |false=>rfl
   |true=>
    exfalso;rw[j8] at q k;rcases cO.mp c with z|z;·grind
    ·have:=h x z;rw[mK] at this;exact this<|j8.mpr<|by omega
  |false=>grind
def Fm(d:aY a b=false)(c:aY b a=false):a=b:=by rw[mK] at d c;have f:¬(a.1<b.1\/(a.1=b.1/\a.2<b.2)):=λq=>d<|j8.mpr q;have e:¬(b.1<a.1\/(b.1=a.1/\b.2<a.2)):=λq=>c<|j8.mpr q;grind
def Bi{X:List Pt}(d:∀q∈X++m::Y,aY q m=false)(h:m∉X):eJ (X++m::Y)=X.length:=by
 unfold eJ;have b:(X++m::Y).length=X.length+(Y.length+1):=by simp
 have c:(j4 (X++m::Y).length).find? (λ(i:Nat)=>(X++m::Y).all λ(q:Pt)=>!aY q ((X++m::Y).getD i (0,0)))=some X.length:=by
  rw[List.find?_range_eq_some];refine⟨?_,?_,?_⟩;·grind
  ·grind
  ·intro j e;have g:(X++m::Y).getD j (0,0)=X[j]:=by grind
   rw[g];have a:X[j]≠m:=by grind
   have f:aY m X[j]=true:=by
    cases q:aY m X[j] with
    |true=>rfl
    |false=>exact(a<|Fm (by grind) q).elim
   grind
 grind
def vn(a:∀q∈X++m::Y,aY q m=false)(b:m∉X):de (X++m::Y) (eJ (X++m::Y))=m::Y++X:=by rw[Bi a b];unfold de;grind
def RB(c:(B++C).Nodup):de (B++C) (eJ<|B++C)=de (C++B) (eJ<|C++B):=by
 by_cases e:B++C=[]
 ·simp_all
 ·obtain⟨m,d,h⟩:=tW _ e;have a:(C++B).Nodup:=by grind
  rcases eI.mp d with q|q
  ·obtain⟨X,Y,rfl⟩:=sX q;have e1:X++m::Y++C=X++m::(Y++C):=by simp
   have b:C++(X++m::Y)=(C++X)++m::Y:=by simp
   rw[e1] at c h ⊢;rw[b] at a ⊢;rw[vn h (by grind),vn (by grind)<|by grind];simp
  ·obtain⟨X,Y,rfl⟩:=sX q;have e1:B++(X++m::Y)=(B++X)++m::Y:=by simp
   have b:X++m::Y++B=X++m::(Y++B):=by simp
   rw[e1] at c h ⊢;rw[b] at a ⊢;rw[vn h (by grind),vn (by grind)<|by grind];simp
def Fn(a b:c)(l m:List c):fin a (l++b::m)=fin b m:=by rw[kD];rfl
def Hb(l m:List Pt):∃B C,bare (l++m)=B++C/\bare (m++l)=C++B:=by
 cases l with
 |nil=>exact⟨[],bare m,by simp,by simp⟩
 |cons a l=>
  cases m with
  |nil=>exact⟨bare<|a::l,[],by simp,by simp⟩
  |cons b m=>
   refine⟨bp (fin b m) (a::l) b,bp (fin a l) (b::m) a,?_,?_⟩
   ·rw[tf,tX,Fn,<-tf,BC];rfl
   ·rw[tf,tX,Fn,<-tf,BC];rfl
def GR(a:(bare<|l++m).Nodup):tidy (l++m)=tidy (m++l):=by obtain⟨B,C,e1,b⟩:=Hb l m;unfold tidy;dsimp only;rw[e1,b];rw[e1] at a;exact RB a
def Dg:∀(l:List Pt)(x n:Pt),(bp x l n).Sublist l
 |[],_,_=>aaq
 |v::l,x,n=>by
  show(if bc x v (l.headD n)=0 then bp v l n else v::bp v l n).Sublist (v::l);split;·exact(Dg l v n).cons v
  ·exact(Dg l v n).cons_cons v
def yx(r:aC):(bare r).Sublist r:=by
 cases r with
 |nil=>exact aaq
 |cons a l=>rw[tX];exact Dg _ _ _
structure sE(E:List (Pt×Pt)):Prop where
 ne:∀a b,(a,b)∈E->a≠b
 nb:∀a b c,(a,b)∈E->(b,c)∈E->bc a b c=0->uI a b c
def Lm(h:sE E):∀(l:List Pt)(x n:Pt),(∀e∈sg x (l++[n]),e∈E)->NB x l n
 |[],x,n,k=>h.ne x n<|k _ cc
 |v::l,x,n,k=>by
  have a:∀e∈sg v (l++[n]),e∈E:=λe b=>k e<|e8 _ b;refine⟨h.ne x v<|k _ cc,?_,Lm h l v n a⟩;refine h.nb x v _ (k _ cc)<|a _ ?_;cases l with
  |nil=>exact cc
  |cons w l=>exact cc
def Of(h:uI a m c)(n:a≠m)(g:aY a m=false)(f:aY c m=false):False:=by
 rw[mK] at g f;have D:¬(a.1<m.1\/(a.1=m.1/\a.2<m.2)):=λq=>g<|j8.mpr q;have C:¬(c.1<m.1\/(c.1=m.1/\c.2<m.2)):=λq=>f<|j8.mpr q;obtain⟨t,d,s,e⟩:=h;have e1:(m.1:Rat)=(a.1:Rat)+t*((c.1:Rat)-(a.1:Rat)):=c9 l4 e;have E:(m.2:Rat)=(a.2:Rat)+t*((c.2:Rat)-(a.2:Rat)):=c9 kA e;have B:(m.1:Rat)<=(a.1:Rat):=fD.mpr<|by omega
 have A:(m.1:Rat)<=(c.1:Rat):=fD.mpr<|by omega
 have x:=nn (show 0<=1-t by grind)<|show 0<=(a.1:Rat)-(m.1:Rat) by grind
 have w:=nn (kY d)<|show 0<=(c.1:Rat)-(m.1:Rat) by grind
 have r:(1-t)*((a.1:Rat)-(m.1:Rat))=0:=by grind
 have p:t*((c.1:Rat)-(m.1:Rat))=0:=by grind
 have l:(a.1:Rat)=(m.1:Rat):=by grind
 have j:(c.1:Rat)=(m.1:Rat):=by grind
 have b:a.1=m.1:=uZ.mp l;have i:c.1=m.1:=uZ.mp j;have z:(m.2:Rat)<=(a.2:Rat):=fD.mpr<|by omega
 have y:(m.2:Rat)<=(c.2:Rat):=fD.mpr<|by omega
 have v:=nn (show 0<=1-t by grind)<|show 0<=(a.2:Rat)-(m.2:Rat) by grind
 have u:=nn (kY d)<|show 0<=(c.2:Rat)-(m.2:Rat) by grind
 have o:(1-t)*((a.2:Rat)-(m.2:Rat))=0:=by grind
 have k:(a.2:Rat)=(m.2:Rat):=by grind
 exact n<|f7 b<|uZ.mp k
def BD:∀(l:List c)(a n:c),(fin a l,n)∈sg a (l++[n])
 |[],a,n=>cc
 |b::l,a,n=>e8 _<|BD l b n
def vM:∀(l:List c)(a:c),fin a l∈a::l
 |[],a=>cc
 |b::l,a=>e8 _<|vM l b
def yc(l:List b)(a n:b):(a,l.headD n)∈sg a (l++[n]):=by cases l<;>exact cc
def kG(a:m∈r):∃L X Y,r=X++m::Y/\L=Y++X/\(aj (m::L)).Perm (aj r):=by obtain⟨X,Y,rfl⟩:=sX a;exact⟨Y++X,X,Y,rfl,rfl,by have:=vo (m::Y) X;grind⟩
def Bs(h:sE (aj r))(n:r≠[]):
 bare r≠[]/\∃j i,jt j i/\j.Perm ((aj (tidy r)).map ie)/\i.Perm ((aj r).map ie):=by
 obtain⟨m,t,lo⟩:=tW r n;obtain⟨L,X,Y,rfl,rfl,d⟩:=kG t;rw[jh] at d;have a:∀e∈sg m (Y++X++[m]),e∈aj (X++m::Y):=λe u=>d.mem_iff.mp u;have o:=Lm h (Y++X) m m a;have f:bc (fin m (Y++X)) m ((Y++X).headD m)≠0:=λz=>by
  have g:=a _<|BD (Y++X) m m;have s:=a _<|yc (Y++X) m m;have b:=h.nb _ _ _ g s z;have q:fin m (Y++X)∈X++m::Y:=by have:=vM (Y++X) m;grind
  have p:(Y++X).headD m∈X++m::Y:=by
   cases A:Y++X with
   |nil=>grind
   |cons w l=>
    show w∈_;have:w∈Y++X:=by grind
    grind
  exact Of b (h.ne _ _ g) (lo _ q)<|lo _ p
 have v:bare (m::(Y++X))=m::bp m (Y++X) m:=by rw[tX];show(if bc (fin m<|Y++X) m ((Y++X).headD m)=0 then _ else _)=_;grind
 obtain⟨B,C,e1,x⟩:=Hb X<|m::Y;have c:bare (m::(Y++X))=C++B:=x;refine⟨?_,_,_,Ux o,?_,?_⟩
 ·intro z;simp_all
 ·refine List.Perm.map ie ?_;have y:(aj (tidy (X++m::Y))).Perm (aj (bare (X++m::Y))):=Fv _ _;have k:(aj (bare (X++m::Y))).Perm (aj (bare (m::(Y++X)))):=by rw[e1,c];exact vo B C
  rw[v,jh] at k;grind
 grind
open Sy(onStretch meet simple ringOk fine along onRing)
structure bZ(r:aC):Prop where
 aX:2<=r.length
 bJ:fY ((aj r).map ie)
def ow(n:a≠b)(h:tn a b c=0):∃s,c=At a b s:=by
 by_cases x:b.1-a.1=0
 ·have y:b.2-a.2≠0:=by grind
  have e:=jZ (a:=c.2-a.2) y;refine⟨(c.2-a.2)/(b.2-a.2),f7 ?_ ?_⟩
  ·show c.1=a.1+(c.2-a.2)/(b.2-a.2)*(b.1-a.1);unfold tn at h;grind
  ·show c.2=a.2+(c.2-a.2)/(b.2-a.2)*(b.2-a.2);grind
 ·have e:=jZ (a:=c.1-a.1) x;refine⟨(c.1-a.1)/(b.1-a.1),f7 ?_ ?_⟩
  ·show c.1=a.1+(c.1-a.1)/(b.1-a.1)*(b.1-a.1);grind
  ·show c.2=a.2+(c.1-a.1)/(b.1-a.1)*(b.2-a.2);unfold tn at h;grind
def Do(g:¬On x v w)(j:¬On v w x):Dj (x,v) (v,w):=by
 intro c ⟨h,l⟩;have i:x≠v:=λq=>j<|by rw[q];exact⟨0,by grind,by grind,by grind,by grind⟩
 have u:v≠w:=λq=>g<|by rw[<-q];exact⟨1,by grind,by grind,by grind,by grind⟩
 by_cases t:tn x v w=0
 ·obtain⟨s,f⟩:=ow i t;by_cases r:s<0
  ·have e:=jZ (a:=1)<|show 1-s≠0 by grind
   have d:0<1-s:=by grind
   refine j ⟨1/(1-s),iD d (by grind),?_,?_,?_⟩
   ·have:=iD d (b:=1-1/(1-s))<|by grind
    grind
   ·have:w.1=x.1+s*(v.1-x.1):=c9 l4 f;grind
   ·have:w.2=x.2+s*(v.2-x.2):=c9 kA f;grind
  ·by_cases m:s<=1;·exact g<|by rw[f];exact nv _ _ (by grind) m
   ·have p:Bt x v w:=by
     have e:=jZ (a:=1)<|show s≠0 by grind
     have d:0<s:=by grind
     refine⟨1/s,fk d (by grind),?_,?_⟩
     ·have:=fk d (b:=1-1/s)<|by grind
      grind
     ·generalize 1/s=k at *;have B:w.1=x.1+s*(v.1-x.1):=c9 l4 f;have A:w.2=x.2+s*(v.2-x.2):=c9 kA f;refine f7 ?_ ?_;·show v.1=x.1+k*(w.1-x.1);grind
      ·show v.2=x.2+k*(w.2-x.2);grind
    have n:x≠w:=λq=>g<|by rw[<-q];exact⟨0,by grind,by grind,by grind,by grind⟩
    exact Fw n p h l
 ·have o:=Ya t h.on l.on;obtain⟨k,z,y,e⟩:=h;rw[o] at e;have:(1:Rat)=k:=kd i<|by rw[iH];exact e
  grind
def XT(h:Dj (x,v) (v,w))(f:x≠v)(m:v≠w)(t:tn x v w=0):Bt x v w:=by
 obtain⟨s,c⟩:=ow f t;have u:w.1=x.1+s*(v.1-x.1):=c9 l4 c;have r:w.2=x.2+s*(v.2-x.2):=c9 kA c;by_cases l:1<s
 ·have e:=jZ (a:=1)<|show s≠0 by grind
  have d:0<s:=by grind
  refine⟨1/s,fk d (by grind),?_,?_⟩
  ·have:=fk d (b:=1-1/s)<|by grind
   grind
  ·generalize 1/s=k at *;refine f7 ?_ ?_;·show v.1=x.1+k*(w.1-x.1);grind
   ·show v.2=x.2+k*(w.2-x.2);grind
 ·exfalso;have i:s≠1:=by grind
  have d:0<1-s:=by grind
  have g:∃k:Rat,0<k/\k<=1/\k<1-s:=by
   by_cases q:1<1-s;·grind
   ·exact⟨(1-s)/2,by grind,by grind,by grind⟩
  obtain⟨k,p,o,n⟩:=g;have e:=jZ (a:=k)<|show 1-s≠0 by grind
  refine h (At x v<|1-k) ⟨⟨1-k,by grind,by grind,rfl⟩,⟨k/(1-s),iD d (by grind),?_,?_⟩⟩
  ·have:=fk d (b:=1-k/(1-s))<|by grind
   grind
  ·generalize k/(1-s)=j at *;refine f7 ?_ ?_;·show x.1+(1-k)*(v.1-x.1)=v.1+j*(w.1-v.1);grind
   ·show x.2+(1-k)*(v.2-x.2)=v.2+j*(w.2-v.2);grind
def qD(r:aC)(i:Nat)(h:i<(aj r).length)(b:i<r.length):(aj r)[i]=(r[i],r.getD ((i+1)%r.length) (0,0)):=by
 have c:i<(r.zip (r.drop 1++r.take 1)).length:=h;show(r.zip<|r.drop 1++r.take 1)[i]'c=_;rw[EM];refine f7 rfl ?_;show(r.drop 1++r.take 1)[i]'_=_;by_cases q:i+1<r.length
 ·rw[aaB (by grind),th q,Nd,iV,d9 q];grind
 ·have:i+1=r.length:=by omega
  rw[aau (by grind),this,NM];cases r with
  |nil=>simp at b
  |cons a l=>simp
def Oc(w:3<=r.length)(h:j5 r=true):fY ((aj r).map ie):=by
 unfold fY;rw[nR,MH];intro j i l k g;have v:=fS r;unfold j5 at h;dsimp only at h;rw[iu] at h;have m:=h i<|nZ.mpr k;rw[iu] at m;have a:=m j<|nZ.mpr g;have p:(aj r).getD j ((0,0),(0,0))=(aj r)[j]:=by rw[iV,d9 l];rfl
 have s:(aj r).getD i ((0,0),(0,0))=(aj r)[i]:=by rw[iV,d9 k];rfl
 rw[p,s] at a;have n:=qD r j l<|by omega
 have o:=qD r i k<|by omega
 by_cases q:i=j+1
 ·rw[aM q,dc,h_,h_] at a;have e:(aj r)[j].2=(aj r)[i].1:=by rw[n,o];show r.getD ((j+1)%r.length) (0,0)=r[i];rw[th (by omega),iV,d9<|by omega];subst q;rfl
  have f:¬On (io (aj r)[j].1) (io (aj r)[j].2) (io (aj r)[i].2):=λz=>by rw[eY.mpr z] at a;cases a.1
  have d:¬On (io (aj r)[i].1) (io (aj r)[i].2) (io (aj r)[j].1):=λz=>by rw[eY.mpr z] at a;cases a.2
  rw[<-e] at d;have:=Do f d;show Dj (io (aj r)[j].1,io (aj r)[j].2) (io (aj r)[i].1,io (aj r)[i].2);rw[<-e];exact this
 ·rw[aL q] at a;by_cases b:j=0/\i+1=(aj r).length
  ·rw[aM b,dc,h_,h_] at a;have e:(aj r)[i].2=(aj r)[j].1:=by rw[n,o];show r.getD ((i+1)%r.length) (0,0)=r[j];rw[show i+1=r.length by omega,NM,iV,d9<|by omega];obtain⟨b,_⟩:=b;subst b;rfl
   have f:¬On (io (aj r)[j].1) (io (aj r)[j].2) (io (aj r)[i].1):=λz=>by rw[eY.mpr z] at a;cases a.1
   have d:¬On (io (aj r)[i].1) (io (aj r)[i].2) (io (aj r)[j].2):=λz=>by rw[eY.mpr z] at a;cases a.2
   rw[<-e] at f;have:=Do d f;refine Dj.symm ?_;show Dj (io (aj r)[i].1,io (aj r)[i].2) (io (aj r)[j].1,io (aj r)[j].2);rw[<-e];exact this
  ·rw[aL b,h_] at a;intro c ⟨u,t⟩;exact Cf a u.on t.on
def FG(h:dz r=true):bZ r:=by unfold dz at h;simp only[dc,eg] at h;exact⟨by omega,Oc h.1 h.2.2.2.1⟩
def xM(h:e∈aj r):ie e∈(aj r).map ie:=by grind
def Xl(h:ie e=ie f):e=f:=f7 (li<|c9 l4 h)<|li<|c9 kA h
def bZ.uK(g:bZ r)(b:e∈aj r)(a:f∈aj r)(h:Ho (ie e) c)(d:Ho (ie f) c):e=f:=Xl (zq g.bJ (xM b) (xM a) h d)
def bZ.nodup(g:bZ r):r.Nodup:=by
 have d:=g.bJ;unfold fY at d;rw[nR] at d;have:((aj r).map (·.1)).Nodup:=by unfold NT;rw[nR];refine d.imp λ{a b}h q=>h (io a.1) ⟨fL<|ie a,by rw[q];exact fL<|ie b⟩
 rwa [kE] at this
def rL(h:e∈aj r):∃f∈aj r,f.1=e.2:=by
 have a:e.2∈r:=by unfold aj at h;have:=(rq h).2;grind
 have:e.2∈(aj r).map (·.1):=by rw[kE];exact a
 grind
def vk(h:r.Nodup):(aj r).Nodup:=by
 have:((aj r).map (·.1)).Nodup:=by rw[kE];exact h
 unfold NT at this ⊢;rw[nR] at this;exact this.imp λ{a b}k q=>k<|by rw[q]
def bZ.iZ(g:bZ r)(h:e∈aj r):e.1≠e.2:=λq=>by
 obtain⟨f,i,m⟩:=rL h;have:=g.uK h i (c:=io e.1) (fL<|ie e)<|by rw[q,<-m];exact fL<|ie f
 subst this;have n:=g.nodup;obtain⟨L,X,Y,rfl,rfl,b⟩:=kG (show e.1∈r by have:e.1∈(aj r).map (·.1):=(by grind);rwa [kE] at this);rw[jh] at b;have j:=b.mem_iff.mp<|yc (Y++X) e.1 e.1;have k:=g.uK h j (c:=io e.1) (fL<|ie e)<|fL<|ie (e.1,_);have d:e.2=(Y++X).headD e.1:=c9 kA k;cases a:Y++X with
 |nil=>have l:=g.aX;have:X=[]:=(aaM.mp a).2;have:Y=[]:=(aaM.mp a).1;subst_vars;simp at l
 |cons w l=>
  rw[a] at d;have o:e.2=w:=d;have hw:w∈Y++X:=by grind
  grind
def bZ.pV{r:aC}(g:bZ r):sE (aj r) where
 ne:=λa b h=>g.iZ h
 nb:=λa b c e d t=>by
  have k:=g.iZ e;have j:=g.iZ d;refine XT (λx⟨i,f⟩=>?_) (ii k) (ii j)<|by rw[mi,t];rfl
  have:=g.uK e d (c:=x) i f;grind
def iq(a b p:Pt):Int:=(p.1-a.1)*(b.1-a.1)+(p.2-a.2)*(b.2-a.2)
def ei(ps:List Pt)(e:Pt×Pt):List Pt:=(ps.eraseDups.filter λ(p:Pt)=>bN e.1 e.2 p&&(p != e.1&&p != e.2)).mergeSort λ(p q:Pt)=>k5 e.1 e.2 p q
def vN(r:aC)(ps:List Pt):fine r ps=(aj r).flatMap λe=>e.1::ei ps e:=rfl
def AZ{b:Type}[BEq b][LawfulBEq b]:∀(n:Nat)(l:List b),l.length<=n->l.eraseDups.Nodup
 |0,l,h=>by grind
 |n+1,[],h=>Nw
 |n+1,a::l,h=>by rw[Ey,kW];refine⟨λm=>?_,AZ n _<|by grind⟩;simp_all
def xK{c:Type}[BEq c][LawfulBEq c]:∀{l:List c},l.Nodup->l.eraseDups=l
 |[],_=>rfl
 |a::l,h=>by
  obtain⟨f,d⟩:=kW.mp h;rw[Ey];have:l.filter (λb=>!b==a)=l:=jz.mpr λb e=>by grind
  rw[this,xK d]
def yI:p∈ei a e↔p∈a/\bN e.1 e.2 p=true/\p≠e.1/\p≠e.2:=by unfold ei;simp
def Hk(ps:List Pt)(e:Pt×Pt):(ei ps e).Nodup:=by unfold ei;exact(Aq _ _).nodup_iff.mpr<|(AZ _ ps<|cs _).filter _
def xU(ps:List Pt)(e:Pt×Pt):(ei ps e).Pairwise λp q=>iq e.1 e.2 p<=iq e.1 e.2 q:=by
 have:=ML (le:=λ(p q:Pt)=>k5 e.1 e.2 p q) (λa b c i g=>by
  have f:=fB i;have d:=fB g;exact kC<|acH f d)
  (λa b=>by
   rcases Int.le_total (iq e.1 e.2 a) (iq e.1 e.2 b) with h|h;·rw[oX];exact .inl<|kC h
   ·rw[oX];exact .inr<|kC h) (ps.eraseDups.filter λ(p:Pt)=>bN e.1 e.2 p&&(p != e.1&&p != e.2))
 exact this.imp λ{a b}h=>fB h
def qt(h:bN a b p=true)(d:p≠a)(c:p≠b):∃t:Rat,0<t/\t<1/\io p=At (io a) (io b) t:=by
 obtain⟨t,i,g,e1,f⟩:=eY.mp h;have e:io p=At (io a) (io b) t:=f7 e1 f;refine⟨t,?_,?_,e⟩
 ·by_cases q:t=0
  ·rw[q,ic] at e;exact cy (li e) d
  ·grind
 ·by_cases q:t=1
  ·rw[q,iH] at e;exact cy (li e) c
  ·grind
def sq(a b:Q):Rat:=(b.1-a.1)*(b.1-a.1)+(b.2-a.2)*(b.2-a.2)
def Dk(n:a≠b):0<sq a b:=by
 have d:∀x:Rat,x≠0->0<x*x:=λx f=>by
  rcases(by grind:x<0\/0<x) with h|h;·exact mm h h
  ·exact pp h h
 have c:∀x:Rat,0<=x*x:=λx=>by
  by_cases h:x=0;·simp_all
  ·have:=d x h;grind
 unfold sq;by_cases h:b.1-a.1=0
 ·have e:b.2-a.2≠0:=by grind
  have:=d _ e;have:=c<|b.1-a.1;grind
 ·have:=d _ h;have:=c<|b.2-a.2;grind
def zt(e:io p=At (io a) (io b) t):((iq a b p:Int):Rat)=t*sq (io a) (io b):=by have e1:(p.1:Rat)=(a.1:Rat)+t*((b.1:Rat)-(a.1:Rat)):=c9 l4 e;have c:(p.2:Rat)=(a.2:Rat)+t*((b.2:Rat)-(a.2:Rat)):=c9 kA e;unfold iq sq io;simp only[Rat.intCast_add,abU,Rat.intCast_sub];rw[e1,c];grind
def W0(f:t<s)(d:s<1):Bt (At a b t) (At a b s) b:=by
 have c:0<1-t:=by grind
 refine⟨(s-t)/(1-t),?_,?_,?_⟩
 ·rw[tz];exact pp (by grind)<|lX.mpr c
 ·have:=pp (show 0<1-s by grind)<|lX.mpr c;grind
 ·have e:(1-t)*(1-t)⁻¹=1:=nQ _<|by grind
  unfold At;grind
def FN(n:a≠b):∀(l:List Pt)(x:Pt)(t:Rat),io x=At (io a) (io b) t->t<1->
 (∀p∈l,∃s:Rat,t<s/\s<1/\io p=At (io a) (io b) s)->l.Pairwise (λp q=>iq a b p<=iq a b q/\p≠q)->ri (io x) (l.map io) (io b)
 |[],x,t,_,_,_,_=>trivial
 |p::l,x,t,y,C,g,hw=>by
  obtain⟨s,r,e,d⟩:=g p cc;obtain⟨m,j⟩:=iX.mp hw;refine⟨?_,FN n l p s d e (λq f=>?_) j⟩
  ·rw[y,d];exact W0 r e
  ·obtain⟨u,B,o,i⟩:=g q<|e8 _ f;obtain⟨w,v⟩:=m q f;refine⟨u,?_,o,i⟩;have e1:=zt d;have A:=zt i;have k:=Dk<|ii n;have c:((iq a b p:Int):Rat)<=((iq a b q:Int):Rat):=fD.mpr w;rw[e1,A] at c;have D:s≠u:=λz=>v<|li<|by grind
   rcases(by grind:s<u\/u<s) with h|h;·exact h
   ·have:=pp (show 0<s-u by grind) k;exfalso;grind
def Ub(n:e.1≠e.2):ri (io e.1) ((ei a e).map io) (io e.2):=by
 refine FN n (ei a e) e.1 0 (ic _ _).symm (by grind) (λp b=>?_) ?_
 ·obtain⟨_,f,d,c⟩:=yI.mp b;exact qt f d c
 ·have:=(xU a e).and<|Hk a e;omega
def IY(M:Pt×Pt->List Pt):∀(l:List Pt)(x:Pt),l≠[]->∃t,(sg x l).flatMap (λe=>e.1::M e)=x::t/\sg x (t++[fin x l])=(sg x l).flatMap λe=>sg e.1 (M e++[e.2])
 |[],x,h=>cy rfl h
 |[y],x,_=>⟨M (x,y),by simp[sg],by simp[sg,fin]⟩
 |y::z::l,x,_=>by
  obtain⟨t,e1,a⟩:=IY M (z::l) y<|by simp
  refine⟨M (x,y)++y::t,?_,?_⟩
  ·show(x::M (x,y))++(sg y<|z::l).flatMap _=_;grind
  ·show sg x ((M (x,y)++y::t)++[fin y<|z::l])=sg x (M (x,y)++[y])++(sg y<|z::l).flatMap _;rw[<-a,show(M (x,y)++y::t)++[fin y<|z::l]=(M (x,y)++[y])++(t++[fin y<|z::l]) by simp,mZ];congr 2;rw[kD];rfl
def l8(x y:a)(l:List a):fin x (l++[y])=y:=by rw[kD];rfl
def FQ(r:aC)(ps:List Pt):aj (fine r ps)=(aj r).flatMap λe=>sg e.1 (ei ps e++[e.2]):=by
 rw[vN];cases r with
 |nil=>rfl
 |cons a l=>
  rw[jh];obtain⟨t,e1,b⟩:=IY (ei ps) (l++[a]) a<|by simp
  rw[e1,jh,<-b,l8]
def HU(ps:List Pt):∀(a:List (Pt×Pt)),(∀e∈a,e.1≠e.2)->jt (a.map ie) ((a.flatMap λe=>sg e.1<|ei ps e++[e.2]).map ie)
 |[],_=>.nil
 |e::a,h=>by
  have b:=HU ps a<|by grind
  have n:=h e cc;show jt ((io e.1,io e.2)::a.map ie) ((sg e.1 (ei ps e++[e.2])++a.flatMap _).map ie);rw[dw,show(sg e.1<|ei ps e++[e.2]).map ie=sg (io e.1) ((ei ps e).map io++[io e.2]) by have:=y8 io (ei ps e++[e.2]) e.1;rw[dw] at this;exact this]
  exact .cons (ii n) (Ub n) b
def bZ.rO(g:bZ r)(ps:List Pt):jt ((aj r).map ie) ((aj<|fine r ps).map ie):=by rw[FQ];exact HU ps _ λe a=>g.iZ a
def vA(r:aC)(ps:List Pt):r.length<=(fine r ps).length:=by
 rw[vN,xb];have:∀(a:List (Pt×Pt)),a.length<=(a.map λe=>(e.1::ei ps e).length).sum:=λa=>by
  induction a with
  |nil=>simp
  |cons e a b=>grind
 have:=this<|aj r
 rwa [fS] at this
def bZ.fine(g:bZ r)(ps:List Pt):bZ (fine r ps):=⟨dY g.aX<|vA r ps,(g.rO ps).bJ.mp g.bJ⟩
def vh(h:p∈r):p∈aV r a:=by
 rw[vN,EL];have:p∈(aj r).map (·.1):=by rw[kE];exact h
 grind
def j7(h:e∈aj r):e.2∈r:=by
 obtain⟨f,a,q⟩:=rL h;have:f.1∈(aj r).map (·.1):=by grind
 rw[kE,q] at this;omega
def g0(h:e∈aj r):e.1∈r:=by
 have:e.1∈(aj r).map (·.1):=by grind
 rwa [kE] at this
def qp(h:p∈a)(c:b_ r p=true):p∈aV r a:=by
 unfold b_ at c;obtain⟨e,b,q⟩:=lV.mp c;by_cases f:p=e.1;·rw[f];exact vh<|g0 b
 ·by_cases d:p=e.2;·rw[d];exact vh<|j7 b
  ·rw[vN,EL];exact⟨e,b,e8 _<|yI.mpr ⟨h,q,f,d⟩⟩
def vz(h:p∈aV r a):p∈r\/p∈a:=by
 rw[vN,EL] at h;obtain⟨e,b,q⟩:=h;rcases cO.mp q with q|q;·rw[q];exact .inl<|g0 b
 ·exact .inr (yI.mp q).1
def HS(a:List (Q×Q))(c:Q):Prop:=∃e∈a,Ho e c
def HS.append:HS (a++b) c↔HS a c\/HS b c:=by unfold HS;grind
structure jT(a:Q)(l:List Q):Prop where
 bJ:fY (sg a l)
 out:¬HS (sg a l) (fin a l)
 ne:l≠[]
def tL:∀{l:List c}{a:c},f∈sg a l->∃X Y,l=X++f.2::Y/\fin a X=f.1/\sg a l=sg a X++f::sg f.2 Y
 |[],a,h=>by cases h
 |b::l,a,h=>by
  rcases cO.mp h with h|h
  ·subst h;exact⟨[],l,rfl,rfl,rfl⟩
  ·obtain⟨X,Y,e1,d,e⟩:=tL h;exact⟨b::X,Y,by grind,d,by show(a,b)::sg b l=(a,b)::sg b X++_;grind⟩
def JG(h:f∈sg a l):HS (sg a l) f.2\/f.2=fin a l:=by
 obtain⟨X,Y,e1,c,b⟩:=tL h;cases Y with
 |nil=>right;rw[e1,kD];rfl
 |cons y Y=>left;refine⟨(f.2,y),?_,fL (f.2,y)⟩;rw[b];show(f.2,y)∈sg a X++f::(f.2,y)::sg y Y;simp
def mo(h:f∈sg a l)(o:On f.1 f.2 c):HS (sg a l) c\/c=fin a l:=by
 rcases sd (e:=f) o with k|k;·exact .inl ⟨f,h,k⟩
 ·rw[k];exact JG h
def vG(n:l≠[]):∃b c,l=b::c/\HS (sg a l) a:=by
 cases l with
 |nil=>grind
 |cons b c=>exact⟨b,c,rfl,(a,b),cc,fL (a,b)⟩
def JP:∀{l:List Q}{a c:Q},ey a l c->fY (sg a l)->¬HS (sg a l) (fin a l)->HS (sg a l) c/\c≠a
 |[],a,c,h,_,_=>by cases h
 |[b],a,c,h,d,o=>by
  obtain⟨t,p,n,e⟩:=h;refine⟨⟨(a,b),cc,t,by grind,n,e⟩,λz=>?_⟩;have g:a≠b:=λq=>o ⟨(a,b),cc,by show Ho (a,b) b;rw[<-q];exact fL (a,a)⟩;have:=kd g (s:=t) (t:=0)<|by rw[<-e,ic];exact z
  grind
 |b::i::l,a,c,h,d,o=>by
  have m:=iX.mp d;rcases h with⟨t,p,n,e⟩|h
  ·have g:a≠b:=λq=>by refine m.1 (b,i) cc b ⟨?_,fL (b,i)⟩;show Ho (a,b) b;rw[<-q];exact fL (a,a)
   have nz:c≠a:=λz=>by
    have:=kd g (s:=t) (t:=0)<|by rw[<-e,ic];exact z
    grind
   refine⟨?_,nz⟩;by_cases q:t=1
   ·rw[q,iH] at e;exact⟨(b,i),e8 _ cc,by rw[e];exact fL (b,i)⟩
   ·exact⟨(a,b),cc,t,by grind,by grind,e⟩
  ·obtain⟨r,u⟩:=JP (l:=i::l) (a:=b) h m.2 λ⟨f,j,k⟩=>o ⟨f,e8 _ j,k⟩;obtain⟨f,j,k⟩:=r;refine⟨⟨f,e8 _ j,k⟩,λz=>?_⟩;refine m.1 f j a ⟨fL (a,b),by grind⟩
def jT.open(A:jT a l)(h:ey a l c):HS (sg a l) c/\c≠a:=JP h A.bJ A.out
def jT.yz(A:jT a l)(d:e∈sg a l)(h:Ho e a):e.1=a:=by obtain⟨b,c,rfl,_⟩:=vG (a:=a) A.ne;have:=zq A.bJ d (show(a,b)∈sg a (b::c) from cc) h<|fL (a,b);rw[this]
def G4:∀{l:List Q}{a:Q},fY (sg a l)->¬HS (sg a l) (fin a l)->(sg a l).Pairwise oF
 |[],a,_,_=>aar
 |b::l,a,d,o=>by
  have i:=iX.mp d;have j:¬HS (sg b l) (fin b l):=λ⟨f,h,k⟩=>o ⟨f,e8 _ h,k⟩;refine iX.mpr ⟨λf h c r p=>?_,G4 i.2 j⟩;rcases sd (e:=(a,b)) r with k|k
  ·exfalso;rcases mo h p with⟨g,n,m⟩|q;·exact i.1 g n c ⟨k,m⟩
   ·exact o ⟨(a,b),cc,by show Ho (a,b) (fin b l);grind⟩
  grind
def jT.apart(A:jT a l):(sg a l).Pairwise oF:=G4 A.bJ A.out
def R4{p q:Q}{i h g:List Q}(A:jT q i)(B:jT p h)(W:jT p g)(fa:fin q i=p)(fb:fin p h=q)(fw:fin p g=q)
 (u:∀c,HS (sg q i) c->HS (sg p h) c->False)(t:∀c,HS (sg q i) c->HS (sg p g) c->False)(s:∀c,HS (sg p h) c->HS (sg p g) c->c=p):lB p q i h g where
 fa:=fa
 fb:=fb
 fw:=fw
 ap:=by
  rw[sV,sV];refine⟨A.apart,⟨B.apart,W.apart,λe d f b c m l=>?_⟩,λe d f b c m l=>?_⟩
  ·rcases sd (e:=e) m with k|k
   ·rcases mo b l with a|a
    ·have:=s c ⟨e,d,k⟩ a;subst this;exact .inl (B.yz d k).symm
    ·rw[fw] at a;exfalso;rw[a] at k;exact B.out ⟨e,d,by grind⟩
   grind
  ·rcases sd (e:=e) m with k|k
   ·have r:c=q->c=e.1:=λz=>by subst z;exact(A.yz d k).symm
    rcases eI.mp b with b|b
    ·rcases mo b l with a|a;·exact(u c ⟨e,d,k⟩ a).elim
     grind
    ·rcases mo b l with a|a;·exact(t c ⟨e,d,k⟩ a).elim
     grind
   grind
 oA:=λc j=>by
  obtain⟨k,n⟩:=A.open j;refine fE.append.mpr ⟨λf b o=>?_,λf b o=>?_⟩
  ·rcases mo b o with a|a;·grind
   grind
  ·rcases mo b o with a|a;·grind
   grind
 oB:=λc j=>by
  obtain⟨k,n⟩:=B.open j;refine fE.append.mpr ⟨λf b o=>?_,λf b o=>?_⟩
  ·rcases mo b o with a|a;·grind
   grind
  ·rcases mo b o with a|a;·grind
   ·exact B.out<|by grind
 oW:=λc j=>by
  obtain⟨k,n⟩:=W.open j;refine fE.append.mpr ⟨λf b o=>?_,λf b o=>?_⟩
  ·rcases mo b o with a|a;·grind
   grind
  ·rcases mo b o with a|a;·grind
   ·exact W.out<|by grind
def v4:∀(l:List c)(a b:c),(sg b (l.reverse++[a])).Perm ((sg a (l++[b])).map λe=>(e.2,e.1))
 |[],a,b=>by rfl
 |x::l,a,b=>by
  rw[Av,Aw];have e:l.reverse++([x]++[a])=(l.reverse++[x])++[a]:=by simp
  rw[e,mZ,kD];show(sg b (l.reverse++[x])++[(x,a)]).Perm ((x,a)::(sg x<|l++[b]).map _);exact(Et).trans<|(v4 l x b).cons _
def C7(h:Ho (e.2,e.1) c):Ho e c\/c=e.2:=sd h.on.symm
def WJ(h:HS (sg b<|l.reverse++[a]) c):HS (sg a<|l++[b]) c\/c=b:=by
 obtain⟨e,g,k⟩:=h;have:=(v4 l a b).mem_iff.mp g;obtain⟨f,d,rfl⟩:=cY.mp this;rcases mo d (show On f.1 f.2 c from k.on.symm) with q|q;·grind
 ·rw[kD] at q;exact .inr q
def Cs(n:a≠b)(d:Ho (b,a) c):c≠a:=λz=>by
 obtain⟨t,g,f,e⟩:=d;have:=kd (ci n) (s:=t) (t:=1)<|by rw[<-e,iH];exact z
 grind
def y6:∀{l:List Q}{a:Q},fY (sg a l)->¬HS (sg a l) (fin a l)->∀e∈sg a l,e.1≠e.2
 |[],a,_,_,e,c=>by cases c
 |b::l,a,d,o,e,c=>by
  have g:=iX.mp d;have h:¬HS (sg b l) (fin b l):=λ⟨f,i,k⟩=>o ⟨f,e8 _ i,k⟩;rcases cO.mp c with rfl|c
  ·intro q;have q:a=b:=q;subst q;cases l with
   |nil=>exact o ⟨(a,a),cc,fL (a,a)⟩
   |cons x l=>exact g.1 (a,x) cc a ⟨fL (a,a),fL (a,x)⟩
  ·exact y6 g.2 h e c
def jT.D9{l:List Q}{a b:Q}(A:jT a (l++[b])):jT b (l.reverse++[a]) where
 ne:=by simp
 out:=λ⟨e,J,k⟩=>by
  rw[kD] at k;have:=(v4 l a b).mem_iff.mp J;obtain⟨f,h,rfl⟩:=cY.mp this;have t:=y6 A.bJ A.out f h;have C:Ho (f.2,f.1) a:=k;have nz:a≠f.1:=Cs t C;rcases C7 C with q|q;·exact nz (A.yz h q).symm
  ·have i:=JG h;rw[<-q] at i;rcases i with i|i
   ·
    obtain⟨X,Y,e1,w,p⟩:=tL h;have d:=A.bJ;rw[p] at d;cases Y with
    |nil=>
     have:fin a (l++[b])=f.2:=by rw[e1,kD];rfl
     obtain⟨x,E,K,H⟩:=vG (a:=a) A.ne;exact A.out<|by grind
    |cons y Y=>
     have j:(f.2,y)∈sg a (l++[b]):=by rw[p];show(f.2,y)∈sg a X++f::(f.2,y)::sg y Y;simp
     have:=A.yz j<|by rw[<-q];rw[q];exact fL (f.2,y)
     cases X with
     |nil=>exact nz<|show a=f.1 from w
     |cons x X=>have B:=iX.mp<|show((a,x)::(sg x X++f::(f.2,y)::sg y Y)).Pairwise Dj from d;refine B.1 (f.2,y) (by simp) a ⟨fL (a,x),?_⟩;rw[q];exact fL (f.2,y)
   ·obtain⟨x,E,K,H⟩:=vG (a:=a) A.ne;exact A.out<|by grind
 bJ:=by
  refine fY.nw ?_ (v4 l a b).symm;unfold fY;rw[nR];have v:∀{l:List Q}{a:Q},fY (sg a l)->¬HS (sg a l) (fin a l)->(sg a l).Pairwise λe f=>Dj (e.2,e.1) (f.2,f.1):=by
   intro l;induction l with
   |nil=>intro a _ _;exact aar
   |cons y l G=>
    intro a d o;have n:=iX.mp d;have r:¬HS (sg y l) (fin y l):=λ⟨f,h,k⟩=>o ⟨f,e8 _ h,k⟩;have u:a≠y:=y6 d o (a,y) cc;refine iX.mpr ⟨λf h c⟨i,j⟩=>?_,G n.2 r⟩;have m:Ho (y,a) c:=i;have L:c≠a:=Cs u m;have t:=y6 n.2 r f h;have s:c≠f.1:=Cs t j;rcases C7 (e:=(a,y)) m with q|q
    ·rcases mo h j.on.symm with⟨g,I,F⟩|k;·exact n.1 g I c ⟨q,F⟩
     ·exact o ⟨(a,y),cc,by show Ho (a,y) (fin y l);grind⟩
    ·have q:c=y:=q;subst q;rcases C7 j with q|q
     ·have:f.1=c:=by
       cases l with
       |nil=>cases h
       |cons x l=>have:=zq n.2 h (show(c,x)∈sg c (x::l) from cc) q<|fL (c,x);rw[this]
      grind
     ·obtain⟨X,Y,e1,w,p⟩:=tL h;cases Y with
      |nil=>
       cases l with
       |nil=>cases h
       |cons x l=>
        refine r ⟨(c,x),cc,?_⟩;have:fin c (x::l)=f.2:=by rw[e1,kD];rfl
        rw[this,<-q];exact fL (c,x)
      |cons z Y=>
       cases X with
       |nil=>exact s<|show c=f.1 from w
       |cons x X=>have D:=n.2;rw[p] at D;have B:=iX.mp<|show((c,x)::(sg x X++f::(f.2,z)::sg z Y)).Pairwise Dj from D;refine B.1 (f.2,z) (by simp) c ⟨fL (c,x),?_⟩;rw[q];exact fL (f.2,z)
  exact v A.bJ A.out
def Ci:∀(a:List (Q×Q)),ay z (a.map λe=>(e.2,e.1))=ay z a
 |[]=>rfl
 |e::a=>by
  show(cr z (e.2,e.1)^^ay z (a.map _))=(cr z e^^ay z a)
  rw[Ci a,Cr]
def O9(l:List Q)(a b:Q):ay z (sg b<|l.reverse++[a])=ay z (sg a<|l++[b]):=by rw[rM (v4 l a b) z,Ci]
open Sy(inRing crosses through wayOk stretches half twice cut)
def FL{x:Rat}(n:x≠y):(y-x)⁻¹=-(x-y)⁻¹:=by grind
def wk(a b u v:Q)(k:Rat):tn a b (At u v k)=(1-k)*tn a b u+k*tn a b v:=by unfold tn At;grind
def yW(h:On a b c):∃t:Rat,0<=t/\t<=1/\c=At a b t:=by obtain⟨t,e,d,e1,f⟩:=h;exact⟨t,e,d,f7 e1 f⟩
def tY(a b:Q):tn a b a=0/\tn a b b=0:=by unfold tn;grind
def Oo(X:On a b c)(Y:On u v c)(R:c≠a)(nb:c≠b)(W:On a b u->u=a\/u=b)(V:On a b v->v=a\/v=b)(N:¬(((tn a b u<0/\0<tn a b v)\/(0<tn a b u/\tn a b v<0))/\((tn u v a<0/\0<tn u v b)\/(0<tn u v a/\tn u v b<0))))(nm:¬On u v (At a b<|1/2)):False:=by
 have D:c≠u:=by grind
 have P:c≠v:=by grind
 obtain⟨t,t0,t1,o⟩:=yW X;obtain⟨k,k0,k1,p⟩:=yW Y;have C:0<t:=by
  by_cases q:t=0;·rw[q,ic] at o;grind
  ·grind
 have B:t<1:=by
  by_cases q:t=1;·rw[q,iH] at o;grind
  ·grind
 have i:0<k:=by
  by_cases q:k=0;·rw[q,ic] at p;grind
  ·grind
 have E:k<1:=by
  by_cases q:k=1;·rw[q,iH] at p;grind
  ·grind
 have g:a≠b:=λq=>R<|by rw[o,<-q];unfold At;grind
 have w:u≠v:=λq=>D<|by rw[p,<-q];unfold At;grind
 have L:(1-k)*tn a b u+k*tn a b v=0:=by rw[<-wk,<-p,o,wk,(tY a b).1,(tY a b).2];grind
 have K:(1-t)*tn u v a+t*tn u v b=0:=by rw[<-wk,<-o,p,wk,(tY u v).1,(tY u v).2];grind
 by_cases G:tn a b u=0
 ·have F:tn a b v=0:=by grind
  obtain⟨d,l⟩:=ow g G;obtain⟨f,j⟩:=ow g F;have ct:t=d+k*(f-d):=by refine kd g ?_;rw[<-o,p,l,j];unfold At;grind
  have ou:d<=0\/1<=d:=by
   rcases(by grind:d<=0\/1<=d\/(0<d/\d<1)) with h|h|⟨A,z⟩;·grind
   ·grind
   ·rcases W (by rw[l];exact nv a b (by grind)<|by grind) with q|q;·exact .inl<|by have:=kd g (s:=d) (t:=0) (by rw[<-l,ic];exact q);grind
    ·exact .inr<|by have:=kd g (s:=d) (t:=1) (by rw[<-l,iH];exact q);grind
  have ov:f<=0\/1<=f:=by
   rcases(by grind:f<=0\/1<=f\/(0<f/\f<1)) with h|h|⟨A,z⟩;·grind
   ·grind
   ·rcases V (by rw[j];exact nv a b (by grind)<|by grind) with q|q;·exact .inl<|by have:=kd g (s:=f) (t:=0) (by rw[<-j,ic];exact q);grind
    ·exact .inr<|by have:=kd g (s:=f) (t:=1) (by rw[<-j,iH];exact q);grind
  have I:=pp i<|show 0<1-k by grind
  have S:∀m:Rat,((d<=m/\m<=f)\/(f<=m/\m<=d))->d≠f->On u v (At a b m):=λm J n=>by
   refine⟨(m-d)/(f-d),?_,?_,?_,?_⟩
   ·rw[tz];rcases J with⟨A,z⟩|⟨A,z⟩;·exact nn (by grind)<|by have:=lX.mpr (show 0<f-d by grind);grind
    ·have:=lX.mpr<|show 0<d-f by grind
     have e:(f-d)⁻¹=-(d-f)⁻¹:=FL<|by grind
     rw[e];have:=nn (show 0<=d-m by grind) (by grind:0<=(d-f)⁻¹);grind
   ·have e1:(f-d)*(f-d)⁻¹=1:=nQ _<|by grind
    have:1-(m-d)/(f-d)=(f-m)*(f-d)⁻¹:=by grind
    have T:0<=(f-m)*(f-d)⁻¹:=by
     rcases J with⟨A,z⟩|⟨A,z⟩;·exact nn (by grind)<|by have:=lX.mpr (show 0<f-d by grind);grind
     ·have:=lX.mpr<|show 0<d-f by grind
      have e:(f-d)⁻¹=-(d-f)⁻¹:=FL<|by grind
      rw[e];have:=nn (show 0<=m-f by grind) (by grind:0<=(d-f)⁻¹);grind
    grind
   ·have e1:(f-d)*(f-d)⁻¹=1:=nQ _<|by grind
    rw[l,j,tz];unfold At;grind
   ·have e1:(f-d)*(f-d)⁻¹=1:=nQ _<|by grind
    rw[l,j,tz];unfold At;grind
  have O:d≠f:=by grind
  rcases(by grind:d<f\/f<d) with h|h
  ·have a1:=pp i<|show 0<f-d by grind
   have a2:=pp (show 0<1-k by grind)<|show 0<f-d by grind
   grind
  ·have a1:=pp i<|show 0<d-f by grind
   have a2:=pp (show 0<1-k by grind)<|show 0<d-f by grind
   grind
 ·have r:∀(x y m:Rat),0<m->m<1->(1-m)*x+m*y=0->x≠0->(x<0/\0<y)\/(0<x/\y<0):=λx y m H m1 e hx=>by
   rcases(by grind:x<0\/0<x) with h|h
   ·left;have:=pn (show 0<1-m by grind) h;exact⟨h,fk H<|by grind⟩
   ·right;have:=pp (show 0<1-m by grind) h;have:=fk (b:=-y) H<|by grind
    grind
  have U:tn u v a≠0:=λq=>by
   have M:tn u v b=0:=by grind
   obtain⟨sa,ea⟩:=ow w q;obtain⟨sb,Z⟩:=ow w M;refine G ?_;rw[ea,Z];unfold tn At;grind
  exact N ⟨r _ _ k i E L G,r _ _ t C B K U⟩
def O7(p:Pt)(e:Pt×Pt):eB p e=cr (io p) (ie e):=by unfold eB cr ie;simp only[mi,DH,DC];have h:∀x y:Pt,((io x).2<=(io y).2)↔x.2<=y.2:=λx y=>fD;grind
def Gw(z:Q):∀(a:List (Q×Q)),ay z a=((a.filter (cr z)).length%2==1)
 |[]=>rfl
 |e::a=>by show(cr z e^^ay z a)=_;rw[Gw z a,tc];grind
def xX:cB r p=(!b_ r p&&ay (io p) ((aj r).map ie)):=by
 unfold cB;rw[Gw,ET,bS];have e:(cr (io p)∘ie)=eB p:=by funext e;exact(O7 p e).symm
 rw[e]
def mH(p:Pt):Pt:=(2*p.1,2*p.2)
def GO(f:Pt->Pt)(r:aC):aj (r.map f)=(aj r).map λe=>(f e.1,f e.2):=by
 cases r with
 |nil=>rfl
 |cons a l=>rw[dB,jh,jh,y8,dw];rfl
def zf(p:Pt):io (mH p)=(2*(io p).1,2*(io p).2):=by unfold io mH;grind
def Jl(a b:Pt):io (fK a b)=(2*(At (io a) (io b)<|1/2).1,2*(At (io a) (io b)<|1/2).2):=by unfold io fK At;grind
def WW(a b c:Q):tn (2*a.1,2*a.2) (2*b.1,2*b.2) (2*c.1,2*c.2)=4*tn a b c:=by unfold tn;grind
def WH(z:Q)(e:Q×Q):cr (2*z.1,2*z.2) ((2*e.1.1,2*e.1.2),(2*e.2.1,2*e.2.2))=cr z e:=by
 unfold cr;dsimp only;have t:∀x:Rat,(0<4*x)↔0<x:=by grind
 have a:∀x:Rat,(4*x<0)↔x<0:=by grind
 have l:∀x y:Rat,(2*x<=2*y)↔x<=y:=by grind
 have b:∀x y:Rat,(2*x<2*y)↔x<y:=by grind
 simp only[WW,t,a,l,b]
def QG(r:aC)(a b:Pt):ay (io<|fK a b) ((aj<|twice r).map ie)=ay (At (io a) (io b)<|1/2) ((aj r).map ie):=by
 have e:aj (twice r)=(aj r).map λe=>(mH e.1,mH e.2):=GO mH r;rw[e,d_,Jl];generalize At (io a) (io b) (1/2)=z;induction aj r with
 |nil=>rfl
 |cons e c d=>
  show(cr _ (io<|mH e.1,io<|mH e.2)^^ay _ (c.map _))=(cr z (ie e)^^ay z (c.map ie))
  rw[d,zf,zf];congr 1;exact WH z<|ie e
def TK(h:b_ (twice r) (fK a b)=false)(f:e∈aj r):¬On (io e.1) (io e.2) (At (io a) (io b)<|1/2):=λo=>by
 have i:aj (twice r)=(aj r).map λe=>(mH e.1,mH e.2):=GO mH r;have:b_ (twice r) (fK a b)=true:=by unfold b_;rw[lV];refine⟨(mH e.1,mH e.2),by grind,?_⟩;rw[eY,zf,zf,Jl];obtain⟨t,d,c,e1,g⟩:=o;exact⟨t,d,c,by grind,by grind⟩
 grind
def Im:∀(l:List c)(a:c),(a::l).zip l=sg a l
 |[],a=>rfl
 |b::l,a=>by show(a,b)::(b::l).zip l=(a,b)::sg b l;rw[Im l b]
structure pQ(r:aC)(p:Pt)(W:List Pt)(q:Pt):Prop where
 pq:p≠q
 DZ:b_ r p=true
 Md:b_ r q=true
 bA:∀v∈W,cB r v=true
 ne:∀s∈sg p (W++[q]),s.1≠s.2
 ei:∀s∈sg p (W++[q]),cB (twice r) (fK s.1 s.2)=true
 Ed:∀s∈sg p (W++[q]),∀e∈aj r,dZ s.1 s.2 e.1 e.2=false
 z_:∀s∈sg p (W++[q]),∀v∈r,v=s.1\/v=s.2\/bN s.1 s.2 v=false
 Mf:∀X Y s t,sg p (W++[q])=X++s::t::Y->bN s.1 s.2 t.2=false/\bN t.1 t.2 s.1=false
 uP:∀X Y Z s t,sg p (W++[q])=X++s::Y++t::Z->Y≠[]->dj s.1 s.2 t.1 t.2=false
def Iy{w:List Pt}(h:2<=w.length):∃p W q,w=p::(W++[q])/\w.headD (0,0)=p/\w.getLastD (0,0)=q/\(w.drop 1).dropLast=W:=by
 cases w with
 |nil=>simp at h
 |cons p l=>
  have a:l≠[]:=by grind
  refine⟨p,l.dropLast,l.getLast a,by rw[MB],rfl,?_,rfl⟩;grind
def KC(h:dJ r w=true):∃p W q,w=p::(W++[q])/\W.length+2<=20/\pQ r p W q:=by
 unfold dJ at h;dsimp only at h;simp only[dc,eg] at h;obtain⟨D,l,b,x,u,c,g,f⟩:=h;obtain⟨p,W,q,rfl,e1,G,F⟩:=Iy D;rw[e1] at b x;rw[G] at b u;rw[F] at c;have E:dN (p::(W++[q]))=sg p (W++[q]):=Im _ _;rw[E] at g f;rw[iu] at c g;have a:∀s∈sg p (W++[q]),s.1≠s.2/\cB (twice r) (fK s.1 s.2)=true/\(∀e∈aj r,dZ s.1 s.2 e.1 e.2=false)/\∀v∈r,v=s.1\/v=s.2\/bN s.1 s.2 v=false:=λs C=>by have:=g s C;simp only[dc,bne_iff_ne,iu,h_,oX,beq_iff_eq] at this;omega
 have d:∀(i j:Nat)(z:i<(sg p (W++[q])).length)(y:j<i),_:=λi j z y=>by rw[iu] at f;have A:=f i<|nZ.mpr z;rw[iu] at A;exact A j<|nZ.mpr y
 refine⟨p,W,q,rfl,by simp at l;omega,?_⟩;refine⟨by simpa using b,x,u,c,λs m=>(a s m).1,λs m=>(a s m).2.1,λs m=>(a s m).2.2.1,λs m=>(a s m).2.2.2,?_,?_⟩
 ·intro X Y s t e;have k:=d (X.length+1) X.length (by rw[e];simp)<|by omega
  rw[e] at k;have o:(X++s::t::Y).getD X.length ((0,0),(0,0))=s:=by simp[iV]
  have n:(X++s::t::Y).getD (X.length+1) ((0,0),(0,0))=t:=by rw[iV,Em<|by omega];simp
  rw[o,n,aM rfl] at k;simpa using k
 ·intro X Y Z s t e B;have H:0<Y.length:=Ew.mpr B;have k:=d (X.length+(Y.length+1)) X.length (by rw[e];simp)<|by omega
  rw[e] at k;have o:(X++s::Y++t::Z).getD X.length ((0,0),(0,0))=s:=by grind
  have n:(X++s::Y++t::Z).getD (X.length+(Y.length+1)) ((0,0),(0,0))=t:=by simp
  rw[o,n,aL<|by omega] at k;grind
def tK(h:b=false):¬b=true:=by grind
def pQ.bJ(w:pQ r p W q):fY ((sg p<|W++[q]).map ie)/\¬HS ((sg p<|W++[q]).map ie) (io q):=by
 have d:∀X Y(s t:Pt×Pt),sg p (W++[q])=X++s::t::Y->s.2=t.1->Dj (ie s) (ie t):=λX Y s t e k=>by obtain⟨G,F⟩:=w.Mf X Y s t e;have B:¬On (io s.1) (io s.2) (io t.2):=λz=>tK G<|eY.mpr z;have n:¬On (io t.1) (io t.2) (io s.1):=λz=>tK F<|eY.mpr z;rw[<-k] at n;have:=Do B n;show Dj (io s.1,io s.2) (io t.1,io t.2);grind
 have J:∀X Y Z(s t:Pt×Pt),sg p (W++[q])=X++s::Y++t::Z->Dj (ie s) (ie t):=λX Y Z s t e=>by
  cases Y with
  |nil=>
   refine d X Z s t (by grind) ?_;have S:s∈sg p (W++[q]):=by grind
   have m:∀(l:List Pt)(a:Pt)(X:List (Pt×Pt)),sg a l=X++s::t::Z->s.2=t.1:=by
    intro l;induction l with
    |nil=>intro a X e;cases X<;>cases e
    |cons b l P=>
     intro a X e;cases X with
     |nil=>
      have A:(a,b)::sg b l=s::t::Z:=e;have i:=n0 A;cases l with
      |nil=>have:=i.2;cases this
      |cons c l=>have R:=(n0<|show(b,c)::sg c l=t::Z from i.2).1;grind
     |cons x X=>have A:(a,b)::sg b l=x::(X++s::t::Z):=e;grind
   grind
  |cons y Y=>intro c ⟨M,K⟩;exact Cf (w.uP X (y::Y) Z s t e<|by simp) M.on K.on
 constructor
 ·unfold fY;rw[nR,MH];intro i j u o D;refine J ((sg p<|W++[q]).take i) (((sg p<|W++[q]).drop<|i+1).take<|j-(i+1)) ((sg p<|W++[q]).drop<|j+1) _ _ ?_;generalize sg p (W++[q])=L at u o;have B:L=L.take i++L.drop i:=by simp
  have n:L.drop i=L[i]::L.drop (i+1):=w6 u;have a3:L.drop (i+1)=(L.drop (i+1)).take (j-(i+1))++(L.drop (i+1)).drop (j-(i+1)):=(uS _ _).symm;have V:(L.drop (i+1)).drop (j-(i+1))=L.drop j:=by rw[AF];congr 1;omega
  have U:L.drop j=L[j]::L.drop (j+1):=w6 o;grind
 ·rintro⟨f,E,k⟩;obtain⟨e,v,rfl⟩:=cY.mp E;have g:∃x,sg p (W++[q])=sg p W++[(x,q)]/\x=fin p W:=⟨fin p W,by rw[mZ];rfl,rfl⟩
  obtain⟨x,g,_⟩:=g;have C:x≠q:=w.ne (x,q)<|by grind
  rw[g] at v;rcases eI.mp v with h|h
  ·obtain⟨X,Y,T⟩:=sX h;have I:sg p (W++[q])=X++e::Y++(x,q)::[]:=by grind
   cases Y with
   |nil=>have:=(w.Mf X [] e (x,q)<|by grind).1;exact tK this<|eY.mpr k.on
   |cons y Y=>
    have:=w.uP X (y::Y) [] e (x,q) I<|by simp
    exact Cf this k.on ⟨1,by grind,by grind,by grind,by grind⟩
  ·have:e=(x,q):=by grind
   subst this;obtain⟨t,O,N,H⟩:=k;have:=kd (ii C) (s:=t) (t:=1)<|by rw[iH];exact H.symm
   grind
def k8(p:Pt)(l:List Pt):(sg p l).map ie=sg (io p) (l.map io):=y8 io l p
def pQ.Zr(w:pQ r p W q):jT (io p) ((W++[q]).map io):=by
 obtain⟨a,b⟩:=w.bJ;rw[k8] at a b;refine⟨a,?_,by simp⟩;have:fin (io p) ((W++[q]).map io)=io q:=by rw[<-qC,l8]
 grind
def pQ.pI(w:pQ r p W q)(B:HS ((sg p<|W++[q]).map ie) c)(A:HS ((aj r).map ie) c):c=io p:=by
 obtain⟨f,m,y⟩:=B;obtain⟨s,b,rfl⟩:=cY.mp m;obtain⟨F,j,k⟩:=A;obtain⟨e,d,rfl⟩:=cY.mp j;have l:=w.ei s b;rw[xX,dc,h_] at l;have a:∀v∈r,On (io s.1) (io s.2) (io v)->io v=io s.1\/io v=io s.2:=λv i o=>by
  rcases w.z_ s b v i with q|q|q;·grind
  ·grind
  ·exact cy (eY.mpr o)<|tK q
 have n:∀v:Pt,v∈p::(W++[q])->c=io v->c=io p\/c=io q:=λv i q=>by
  rcases cO.mp i with h|h;·grind
  ·rcases eI.mp h with h|h
   ·exfalso;have:=w.bA v h;rw[xX,dc,h_] at this;refine tK this.1 ?_;unfold b_;rw[lV];exact⟨e,d,eY.mpr<|by rw[<-q];exact k.on⟩
   grind
 have E:s.1∈p::(W++[q]):=by obtain⟨X,Y,e1,C,_⟩:=tL b;have:=vM X p;grind
 have D:s.2∈p::(W++[q]):=by obtain⟨X,Y,e1,C,_⟩:=tL b;grind
 have g:c=io p\/c=io q:=by
  by_cases x:c=io s.1;·grind
  ·by_cases u:c=io s.2;·grind
   ·exfalso;refine Oo y.on k.on x u (a _<|g0 d) (a _<|j7 d) ?_<|TK l.1 d;intro z;have t:=w.Ed s b e d;refine tK t<|A9.mpr ?_;simp only[mi,DH,DC,ie] at z;exact z
 rcases g with h|h;·exact h
 ·exfalso;exact w.bJ.2 ⟨ie s,m,by grind⟩
def A6{m:Pt}(h:m∉X):(X++m::Y).idxOf m=X.length:=by grind
def Bb{a:Type}{l:List a}{m:a}(b:l.Nodup)(h:m∈l):∃X Y,l=X++m::Y/\m∉X/\m∉Y:=by obtain⟨X,Y,rfl⟩:=sX h;grind
def bZ.nw(g:bZ r)(h:(aj s).Perm (aj r)):bZ s:=⟨by have:=h.length_eq;rw[fS,fS] at this;rw[this];exact g.aX,g.bJ.nw (h.map ie).symm⟩
structure m5(r:aC)(p q:Pt)(X Y:List Pt):Prop where
 Me:de (fine r [p,q]) ((fine r [p,q]).idxOf p)=p::(X++q::Y)
 ZL:(p::(X++q::Y)).idxOf q=X.length+1
 nw:(aj<|p::(X++q::Y)).Perm (aj<|fine r [p,q])
 i8:bZ (p::(X++q::Y))
def lj(g:bZ r)(n:p≠q)(o:b_ r p=true)(m:b_ r q=true):∃X Y,m5 r p q X Y:=by
 have i:=g.fine [p,q];have k:=i.nodup;have l:p∈fine r [p,q]:=qp (by simp) o;have v:q∈fine r [p,q]:=qp (by simp) m;obtain⟨a,b,y,u,t⟩:=Bb k l;have s:(fine r [p,q]).idxOf p=a.length:=by grind
 have j:de (fine r [p,q]) ((fine r [p,q]).idxOf p)=p::(b++a):=by rw[s];unfold de;grind
 have f:q∈b++a:=by grind
 have c:(aj (p::(b++a))).Perm (aj (fine r [p,q])):=by have:=Fv (fine r [p,q])<|(fine r [p,q]).idxOf p;grind
 have h:=i.nw c;have d:(b++a).Nodup:=(kW.mp h.nodup).2;obtain⟨X,Y,e,x,w⟩:=Bb d f;rw[e] at j c h;refine⟨X,Y,j,?_,c,h⟩;grind
def vv(p q:Pt)(X Y:List Pt):aj (p::(X++q::Y))=sg p (X++[q])++sg q (Y++[p]):=by rw[jh,show X++q::Y++[p]=(X++[q])++(Y++[p]) by simp,mZ,l8]
def m5.Y7(o:m5 r p q X Y):
 jT (io q) ((Y++[p]).map io)/\jT (io p) ((X++[q]).map io)/\∀c,HS (sg (io q) ((Y++[p]).map io)) c->HS (sg (io p) ((X++[q]).map io)) c->False:=by
 have d:=o.i8.bJ;rw[vv,dw,k8,k8] at d;obtain⟨n,m,j⟩:=sV.mp d;have x:∀c,HS (sg (io q) ((Y++[p]).map io)) c->HS (sg (io p) ((X++[q]).map io)) c->False:=λc⟨e,i,k⟩⟨f,g,b⟩=>j f g e i c ⟨b,k⟩;refine⟨⟨m,λh=>?_,by simp⟩,⟨n,λh=>?_,by simp⟩,x⟩
 ·rw[<-qC,l8] at h;obtain⟨_,_,_,k⟩:=vG (a:=io p) (l:=(X++[q]).map io)<|by simp
  grind
 ·rw[<-qC,l8] at h;obtain⟨_,_,_,k⟩:=vG (a:=io q) (l:=(Y++[p]).map io)<|by simp
  grind
def m5.hs(g:bZ r)(o:m5 r p q X Y)(h:HS (sg (io q)<|(Y++[p]).map io) c\/HS (sg (io p)<|(X++[q]).map io) c):HS ((aj r).map ie) c:=by
 refine((g.rO [p,q]).ho).mpr ?_;have:HS ((aj (p::(X++q::Y))).map ie) c:=by rw[vv,dw,k8,k8,HS.append];grind
 obtain⟨e,a,k⟩:=this;exact⟨e,(o.nw.map ie).mem_iff.mp a,k⟩
def m5.ay(g:bZ r)(o:m5 r p q X Y)(z:Q):ay z (sg (io q) ((Y++[p]).map io)++sg (io p) ((X++[q]).map io))=ay z ((aj r).map ie):=by rw[<-(g.rO [p,q]).ay,<-rM (o.nw.map ie) z,vv,show(sg p (X++[q])++sg q (Y++[p])).map ie=sg (io p) ((X++[q]).map io)++sg (io q) ((Y++[p]).map io) by rw[dw,k8,k8],gH,gH,acl]
def NI(z:Q):Prop:=∀n:Int,z.2≠(n:Rat)
def NI.pN(h:NI z)(p:Pt)(l:List Pt):ko z.2 (sg (io p)<|l.map io):=λe a=>by rw[<-k8] at a;obtain⟨f,b,rfl⟩:=cY.mp a;exact⟨λq=>h f.1.2 q.symm,λq=>h f.2.2 q.symm⟩
structure Wg(r:aC)(w:List Pt)(L R:aC):Prop where
 eq:cut r w=(tidy L,tidy R)
 gl:bZ L
 gr:bZ R
 sum:∀z,(ay z ((aj L).map ie)^^ay z ((aj R).map ie))=ay z ((aj r).map ie)
 bJ:∀z,NI z->¬(ay z ((aj L).map ie)=true/\ay z ((aj R).map ie)=true)
def WS(o:m5 r p q X Y):cut r (p::(W++[q]))=(tidy<|q::Y++p::W,tidy<|p::X++q::W.reverse):=by
 unfold cut;dsimp only;have e1:(p::(W++[q])).headD (0,0)=p:=rfl;have a:(p::(W++[q])).getLastD (0,0)=q:=by grind
 rw[e1,a,o.Me,o.ZL];grind
def pQ.Ky(g:bZ r)(w:pQ r p W q)(o:m5 r p q X Y):Wg r (p::(W++[q])) (q::Y++p::W) (p::X++q::W.reverse):=by
 obtain⟨A,B,P⟩:=o.Y7;have m:=w.Zr;have hit:∀c,HS (sg (io p) ((W++[q]).map io)) c->(HS (sg (io q) ((Y++[p]).map io)) c\/HS (sg (io p) ((X++[q]).map io)) c)->c=io p:=λc i j=>
  w.pI (by rw[k8];exact i) (o.hs g j)
 have F:∀c,HS (sg (io q) ((Y++[p]).map io)) c->HS (sg (io p) ((W++[q]).map io)) c->False:=λc i j=>by have:=hit c j<|.inl i;subst this;exact A.out<|by rw[<-qC,l8];exact i
 have E:∀c,HS (sg (io p) ((X++[q]).map io)) c->HS (sg (io p) ((W++[q]).map io)) c->c=io p:=by grind
 have N:fin (io q) ((Y++[p]).map io)=io p:=by rw[<-qC,l8]
 have M:fin (io p) ((X++[q]).map io)=io q:=by rw[<-qC,l8]
 have L:fin (io p) ((W++[q]).map io)=io q:=by rw[<-qC,l8]
 have T:=R4 A B m N M L P F E;have v:(aj (q::Y++p::W)).map ie=sg (io q) ((Y++[p]).map io)++sg (io p) ((W++[q]).map io):=by rw[tf,vv,dw,k8,k8]
 have u:(aj (p::X++q::W.reverse)).map ie=sg (io p) ((X++[q]).map io)++sg (io q) ((W.map io).reverse++[io p]):=by rw[tf,vv,dw,k8,k8];simp
 have t:(W++[q]).map io=W.map io++[io q]:=by simp
 have H:jT (io q) ((W.map io).reverse++[io p]):=by rw[t] at m;exact m.D9
 have O:∀c,HS (sg (io p) ((X++[q]).map io)) c->HS (sg (io q) ((W.map io).reverse++[io p])) c->False:=λc i j=>by
  have C:=WJ j;rw[<-t] at C;rcases C with h|h
  ·have:=E c i h;subst this;have:¬HS (sg (io q) ((W.map io).reverse++[io p])) (io p):=by
    have:=H.out
    rwa [kD] at this
   grind
  ·subst h;exact B.out<|by grind
 have y:∀z,ay z (sg (io q) ((W.map io).reverse++[io p]))=ay z (sg (io p) ((W++[q]).map io)):=λz=>by rw[O9,t]
 have K:∀c,ey (io p) ((W++[q]).map io) c->Ld.ay c (sg (io q) ((Y++[p]).map io)++sg (io p) ((X++[q]).map io))=true:=by
  have x:=T.ZA;obtain⟨b,l,D⟩:∃b l,W++[q]=b::l:=by cases W<;>grind
  have first:ey (io p) ((W++[q]).map io) (At (io p) (io b) (1/2)):=by
   rw[D];cases l with
   |nil=>exact⟨1/2,by grind,by grind,rfl⟩
   |cons d l=>exact .inl<|by grind
  have G:Ld.ay (At (io p) (io b) (1/2)) (sg (io q) ((Y++[p]).map io)++sg (io p) ((X++[q]).map io))=true:=by
   rw[o.ay g];have I:(p,b)∈sg p (W++[q]):=by rw[D];exact cc
   have:=w.ei (p,b) I;rw[xX,dc,QG] at this;grind
  intro c J;rw[Bf x _ _ T.oW c _ J first];omega
 refine⟨WS o,⟨by grind,?_⟩,⟨by grind,?_⟩,λz=>?_,λz n=>?_⟩
 ·rw[v];exact sV.mpr ⟨A.bJ,m.bJ,λe k f s c⟨i,j⟩=>F c ⟨e,k,i⟩ ⟨f,s,j⟩⟩
 ·rw[u];exact sV.mpr ⟨B.bJ,H.bJ,λe k f s c⟨i,j⟩=>O c ⟨e,k,i⟩ ⟨f,s,j⟩⟩
 ·rw[v,u,<-o.ay g z,gH,gH,gH,y];generalize Ld.ay z (sg (io q)<|(Y++[p]).map io)=a;generalize Ld.ay z (sg (io p)<|(X++[q]).map io)=b;generalize Ld.ay z (sg (io p)<|(W++[q]).map io)=c;cases a<;>cases b<;>cases c<;>rfl
 ·rw[v,u,gH,gH,y,<-gH,<-gH];refine T.Yt (ii w.pq) K ?_;intro e k;rcases eI.mp k with h|h;·exact n.pN q _ e h
  ·rcases eI.mp h with h|h;·exact n.pN p _ e h
   ·exact n.pN p _ e h
def jt.ne(r:jt a c):∀e∈a,e.1≠e.2:=by
 induction r with
 |nil=>grind
 |cons n h _ b=>grind
def A0(r:aC)(i:Nat):(de r i).length=r.length:=by unfold de;grind
def B8(h:sE (aj r))(i:r≠[]):tidy r≠[]/\(fY ((aj r).map ie)->bZ (tidy r))/\∀z,ay z ((aj (tidy r)).map ie)=ay z ((aj r).map ie):=by
 obtain⟨m,k,n,f,c,g⟩:=Bs h i;have j:tidy r≠[]:=λq=>by have:(tidy r).length=(bare r).length:=A0 _ _;grind
 refine⟨j,λd=>⟨?_,?_⟩,λz=>?_⟩
 ·cases e:tidy r with
  |nil=>grind
  |cons a l=>
   cases l with
   |cons b l=>simp
   |nil=>exfalso;rw[e] at c;have:((io a,io a):Q×Q)∈k:=c.mem_iff.mpr<|show(io a,io a)∈(aj [a]).map ie from cc;exact f.ne _ this rfl
 ·exact(f.bJ.mpr<|d.nw g.symm).nw c
 ·rw[<-rM c,<-rM g,f.ay]
def bZ.nn(g:bZ r):r≠[]:=λq=>by have:=g.aX;grind
def bZ.tidy(g:bZ r):bZ (cu r):=(B8 g.pV g.nn).2.1 g.bJ
def bZ.HI(g:bZ r)(z:Q):ay z ((aj<|cu r).map ie)=ay z ((aj r).map ie):=(B8 g.pV g.nn).2.2 z
def bZ.Cn(g:bZ r):bare r≠[]:=(Bs g.pV g.nn).1
abbrev pr(r:aC)(z:Q):Bool:=ay z<|(aj r).map ie
def iR(a b:aC):Prop:=∀z,NI z->¬(pr a z=true/\pr b z=true)
def iR.symm(h:iR a b):iR b a:=λz n⟨x,y⟩=>h z n ⟨y,x⟩
def U8(g:bZ r)(h:dJ r w=true):
 bZ (cut r w).1/\bZ (cut r w).2/\iR (cut r w).1 (cut r w).2/\∀s,iR r s->iR (cut r w).1 s/\iR (cut r w).2 s:=by
 obtain⟨p,W,q,rfl,_,w⟩:=KC h;obtain⟨X,Y,o⟩:=lj g w.pq w.DZ w.Md;have C:=w.Ky g o;rw[C.eq];have f:∀z,pr (tidy (q::Y++p::W)) z=pr (q::Y++p::W) z:=λz=>C.gl.HI z;have e:∀z,pr (tidy (p::X++q::W.reverse)) z=pr (p::X++q::W.reverse) z:=λz=>C.gr.HI z;refine⟨C.gl.tidy,C.gr.tidy,λz n⟨d,c⟩=>?_,λs i=>⟨λz n⟨d,c⟩=>?_,λz n⟨d,c⟩=>?_⟩⟩
 ·rw[f] at d;rw[e] at c;exact C.bJ z n ⟨d,c⟩
 ·rw[f] at d;have a:=C.sum z;have b:=C.bJ z n;refine i z n ⟨?_,c⟩;grind
 ·rw[e] at d;have a:=C.sum z;have b:=C.bJ z n;refine i z n ⟨?_,c⟩;grind
def G9(h:a<b):∃e,a<e/\e<b/\∀n:Int,e≠(n:Rat):=by
 have f:∀x y:Rat,x<y->y-x<1->(∃n:Int,x=n)->∃e,x<e/\e<y/\∀n:Int,e≠(n:Rat):=λx y g j⟨n,k⟩=>by
  refine⟨x+(y-x)/2,by grind,by grind,λm i=>?_⟩;rw[k] at i g j;have p:((n:Int):Rat)<((m:Int):Rat):=by grind
  have o:((m:Int):Rat)<((n+1:Int):Rat):=by grind
  have:=oK.mp p;have:=oK.mp o;omega
 have i:∃c,a<c/\c<b/\c-a<1:=by
  by_cases q:b-a<1;·exact⟨a+(b-a)/2,by grind,by grind,by grind⟩
  ·exact⟨a+1/2,by grind,by grind,by grind⟩
 obtain⟨c,B,A,z⟩:=i;by_cases w:∃n:Int,c=n
 ·have l:∃d,c<d/\d<b/\d-c<1:=by
   by_cases q:b-c<1;·grind
   ·exact⟨c+1/2,by grind,by grind,by grind⟩
  obtain⟨d,t,v,s⟩:=l;obtain⟨e,e1,u,r⟩:=f c d t s w;exact⟨e,by grind,by grind,r⟩
 grind
def OG(g:bZ r):((aj r).map ie).Pairwise oF:=by
 refine(g.bJ.and<|show((aj r).map ie).Pairwise (λe f=>e∈(aj r).map ie/\f∈(aj r).map ie) from ?_).imp λ{e f}⟨d,s,p⟩c w v=>?_;·exact List.pairwise_of_forall_mem_list λa u b t=>⟨u,t⟩
 ·rcases sd (e:=e) w with k|k
  ·rcases sd (e:=f) v with i|i;·exact(d c ⟨k,i⟩).elim
   ·
    obtain⟨n,l,rfl⟩:=cY.mp p;obtain⟨e0,m,rfl⟩:=cY.mp s;obtain⟨h,j,q⟩:=rL l;have o:Ho (ie h) c:=by
     have:c=(ie h).1:=by rw[i];show io n.2=io h.1;rw[q]
     rw[this];exact fL<|ie h
    have:=g.uK m j k o;left;rw[i,this];show io n.2=io h.1;rw[q]
  grind
def WC(g:bZ r):∃e∈aj r,e.1.2≠e.2.2:=by
 apply gs;intro j;have b:∀e∈aj r,e.1.2=e.2.2:=by grind
 refine g.Cn ?_;cases f:r with
 |nil=>rfl
 |cons a l=>
  rw[tX];have d:∀(l:List Pt)(x n:Pt),(∀e∈sg x (l++[n]),e.1.2=e.2.2)->bp x l n=[]:=by
   intro l;induction l with
   |nil=>intro x n _;rfl
   |cons v l i=>
    intro x n h;have m:x.2=v.2:=h (x,v) cc;have k:v.2=(l.headD n).2:=h (v,l.headD n)<|e8 _<|yc l v n;have t:bc x v (l.headD n)=0:=by unfold bc;grind
    show(if bc x v (l.headD n)=0 then bp v l n else v::bp v l n)=[]
    rw[aM t];exact i v n λe c=>h e<|e8 _ c
  refine d (a::l) (fin a l) a λe c=>?_;have:sg (fin a l) (a::l++[a])=(fin a l,a)::sg a (l++[a]):=rfl;rw[this] at c;rcases cO.mp c with rfl|c;·exact b _<|by rw[f,jh];exact BD l a a
  ·exact b e<|by rw[f,jh];exact c
def Df{f:Q×Q->Rat}:∀(l:List (Q×Q)),l≠[]->∃e∈l,∀x∈l,f x<=f e
 |[],h=>cy rfl h
 |[a],_=>by simp
 |a::b::l,_=>by
  obtain⟨e,c,h⟩:=Df (f:=f) (b::l)<|by simp
  grind
instance:Decidable (da h e):=by unfold da;infer_instance
def bZ.Wy(g:bZ r):∃z,NI z/\pr r z=true:=by
 obtain⟨e,E,nz⟩:=WC g;have p:∃h,da h (ie e)/\∀n:Int,h≠(n:Rat):=by
  rcases(by omega:e.1.2<e.2.2\/e.2.2<e.1.2) with q|q
  ·obtain⟨h,a,b,c⟩:=G9<|oK.mpr q;exact⟨h,.inl ⟨a,b⟩,c⟩
  ·obtain⟨h,a,b,c⟩:=G9<|oK.mpr q;exact⟨h,.inr ⟨a,b⟩,c⟩
 obtain⟨h,G,l⟩:=p;have pN:ko h ((aj r).map ie):=λf w=>by obtain⟨H,_,rfl⟩:=cY.mp w;exact⟨λq=>l _ q.symm,λq=>l _ q.symm⟩
 let j:=((aj r).map ie).filter λf=>decide<|da h f;have s:j≠[]:=λq=>by
  have:ie e∈j:=by grind
  grind
 obtain⟨m,C,D⟩:=Df (f:=ps h) j s;obtain⟨o,i⟩:=oU.mp C;have i:da h m:=fB i;have A:ay (ps h m,h) ((aj r).map ie)=false:=vB _ pN<|by grind
 have B:∃t,t<ps h m/\∀f∈(aj r).map ie,da h f->t<ps h f->ps h m<=ps h f:=by
  let u:=j.filter λf=>decide<|ps h f<ps h m;by_cases q:u=[]
  ·refine⟨ps h m-1,by grind,λf w k _=>?_⟩;apply gs;intro z;have:f∈u:=by grind
   grind
  ·obtain⟨d,F,I⟩:=Df (f:=ps h) u q;grind
 obtain⟨t,y,x⟩:=B;have v:=vC y _ pN x;rw[A,vP _ pN (OG g) m o i rfl] at v;exact⟨(t,h),λn q=>l n q,v⟩
open Sy(openEdges walk joined)
def Qv(r:aC):(aj r).map (·.2)=r.drop 1++r.take 1:=by unfold aj;rw[List.map_snd_zip];grind
def Rf(h:r.Nodup):((aj r).map (·.2)).Nodup:=by
 rw[Qv];have:(r.drop 1++r.take 1).Perm r:=by
  have:=Et (l₁:=r.drop 1) (l₂:=r.take 1)
  rwa [uS] at this
 grind
def xG{g i:Type}{f:g->i}:∀{l:List g},(l.map f).Nodup->∀{a b:g},a∈l->b∈l->f a=f b->a=b
 |[],_,a,b,c,_,_=>by cases c
 |x::l,h,a,b,c,d,e=>by
  rw[dB,kW] at h;rcases cO.mp c with c|c;·grind
  ·rcases cO.mp d with d|d;·grind
   ·exact xG h.2 c d e
def vS(h:r.Nodup)(b:e∈aj r)(a:f∈aj r)(q:e.2=f.2):e=f:=xG (f:=λe:Pt×Pt=>e.2) (Rf h) b a q
def rv(e:Pt×Pt):Pt×Pt:=(e.2,e.1)
def wo(e:Pt×Pt):rv (rv e)=e:=rfl
def lo(x y:List (Pt×Pt)):List (Pt×Pt):=x.filter λe=>!y.contains (rv e)
def iG:e∈lo x y↔e∈x/\rv e∉y:=by unfold lo;grind
def rV(a b:aC):cJ a b=lo (aj<|fine a b) (aj<|fine b a)++lo (aj<|fine b a) (aj<|fine a b):=rfl
section
variable {X Y:aC} (nX:X.Nodup) (nY:Y.Nodup)
include nX nY
theorem Jk{e:Pt×Pt}(h:e∈lo (aj X) (aj Y)):∃f,(f∈lo (aj X) (aj Y)\/f∈lo (aj Y) (aj X))/\f.1=e.2:=by
 obtain⟨d,i⟩:=iG.mp h;obtain⟨f,j,q⟩:=rL d;by_cases k:rv f∈aj Y
 ·obtain⟨g,c,a⟩:=rL k;by_cases b:rv g∈aj X
  ·exfalso;have:rv g=e:=vS nX b d<|by show g.1=e.2;rw[a];exact q
   exact i<|by rw[<-this];exact c
  ·exact⟨g,.inr<|iG.mpr ⟨c,b⟩,by rw[a];exact q⟩
 ·exact⟨f,.inl<|iG.mpr ⟨j,k⟩,q⟩
theorem HH(g:((lo (aj X) (aj Y)++lo (aj Y) (aj X)).map (·.1)).Nodup){e f:Pt×Pt}(l:e∈lo (aj X) (aj Y))(k:f∈lo (aj Y) (aj X))(q:e.2=f.2):False:=by
 obtain⟨e1,n⟩:=iG.mp l;obtain⟨j,m⟩:=iG.mp k;obtain⟨d,b,p⟩:=rL e1;obtain⟨c,a,o⟩:=rL j;by_cases i:rv d∈aj Y
 ·have:rv d=f:=vS nY i j<|by show d.1=f.2;grind
  exact m<|by rw[<-this];exact b
 ·by_cases h:rv c∈aj X
  ·have:rv c=e:=vS nX h e1<|by show c.1=e.2;grind
   exact n<|by rw[<-this];exact a
  ·rw[dw] at g;refine(s_.mp g).2.2 d.1 (cY.mpr ⟨d,iG.mpr ⟨b,i⟩,rfl⟩) c.1 (cY.mpr ⟨c,iG.mpr ⟨a,h⟩,rfl⟩) ?_;grind
end
section
variable {X Y:aC} (nX:X.Nodup) (nY:Y.Nodup)
include nX nY
theorem QB{e:Pt×Pt}(h:e∈lo (aj X) (aj Y)++lo (aj Y) (aj X)):∃f∈lo (aj X) (aj Y)++lo (aj Y) (aj X),f.1=e.2:=by
 rcases eI.mp h with h|h
 ·obtain⟨f,a,q⟩:=Jk nX nY h;grind
 ·obtain⟨f,a,q⟩:=Jk nY nX h;grind
theorem Ru(c:((lo (aj X) (aj Y)++lo (aj Y) (aj X)).map (·.1)).Nodup){e f:Pt×Pt}(g:e∈lo (aj X) (aj Y)++lo (aj Y) (aj X))(d:f∈lo (aj X) (aj Y)++lo (aj Y) (aj X))(q:e.2=f.2):e=f:=by
 rcases eI.mp g with b|b
 ·rcases eI.mp d with a|a;·exact vS nX (iG.mp b).1 (iG.mp a).1 q
  ·exact(HH nX nY c b a q).elim
 ·rcases eI.mp d with a|a;·exact(HH nX nY c a b q.symm).elim
  ·exact vS nY (iG.mp b).1 (iG.mp a).1 q
end
def W4(i:X.Nodup)(g:Y.Nodup)(z:Q):ay z ((lo (aj X) (aj Y)++lo (aj Y) (aj X)).map ie)=(ay z ((aj X).map ie)^^ay z ((aj Y).map ie)):=by
 have split:∀(x y:List (Pt×Pt)),ay z (x.map ie)=(ay z ((lo x y).map ie)^^ay z ((x.filter λe=>y.contains<|rv e).map ie)):=λx y=>by
  have p:=aaH (λe=>!y.contains (rv e)) x;have e:(x.filter λe=>!!y.contains (rv e))=x.filter λe=>y.contains (rv e):=by grind
  rw[e] at p;rw[<-rM<|p.map ie,dw,gH];rfl
 have sw:((aj X).filter λe=>(aj Y).contains<|rv e).Perm (((aj Y).filter λe=>(aj X).contains<|rv e).map rv):=by
  have j:∀a b:Pt×Pt,rv a=rv b->a=b:=λa b h=>by rw[<-wo a,h,wo]
  refine(aap ((vk i).filter _) ?_).mpr λe=>?_
  ·have n:=(vk g).filter λe=>(aj X).contains<|rv e;grind
  ·rw[oU,cY];constructor
   ·rintro⟨m,l⟩;refine⟨rv e,oU.mpr ⟨by grind,?_⟩,wo e⟩;rw[wo];grind
   ·rintro⟨f,k,rfl⟩;obtain⟨m,l⟩:=oU.mp k;exact⟨by grind,by rw[wo];grind⟩
 have d:ay z (((aj X).filter λe=>(aj Y).contains<|rv e).map ie)=ay z (((aj Y).filter λe=>(aj X).contains<|rv e).map ie):=by
  rw[rM (sw.map ie) z,d_];have:(((aj Y).filter λe=>(aj X).contains<|rv e).map (ie∘rv))=(((aj Y).filter λe=>(aj X).contains<|rv e).map ie).map λe=>(e.2,e.1):=by rw[d_];rfl
  rw[this,Ci]
 rw[dw,gH,split (aj X)<|aj Y,split (aj Y)<|aj X,d];generalize ay z ((lo (aj X)<|aj Y).map ie)=a;generalize ay z ((lo (aj Y)<|aj X).map ie)=b;generalize ay z (((aj Y).filter λe=>(aj X).contains<|rv e).map ie)=c;cases a<;>cases b<;>cases c<;>rfl
structure oQ(es:List (Pt×Pt))(s:Pt)(O:List Pt):Prop where
 hd:∃t,O=s::t
 nd:O.Nodup
 mem:∀e∈aj O,e∈es
def rJ{b:Type}:∀{l m:List b},l.Nodup->(∀a∈l,a∈m)->l.length<=m.length
 |[],m,_,_=>j0 _
 |a::l,m,h,k=>by
  obtain⟨X,Y,rfl⟩:=sX<|k a cc;obtain⟨d,c⟩:=kW.mp h;have:=rJ (l:=l) (m:=X++Y) c<|by grind
  grind
def yV(s:a)(t:List a)(v:a):sg s (t++[v])=sg s t++[(fin s t,v)]:=by rw[mZ];rfl
def FY(w:∀e∈b,∃f∈b,f.1=e.2)(g:∀e∈b,∀f∈b,e.2=f.2->e=f)(x:∃f∈b,f.1=s):
 ∀(n:Nat)(t:List Pt),(s::t).Nodup->(∀e∈sg s t,e∈b)->b.length<=t.length+n->∃u,oQ b s (s::(t++u))
 |n,t,D,h,i=>by
  have E:∃f∈b,f.1=fin s t:=by
   cases e:t.reverse with
   |nil=>
    have:t=[]:=by simpa using e
    rw[this];exact x
   |cons v r=>
    have z:t=r.reverse++[v]:=by rw[<-List.reverse_reverse t,e];simp
    have:(fin s r.reverse,v)∈b:=h _<|by rw[z,yV];simp
    obtain⟨f,j,q⟩:=w _ this;exact⟨f,j,by rw[q,z,l8]⟩
  obtain⟨f,j,q⟩:=E;have c:∀e∈sg s (t++[f.2]),e∈b:=λe l=>by rw[yV] at l;grind
  by_cases k:f.2=s
  ·refine⟨[],⟨⟨_,rfl⟩,by grind,λe l=>?_⟩⟩;rw[xh,jh] at l;grind
  ·
   have C:f.2∉s::t:=λm=>by
    rcases cO.mp m with m|m;·exact k m
    ·obtain⟨A,B,e⟩:=sX m;have y:(fin s A,f.2)∈b:=h _<|by rw[e,show A++f.2::B=(A++[f.2])++B by simp,mZ,yV];simp
     have:=g _ y f j rfl;have e1:fin s A=fin s t:=by grind
     rw[e] at D e1;have F:fin s (A++f.2::B)=fin f.2 B:=by rw[kD];rfl
     rw[F] at e1;have H:=vM A s;have G:=vM B f.2;grind
   have d:(s::(t++[f.2])).Nodup:=by grind
   match n,i with
   |0,i=>
    exfalso;have:(s::(t++[f.2])).length<=(b.map (·.1)).length:=by
     refine rJ d λa p=>?_;rcases cO.mp p with rfl|p;·grind
     ·obtain⟨A,B,e⟩:=sX p;have y:(fin s A,a)∈b:=c _<|by rw[e,show A++a::B=(A++[a])++B by simp,mZ,yV];simp
      grind
    simp at this;omega
   |n+1,i=>
    obtain⟨u,o⟩:=FY w g x n (t++[f.2]) d c<|by grind
    grind
 termination_by n=>n
def Yg(c:∀e∈a,∃f∈a,f.1=e.2)(b:∀e∈a,∀f∈a,e.2=f.2->e=f)(d:∃f∈a,f.1=s):∃O,oQ a s O:=by
 obtain⟨u,o⟩:=FY c b d a.length [] (by simp) (by intro e g;cases g)<|by simp
 grind
def Gb{a:List (Pt×Pt)}(b:(a.map (·.1)).Nodup)(c:e∈a):a.find? (λ(f:Pt×Pt)=>f.1==e.1)=some e:=by
 cases q:a.find? (λ(f:Pt×Pt)=>f.1==e.1) with
 |none=>grind
 |some f=>
  have g:=ES q;have d:=Ao q;have:f.1=e.1:=by grind
  rw[xG b d c this]
def Hq(b:(a.map (·.1)).Nodup):∀(t:List Pt)(s:Pt)(k:Nat),(∀e∈sg s t,e∈a)->walk a (t.length+k) s=(s::t).take t.length++walk a k (fin s t)
 |[],s,k,_=>by simp[fin]
 |v::t,s,k,h=>by
  have d:a.find? (λ(f:Pt×Pt)=>f.1==s)=some (s,v):=Gb b<|h (s,v) cc;have c:=Hq b t v k λe g=>h e<|e8 _ g;have e:(v::t).length+k=(t.length+k)+1:=by grind
  rw[e];show(match a.find? (λ(f:Pt×Pt)=>f.1==s) with|none=>[]|some e=>s::walk a (t.length+k) e.2)=_;rw[d];show s::walk a (t.length+k) v=_;rw[c];rfl
def oQ.walk(b:(a.map (·.1)).Nodup)(o:oQ a s O)(k:Nat):walk a (O.length+k) s=O++walk a k s:=by
 obtain⟨t,rfl⟩:=o.hd;have h:∀e∈sg s (t++[s]),e∈a:=λe c=>o.mem e<|by rw[jh];exact c
 have:=Hq b (t++[s]) s k h;rw[l8] at this;grind
def AY{c:Type}[BEq c][LawfulBEq c]{l:List c}:l.eraseDups.length=l.length↔l.Nodup:=by
 constructor
 ·intro h;have d:∀(n:Nat)(l:List c),l.length<=n->l.eraseDups.length<=l.length/\(l.eraseDups.length=l.length->l.Nodup):=by
   intro n;induction n with
   |zero=>grind
   |succ n f=>
    intro l g;cases l with
    |nil=>grind
    |cons a l=>
     rw[Ey];have j:=w9 (λb=>!b==a) l;simp only[dI] at g;have:=f (l.filter λb=>!b==a)<|by omega
     refine⟨by grind,λq=>?_⟩;simp only[dI] at q;have e:(l.filter λb=>!b==a).length=l.length:=by omega
     have i:l.filter (λb=>!b==a)=l:=Ej.mp e |> λh=>jz.mpr h;grind
  exact(d _ l<|cs _).2 h
 ·intro h;rw[xK h]
def oQ.length_le(o:oQ a s O):O.length<=a.length:=by
 have:=rJ (l:=aj O) (m:=a) (vk o.nd) o.mem
 rwa [fS] at this
def oQ.F5(c:(a.map (·.1)).Nodup)(o:oQ a s O):((fI a a.length s).eraseDups.length=a.length↔O.length=a.length)/\(O.length=a.length->fI a a.length s=O):=by
 have r:=o.length_le;obtain⟨k,l⟩:∃k,a.length=O.length+k:=⟨a.length-O.length,by omega⟩
 have hw:fI a a.length s=O++fI a k s:=by rw[l];exact o.walk c k
 refine⟨⟨λh=>?_,λh=>?_⟩,λh=>?_⟩
 ·cases k with
  |zero=>omega
  |succ k=>
   exfalso;have g:∀(n:Nat)(p:Pt),(fI a n p).length<=n:=by
    intro n;induction n with
    |zero=>intro p;exact cs _
    |succ n q=>intro p;show(match a.find? (λ(f:Pt×Pt)=>f.1==p) with|none=>[]|some e=>p::fI a n e.2).length<=n+1;grind
   have d:(fI a a.length s).length<=a.length:=g _ _;have m:(fI a a.length s).eraseDups.length<=(fI a a.length s).length:=by have i:=AZ _ (fI a a.length s)<|cs _;exact rJ i<|by simp
   have nd:(fI a a.length s).Nodup:=AY.mp<|by omega
   rw[hw] at nd;obtain⟨t,j⟩:=o.hd;have e0:(s,t.headD s)∈a:=o.mem _<|by rw[j,jh];exact yc t s s
   have u:=Gb c e0;have:s∈fI a (k+1) s:=by show s∈(match a.find? (λ(f:Pt×Pt)=>f.1==s) with|none=>[]|some e=>s::fI a k e.2);grind
   grind
 ·have b:k=0:=by omega
  subst b;have:fI a 0 s=[]:=rfl;rw[hw,this,xh,xK o.nd];exact h
 ·have b:k=0:=by omega
  subst b;have:fI a 0 s=[]:=rfl;grind
def O5(t:tn u v w=0)(f:u≠v)(g:v≠w)(d:¬Bt u v w):w=u\/Bt u w v\/Bt v u w:=by
 have c:tn v u w=0:=by unfold tn at t ⊢;grind
 obtain⟨s,a⟩:=ow (ci f) c;have flip:∀k:Rat,At v u k=At u v (1-k):=λk=>by unfold At;grind
 rcases(by grind:s<0\/s=0\/(0<s/\s<1)\/s=1\/1<s) with h|h|⟨j,i⟩|h|h
 ·exfalso;refine d ⟨1/(1-s),?_,?_,?_⟩
  ·rw[tz,Rat.one_mul];exact lX.mpr<|by grind
  ·have b:=lX.mpr<|show 0<1-s by grind
   have e:(1-s)*(1-s)⁻¹=1:=nQ _<|by grind
   have:=pp (show 0< -s by grind) b;grind
  ·have e:(1-s)*(1-s)⁻¹=1:=nQ _<|by grind
   rw[a,flip];unfold At;grind
 ·exfalso;rw[h,ic] at a;grind
 ·right;left;exact⟨1-s,by grind,by grind,by grind⟩
 ·left;rw[h,iH] at a;exact a
 ·right;right;refine⟨1/s,?_,?_,?_⟩
  ·rw[tz,Rat.one_mul];exact lX.mpr<|by grind
  ·have b:=lX.mpr<|show 0<s by grind
   have e:s*s⁻¹=1:=nQ _<|by grind
   have:=pp (show 0<s-1 by grind) b;grind
  ·have e:s*s⁻¹=1:=nQ _<|by grind
   rw[a];unfold At;grind
def LL(h:Bt u w v):Ho (u,v) w:=by obtain⟨t,b,a,e⟩:=h;exact⟨t,by grind,a,e⟩
def bZ.yp(g:bZ r)(a:e∈aj r)(hw:w∈r)(h:uI e.1 w e.2):False:=by
 have:w∈(aj r).map (·.1):=by rw[kE];exact hw
 obtain⟨f,b,q⟩:=cY.mp this;have k:=g.uK a b (c:=io w) (LL h)<|by rw[<-q];exact fL<|ie f
 have:e.1=w:=by grind
 have:=(LF (ii<|g.iZ a) h).1;grind
def Jd(g:bZ a)(d:e∈aj (fine a b))(hw:w∈fine b a)(h:uI e.1 w e.2):False:=by
 refine(g.fine b).yp d ?_ h;rcases vz hw with q|q
 ·refine qp q ?_;have:HS ((aj a).map ie) (io w):=((g.rO b).ho).mpr ⟨ie e,xM d,LL h⟩;obtain⟨f,i,k⟩:=this;obtain⟨j,c,rfl⟩:=cY.mp i;unfold b_;rw[lV];exact⟨j,c,eY.mpr k.on⟩
 ·exact vh q
def yy{a b:aC}(f:bZ a)(e:bZ b):sE (cJ a b) where
 ne:=λu v h=>by
  rw[rV] at h;rcases eI.mp h with h|h;·exact(f.fine b).iZ (iG.mp h).1
  ·exact(e.fine a).iZ (iG.mp h).1
 nb:=λu v w d c t=>by
  rw[rV] at d c;have j:∀{a b:aC},bZ a->bZ b->(u,v)∈lo (aj (fine a b)) (aj (fine b a))->(v,w)∈lo (aj (fine b a)) (aj (fine a b))->uI u v w:=λ{a b}f e d c=>by
   obtain⟨i,k⟩:=iG.mp d;obtain⟨g,n⟩:=iG.mp c;apply gs;intro nb;have m:=(f.fine b).iZ i;have l:=(e.fine a).iZ g;rcases O5 (by rw[mi,t];rfl) (ii m) (ii l) nb with q|q|q
   ·have:w=u:=li q;subst this;exact k g
   ·exact Jd f i (j7 g) q
   ·exact Jd e g (g0 i) q
  rcases eI.mp d with d|d
  ·rcases eI.mp c with c|c;·exact(f.fine b).pV.nb u v w (iG.mp d).1 (iG.mp c).1 t
   grind
  ·rcases eI.mp c with c|c;·grind
   ·exact(e.fine a).pV.nb u v w (iG.mp d).1 (iG.mp c).1 t
def Iq(d:bZ a)(c:bZ b)(z:Q):ay z ((cJ a b).map ie)=(pr a z^^pr b z):=by rw[rV,W4 (d.fine b).nodup (c.fine a).nodup,(d.rO b).ay,(c.rO a).ay]
def UE(c:bZ a)(e:bZ b)(s:iR a b):cJ a b≠[]:=λq=>by
 obtain⟨z,d,h⟩:=c.Wy;have:=Iq c e z;rw[q,h] at this;have:pr b z=true:=by
  cases k:pr b z with
  |true=>rfl
  |false=>rw[k] at this;cases this
 exact s z d ⟨h,this⟩
def vq(x y:List (Pt×Pt)):(lo x y).length<=x.length:=w9 _ _
structure Yr(a b:aC):Prop where
 ne:cJ a b≠[]
 twice:¬((cJ a b).map (·.1)).Nodup->fh a b=none
 DY:((cJ a b).map (·.1)).Nodup->∀e l,cJ a b=e::l->∃O,oQ (cJ a b) e.1 O/\
  (O.length≠(cJ a b).length->fh a b=none)/\
  (O.length=(cJ a b).length->bare O≠[]/\fh a b=(if dz (tidy O)=true then some (tidy O) else none))
def LK{a b:aC}(n:bZ a)(j:bZ b)(s:iR a b):Yr a b where
 ne:=UE n j s
 twice:=λh=>by
  unfold fh;dsimp only;split;·rfl
  ·cases e:cJ a b with
   |nil=>rfl
   |cons x l=>dsimp only;rw[aL];rintro⟨k,_⟩;rw[e] at h;refine h<|AY.mp ?_;grind
 DY:=λi e l q=>by
  have F:=(n.fine b).nodup;have E:=(j.fine a).nodup;have M:∀f∈cJ a b,∃g∈cJ a b,g.1=f.2:=λf d=>QB F E d;have A:∀f∈cJ a b,∀g∈cJ a b,f.2=g.2->f=g:=λf d g D k=>Ru F E i d D k;have V:e∈cJ a b:=by grind
  obtain⟨O,o⟩:=Yg M A (s:=e.1) ⟨e,V,rfl⟩;refine⟨O,o,λh=>?_,λh=>⟨?_,?_⟩⟩
  ·unfold fh;dsimp only;split;·rfl
   ·have w:=(o.F5 i).1;grind
  ·have y:sE (aj O):=⟨λu v m=>(yy n j).ne u v<|o.mem _ m,λu v w R P=>(yy n j).nb u v w (o.mem _ R)<|o.mem _ P⟩
   refine(Bs y ?_).1;grind
  ·unfold fh;dsimp only;have N:(cJ a b).length≠(aj (fine a b)).length+(aj (fine b a)).length:=λk=>by
    have e1:lo (aj (fine a b)) (aj (fine b a))=aj (fine a b):=by have h1:=vq (aj<|fine a b)<|aj<|fine b a;have h2:=vq (aj<|fine b a)<|aj<|fine a b;rw[rV,jY] at k;exact jz.mpr<|Ej.mp<|show(lo (aj<|fine a b)<|aj<|fine b a).length=_ by omega
    have B:∀(t:List Pt)(u:Pt),u∈fine a b->(∀f∈sg u t,f∈cJ a b)->∀v∈t,v∈fine a b:=by
     intro t;induction t with
     |nil=>grind
     |cons x t T=>
      intro u U h v c;have W:(u,x)∈cJ a b:=h _ cc;have G:x∈fine a b:=by
       have:u∈(aj (fine a b)).map (·.1):=by rw[kE];exact U
       obtain⟨g,D,L⟩:=cY.mp this;have C:g∈cJ a b:=by rw[rV,e1];grind
       have:g=(u,x):=xG i C W L;have:=j7 D;grind
      rcases cO.mp c with rfl|c;·exact G
      ·exact T x G (λf d=>h f<|e8 _ d) v c
    obtain⟨t,I⟩:=o.hd;have H:e.1∈fine a b:=by
     have:∃f p,aj (fine a b)=f::p:=by
      cases z:aj (fine a b) with
      |nil=>have Y:=fS<|fine a b;have S:=(n.fine b).aX;grind
      |cons f p=>grind
     obtain⟨f,p,X⟩:=this;have:cJ a b=f::(p++lo (aj (fine b a)) (aj (fine a b))):=by rw[rV,e1,X];rfl
     rw[q] at this;have:=(n0 this).1;rw[this];exact g0<|by grind
    have r:∀v∈O,v∈fine a b:=λv c=>by
     rw[I] at c;rcases cO.mp c with rfl|c;·exact H
     ·refine B t e.1 H (λf d=>o.mem f ?_) v c;rw[I,jh,mZ];grind
    have:=rJ o.nd r;have S:=(j.fine a).aX;rw[fS,fS] at k;omega
   rw[aL N];obtain⟨K,J⟩:=o.F5 i;have hw:=J h;have hd:=K.mpr h;have Z:((cJ a b).map (·.1)).eraseDups.length=(cJ a b).length:=by have:=AY.mpr i;grind
   grind
def Gd(j:bZ a)(i:bZ b)(s:iR a b)(h:fh a b=some r):bZ r/\dz r=true/\∀c,iR a c->iR b c->iR r c:=by
 have J:=LK j i s;by_cases d:((cJ a b).map (·.1)).Nodup
 ·cases q:cJ a b with
  |nil=>exact cy q J.ne
  |cons e l=>
   obtain⟨O,o,W,M⟩:=J.DY d e l q;by_cases k:O.length=(cJ a b).length
   ·obtain⟨_,V⟩:=M k;rw[V] at h;by_cases D:dz (tidy O)=true
    ·rw[aM D] at h;have F:tidy O=r:=ta h;refine⟨by rw[<-F];exact FG D,by grind,λc U T z E⟨G,B⟩=>?_⟩;have p:sE (aj O):=⟨λu v m=>(yy j i).ne u v<|o.mem _ m,λu v w P N=>(yy j i).nb u v w (o.mem _ P)<|o.mem _ N⟩
     obtain⟨t,X⟩:=o.hd;have I:=(B8 p<|by grind).2.2 z;have H:(aj O).Perm (cJ a b):=by
      have L:(cJ a b).Nodup:=by unfold NT at d ⊢;rw[nR] at d;exact d.imp λ{x y}h q=>h<|by rw[q]
      refine(aap (vk o.nd) L).mpr λf=>⟨λm=>o.mem f m,λm=>?_⟩
      apply gs;intro K;have:=rJ (l:=f::aj O) (m:=cJ a b) (kW.mpr ⟨K,vk o.nd⟩) λg A=>by
       rcases cO.mp A with rfl|A;·exact m
       ·exact o.mem g A
      rw[dI,fS] at this;omega
     have C:=Iq j i z;rw[<-rM (H.map ie) z,<-I,F] at C;have n:ay z ((aj r).map ie)=true:=G;rw[n] at C;cases S:pr a z with
     |true=>exact U z E ⟨S,B⟩
     |false=>
      cases R:pr b z with
      |true=>exact T z E ⟨R,B⟩
      |false=>grind
    grind
   grind
 ·rw[J.twice d] at h;cases h
open Sy(besides area)
def k7(f:io p=At (io a) (io b) s)(d:io q=At (io a) (io b) t)(h:aY a b=true):aY p q=true↔s<t:=by
 rw[j8] at h ⊢;have l:(p.1:Rat)=(a.1:Rat)+s*((b.1:Rat)-(a.1:Rat)):=c9 l4 f;have j:(p.2:Rat)=(a.2:Rat)+s*((b.2:Rat)-(a.2:Rat)):=c9 kA f;have i:(q.1:Rat)=(a.1:Rat)+t*((b.1:Rat)-(a.1:Rat)):=c9 l4 d;have g:(q.2:Rat)=(a.2:Rat)+t*((b.2:Rat)-(a.2:Rat)):=c9 kA d;have r:(p.1<q.1)↔(p.1:Rat)<(q.1:Rat):=oK.symm;have o:(p.2<q.2)↔(p.2:Rat)<(q.2:Rat):=oK.symm;have n:(p.1=q.1)↔(p.1:Rat)=(q.1:Rat):=by simp
 rw[r,o,n,l,j,i,g];rcases h with h|⟨w,v⟩
 ·have c:0<(b.1:Rat)-(a.1:Rat):=by have:=oK.mpr h;grind
  constructor
  ·rintro(k|⟨k,u⟩)
   ·apply gs;intro m;have:=nn (show 0<=s-t by grind)<|show 0<=(b.1:Rat)-(a.1:Rat) by grind
    grind
   ·exfalso;have e:(s-t)*((b.1:Rat)-(a.1:Rat))=0:=by grind
    rcases Rat.mul_eq_zero.mp e with z|z;·grind
    ·grind
  ·intro k;left;have:=pp (show 0<t-s by grind) c;grind
 ·have x:(b.1:Rat)=(a.1:Rat):=by rw[w]
  have c:0<(b.2:Rat)-(a.2:Rat):=by have:=oK.mpr v;grind
  constructor
  ·rintro(k|⟨k,u⟩);·grind
   ·apply gs;intro m;have:=nn (show 0<=s-t by grind)<|show 0<=(b.2:Rat)-(a.2:Rat) by grind
    grind
  ·intro k;right;have:=pp (show 0<t-s by grind) c;grind
def vi(n:a≠b):aY a b=true\/aY b a=true:=by rw[j8,j8];grind
def o9(h:aY a b=true):aY b a=false:=by rw[j8] at h;rw[mK];intro k;rw[j8] at k;omega
def v9(n:a≠b)(d:io p=At (io a) (io b) s)(c:io q=At (io a) (io b) t):iq a b p<=iq a b q↔s<=t:=by
 have e1:=zt d;have e:=zt c;have k:=Dk<|ii n;rw[<-fD,e1,e];constructor
 ·intro h;apply gs;intro f;have:=pp (show 0<s-t by grind) k;grind
 ·intro h;have:=nn (show 0<=t-s by grind)<|show 0<=sq (io a) (io b) by grind
  grind
def Fq(n:a≠b){T:List Pt}(c:∀p∈S,bN a b p=true/\p≠a/\p≠b)(f:S.Perm T)(u:S.Pairwise λp q=>iq a b p<=iq a b q)(r:T.Pairwise λp q=>iq a b p<=iq a b q):S=T:=by
 refine Al (le:=λp q=>iq a b p<=iq a b q) (λp q e d w v=>?_) u r f;obtain⟨o,m,l⟩:=c p e;obtain⟨k,j,i⟩:=c q<|f.mem_iff.mpr d;obtain⟨s,_,_,h⟩:=qt o m l;obtain⟨t,_,_,g⟩:=qt k j i;have z:=(v9 n h g).mp w;have y:=(v9 n g h).mp v;have:s=t:=by grind
 exact li<|by grind
def WV(n:a≠b)(y:c.Nodup)(z:S.Perm (c.filter λp=>(p != a&&p != b)&&bN a b p))(x:S.Pairwise λp q=>aY q p=false):
 ei c (a,b)=if aY b a=true then S.reverse else S:=by
 have d:∀p∈S,bN a b p=true/\p≠a/\p≠b:=by grind
 have w:(ei c (a,b)).Perm S:=by refine(Aq _ _).trans<|aa1 ?_ z.symm;rw[xK y];grind
 have e:∀p∈ei c (a,b),bN a b p=true/\p≠a/\p≠b:=by grind
 by_cases h:aY b a=true
 ·rw[aM h];refine Fq n e (w.trans S.reverse_perm.symm) (xU c (a,b)) ?_;rw[List.pairwise_reverse];refine(Z6.mp x).imp λ{p q}⟨v,u,k⟩=>?_;obtain⟨r,o,m⟩:=d p v;obtain⟨l,j,i⟩:=d q u;obtain⟨s,_,_,g⟩:=qt r o m;obtain⟨t,_,_,f⟩:=qt l j i;refine(v9 n f g).mpr ?_;have flip:∀k:Rat,At (io a) (io b) k=At (io b) (io a) (1-k):=λk=>by unfold At;grind
  rw[flip] at g f;have:=k7 f g h;grind
 ·have A:aY a b=true:=(vi n).resolve_right h;rw[aL h];refine Fq n e w (xU c (a,b)) ?_;refine(Z6.mp x).imp λ{p q}⟨v,u,k⟩=>?_;obtain⟨r,o,m⟩:=d p v;obtain⟨l,j,i⟩:=d q u;obtain⟨s,_,_,g⟩:=qt r o m;obtain⟨t,_,_,f⟩:=qt l j i;refine(v9 n g f).mpr ?_;have:=k7 f g A;grind
def OL(a b c d:Pt):dZ a b c d=(decide (bc a b c*bc a b d<0)&&decide (bc c d a*bc c d b<0)):=by
 have g:∀x y:Int,(x*y<0)↔(x<0/\0<y)\/(0<x/\y<0):=λx y=>by
  constructor
  ·intro h;rcases Nj x 0 with f|f|f
   ·rcases Nj y 0 with e|e|e;·exact cy (Int.mul_pos_of_neg_of_neg f e)<|by omega
    ·grind
    omega
   ·grind
   ·rcases Nj y 0 with e|e|e;·omega
    ·grind
    ·exact cy (Int.mul_pos f e)<|by omega
  ·rintro(⟨f,e⟩|⟨f,e⟩);·exact Int.mul_neg_of_neg_of_pos f e
   ·exact Int.mul_neg_of_pos_of_neg f e
 rw[mM,A9];simp_all
def B2(a b c:Pt):bc b c a=bc a b c:=by unfold bc;grind
def xH(h:bc a b c≠0):bN a b c=false:=by rw[mK];intro k;exact h (rK.mp k).1
abbrev im:Pt×Pt:=((0,0),(0,0))
def pw(b:List (Pt×Pt))(a:Bool):Prop:=∀i j,i+2<=j->j<(if(a&&i==0)=true then b.length-1 else b.length)->
 dj (b.getD i im).1 (b.getD i im).2 (b.getD j im).1 (b.getD j im).2=false
def cp:Pt->List Pt->Pt->List (Pt×Pt×Pt)
 |_,[],_=>[]
 |x,v::l,n=>(x,v,l.headD n)::cp v l n
def fU(r:aC):List (Pt×Pt×Pt):=(r.drop (r.length-1)++r.take (r.length-1)).zip<|r.zip<|r.drop 1++r.take 1
def LJ:∀(l:List Pt)(x n:Pt),bp x l n=((cp x l n).filter λc=>!decide (bc c.1 c.2.1 c.2.2=0)).map λc=>c.2.1
 |[],x,n=>rfl
 |v::l,x,n=>by show(if bc x v (l.headD n)=0 then bp v l n else v::bp v l n)=_;rw[LJ l v n];show _=(((x,v,l.headD n)::cp v l n).filter _).map _;grind
def K2:∀(l:List Pt)(x n z:Pt),cp x (l++[z]) n=(x::l).zip ((l++[z]).zip (l.drop 0 |>.append [z] |>.drop 1 |>.append [n]))
 |[],x,n,z=>rfl
 |v::l,x,n,z=>by
  have a:=K2 l v n z;have b:(l++[z]).headD n=(l++[z]).headD z:=by grind
  show(x,v,(l++[z]).headD n)::cp v (l++[z]) n=_;rw[a];cases l<;>rfl
def OV(a:Pt)(l:List Pt):fU (a::l)=cp (fin a l) (a::l) a:=by
 rcases List.eq_nil_or_concat l with h|⟨m,z,h⟩;·subst h;rfl
 ·subst h;rw[List.concat_eq_append];have e1:a::(m++[z])=(a::m)++[z]:=rfl;rw[e1,K2,l8];unfold fU;simp
def A4(r:aC):bare r=((fU r).filter λc=>!decide (bc c.1 c.2.1 c.2.2=0)).map λc=>c.2.1:=by
 cases r with
 |nil=>rfl
 |cons a l=>rw[tX,OV,LJ]
def vg(r:aC):(fU r).length=r.length:=by unfold fU;grind
def Ic:bare r=r↔∀c∈fU r,bc c.1 c.2.1 c.2.2≠0:=by
 constructor
 ·intro h;have a:=c9 u6 h;rw[A4,bS] at a;have:((fU r).filter λc=>!decide (bc c.1 c.2.1 c.2.2=0)).length=(fU r).length:=by rw[a,vg]
  have:=Ej.mp this;grind
 ·intro h;rw[A4,jz.mpr<|by grind];unfold fU;apply abN;·grind
  grind
def OE(a:m∈b)(lo:∀q∈b,aY q m=false):eJ b=b.idxOf m:=by
 have:∃X Y,b=X++m::Y/\m∉X:=by
  clear lo;induction b with
  |nil=>cases a
  |cons x b c=>
   by_cases q:x=m;·exact⟨[],b,by grind,by simp⟩
   grind
 obtain⟨X,Y,rfl,n⟩:=this;rw[Bi lo n,A6 n]
def Hl(j:r≠[]):tidy r=r↔(∀c∈fU r,bc c.1 c.2.1 c.2.2≠0)/\∀q∈r,aY q (r.headD (0,0))=false:=by
 constructor
 ·intro h;have d:=c9 u6 h;unfold tidy at d;dsimp only at d;rw[A0] at d;have g:bare r=r:=(yx r).eq_of_length d;refine⟨Ic.mp g,λq f=>?_⟩;have i:de r (eJ r)=r:=by unfold tidy at h;grind
  obtain⟨m,o,lo⟩:=tW r j;have n:∃X Y,r=X++m::Y/\m∉X:=by
   clear lo i g d h j f;induction r with
   |nil=>cases o
   |cons x b t=>
    by_cases q:x=m;·exact⟨[],b,by grind,by simp⟩
    grind
  obtain⟨X,Y,e,k⟩:=n;rw[e] at lo i f ⊢;rw[vn lo k] at i;grind
 ·rintro⟨s,p⟩;have g:bare r=r:=Ic.mpr s;unfold tidy;dsimp only;rw[g];cases r with
  |nil=>rfl
  |cons a l=>
   have:=Bi (X:=[]) (Y:=l) (m:=a) (λq f=>p q f)<|by simp
   show de (a::l) (eJ<|[]++a::l)=_;rw[this];simp[de]
def G0(h:i<r.length):(r.getD ((i+r.length-1)%r.length) (0,0),r.getD i (0,0),r.getD ((i+1)%r.length) (0,0))∈fU r:=by
 have c:i<(fU r).length:=by rw[vg];exact h
 have:(fU r)[i]=(r.getD ((i+r.length-1)%r.length) (0,0),r.getD i (0,0),r.getD ((i+1)%r.length) (0,0)):=by
  have a:i<((r.drop (r.length-1)++r.take (r.length-1)).zip (r.zip (r.drop 1++r.take 1))).length:=c;show((r.drop (r.length-1)++r.take (r.length-1)).zip<|r.zip<|r.drop 1++r.take 1)[i]'a=_;rw[EM];have d:=qD r i (by rw[fS];exact h) h;have b:(r.zip (r.drop 1++r.take 1))[i]'(by grind)=(r[i],r.getD ((i+1)%r.length) (0,0)):=d;rw[b];have g:r[i]=r.getD i (0,0):=by grind
  rw[g];refine f7 ?_ rfl;show(r.drop (r.length-1)++r.take (r.length-1))[i]'_=_;by_cases q:i=0
  ·subst q;rw[aaB (by grind),Nd];rw[show(0+r.length-1)%r.length=r.length-1 by simp];grind
  ·rw[aau (by grind),abw];have:(i+r.length-1)%r.length=i-1:=by rw[show i+r.length-1=(i-1)+r.length by omega,Ni];exact th<|by omega
   grind
 grind
def yj(h:i<r.length):(aj r).getD i im=(r.getD i (0,0),r.getD ((i+1)%r.length) (0,0)):=by
 have a:i<(aj r).length:=by rw[fS];exact h
 rw[iV,d9 a];show(aj r)[i]=_;rw[qD r i a h];grind
def P5(r:aC):dz r=true↔3<=r.length/\r.length<=64/\(∀p∈r,(0<=p.1/\p.1<=1000000)/\0<=p.2/\p.2<=1000000)/\(∀q∈r,aY q (r.headD (0,0))=false)/\0<bR r/\
 (∀c∈fU r,bc c.1 c.2.1 c.2.2≠0)/\pw (aj r) true:=by
 unfold dz Sy.RING Sy.FAR;simp only[dc,eg,iu,beq_iff_eq];have f:(∀x∈r,0<=x.1/\x.1<=((1000000:Nat):Int)/\0<=x.2/\x.2<=((1000000:Nat):Int))↔∀p∈r,(0<=p.1/\p.1<=1000000)/\0<=p.2/\p.2<=1000000:=by grind
 have d:3<=r.length->(∀c∈fU r,bc c.1 c.2.1 c.2.2≠0)->(j5 r=true↔pw (aj r) true):=λk y=>by
  unfold j5 pw;dsimp only;simp only[iu,nZ,fS];constructor;·grind
  ·intro h i w j D;have e:j<r.length:=by omega
   by_cases q:i=j+1
   ·rw[aM q,yj e,yj w];have e1:(j+1)%r.length=j+1:=th<|by omega
    have c:=G0 (r:=r) (i:=j+1)<|by omega
    have n:(j+1+r.length-1)%r.length=j:=by rw[show j+1+r.length-1=j+r.length by omega,Ni];exact th e
    have t:=y _ c;rw[n] at t;subst q;rw[e1];dsimp only at t ⊢;rw[xH t,xH<|by rw[B2];exact t];rfl
   ·rw[aL q];by_cases s:j=0/\i+1=r.length
    ·rw[aM s,yj e,yj w];obtain⟨A,C⟩:=s;subst A;have c:=G0 (r:=r) (i:=0)<|by omega
     have e1:(i+1)%r.length=0:=by simp_all
     have n:(0+r.length-1)%r.length=i:=by rw[NJ,th<|by omega];omega
     have t:=y _ c;rw[n] at t;rw[e1];dsimp only at t ⊢;rw[xH (a:=r.getD 0 (0,0)) (b:=r.getD ((0+1)%r.length) (0,0)) (c:=r.getD i (0,0)) (by rw[B2];exact t),xH t];rfl
    grind
 constructor
 ·rintro⟨k,g,v,u,z,B⟩;have m:r≠[]:=by grind
  obtain⟨l,o⟩:=(Hl m).mp B;grind
 ·rintro⟨k,g,v,o,z,l,u⟩;have m:r≠[]:=by grind
  exact⟨k,g,f.mpr v,(d k l).mpr u,z,(Hl m).mpr ⟨l,o⟩⟩
def sJ(a b c:Pt):Int:=(b.1-a.1)*(c.1-b.1)+(b.2-a.2)*(c.2-b.2)
def lF(a b c:Pt):Bool:=decide (bc a b c=0)&&decide (sJ a b c<=0)
def CG(a b c:Pt):((sJ a b c:Int):Rat)=((b.1:Rat)-a.1)*((c.1:Rat)-b.1)+((b.2:Rat)-a.2)*((c.2:Rat)-b.2):=by unfold sJ;grind
def tN(h:bN u v w=true\/bN v w u=true):lF u v w=true:=by
 unfold lF;rw[dc,eg,eg];have b:∀x:Rat,0<=x*x:=λx=>by
  rcases(by grind:x<0\/0<=x) with h|h;·have:=mm h h;grind
  ·exact nn h h
 rcases h with h|h
 ·refine⟨(rK.mp h).1,?_⟩;obtain⟨t,c,d,e1,a⟩:=eY.mp h;have e1:(w.1:Rat)=(u.1:Rat)+t*((v.1:Rat)-u.1):=e1;have a:(w.2:Rat)=(u.2:Rat)+t*((v.2:Rat)-u.2):=a;have:((sJ u v w:Int):Rat)<=((0:Int):Rat):=by rw[CG,e1,a];have f:=nn (show 0<=1-t by grind)<|b<|(v.1:Rat)-u.1;have e:=nn (show 0<=1-t by grind)<|b<|(v.2:Rat)-u.2;grind
  exact fD.mp this
 ·refine⟨by rw[<-B2];exact(rK.mp h).1,?_⟩;obtain⟨t,c,d,e1,a⟩:=eY.mp h;have e1:(u.1:Rat)=(v.1:Rat)+t*((w.1:Rat)-v.1):=e1;have a:(u.2:Rat)=(v.2:Rat)+t*((w.2:Rat)-v.2):=a;have:((sJ u v w:Int):Rat)<=((0:Int):Rat):=by rw[CG,e1,a];have f:=nn c<|b<|(w.1:Rat)-v.1;have e:=nn c<|b<|(w.2:Rat)-v.2;grind
  exact fD.mp this
def OJ(d:u≠v)(o:v≠w)(h:lF u v w=true):bN u v w=true\/bN v w u=true:=by
 unfold lF at h;rw[dc,eg,eg] at h;obtain⟨l,j⟩:=h;have f:tn (io v) (io u) (io w)=0:=by
  have:tn (io u) (io v) (io w)=0:=by rw[mi,l];rfl
  unfold tn at this ⊢;grind
 obtain⟨s,b⟩:=ow (ii<|ci d) f;have e1:(w.1:Rat)=(v.1:Rat)+s*((u.1:Rat)-v.1):=c9 l4 b;have m:(w.2:Rat)=(v.2:Rat)+s*((u.2:Rat)-v.2):=c9 kA b;have g:=Dk<|ii d;have p:0<=s:=by have a:((sJ u v w:Int):Rat)<=((0:Int):Rat):=fD.mpr j;rw[CG,e1,m] at a;have z:(((0:Int)):Rat)=0:=rfl;rw[z] at a;have c:0<((v.1:Rat)-u.1)*((v.1:Rat)-u.1)+((v.2:Rat)-u.2)*((v.2:Rat)-u.2):=g;apply gs;intro n;have:=pp (show 0< -s by grind) c;grind
 have flip:∀k:Rat,At (io v) (io u) k=At (io u) (io v) (1-k):=λk=>by unfold At;grind
 by_cases h:s<=1
 ·left;rw[eY,b,flip];exact nv _ _ (by grind)<|by grind
 ·right;rw[eY];have e:s*s⁻¹=1:=nQ _<|by grind
  have i:=lX.mpr<|show 0<s by grind
  have:io u=At (io v) (io w) s⁻¹:=by rw[b];unfold At;grind
  rw[this];refine nv _ _ (by grind) ?_;have:=pp (show 0<s-1 by grind) i;grind
abbrev wg(w:List Pt)(j:Nat):Pt:=w.getD j (0,0)
def C4(w:List Pt):Prop:=∀j,j+2<w.length->lF (wg w j) (wg w (j+1)) (wg w (j+2))=false
def free(r:aC)(p q:Pt)(s:Pt×Pt):Bool:=(aj r).all (λe=>!dZ s.1 s.2 e.1 e.2&&!((e.1 != p&&e.1 != q)&&bN s.1 s.2 e.1))&&cB (twice r) (fK s.1 s.2)
def qm(w:List Pt):(dN w).length=w.length-1:=by unfold dN;grind
def qo(h:j+1<w.length):(dN w).getD j im=(wg w j,wg w<|j+1):=by
 have b:j<(dN w).length:=by rw[qm];omega
 rw[iV,d9 b];have a:j<(w.zip (w.drop 1)).length:=b;show(w.zip<|w.drop 1)[j]'a=_;grind
def xI:s∈dN w↔∃j,j+1<w.length/\s=(wg w j,wg w (j+1)):=by
 constructor
 ·intro h;obtain⟨j,a,e⟩:=Eu.mp h;have b:=a;rw[qm] at b;refine⟨j,by omega,?_⟩;rw[<-qo (by omega),iV,d9 a,e];rfl
 ·rintro⟨j,a,e⟩;have c:j<(dN w).length:=by rw[qm];omega
  rw[e,<-qo a,iV,d9 c];grind
def ID(a b:Pt):bN a b a=true:=eY.mpr ⟨0,by grind,by grind,by grind,by grind⟩
def V4(a b:Pt):bN a b b=true:=eY.mpr ⟨1,by grind,by grind,by grind,by grind⟩
def JQ(h:bN a b c=true\/bN a b d=true\/bN c d a=true\/bN c d b=true):dj a b c d=true:=by unfold dj;grind
def N8(h:v∈r):b_ r v=true:=by
 have:v∈(aj r).map (·.1):=by rw[kE];exact h
 obtain⟨e,a,q⟩:=cY.mp this;unfold b_;rw[lV];exact⟨e,a,by rw[<-q];exact ID _ _⟩
def G8(r:aC)(w:List Pt):dJ r w=true↔2<=w.length/\w.length<=20/\w.headD (0,0)≠w.getLastD (0,0)/\b_ r (w.headD (0,0))=true/\b_ r (w.getLastD (0,0))=true/\
 (∀v∈(w.drop 1).dropLast,cB r v=true)/\C4 w/\pw (dN w) false/\∀s∈dN w,free r (w.headD (0,0)) (w.getLastD (0,0)) s=true:=by
 unfold dJ;dsimp only;simp only[dc,eg,iu,bne_iff_ne,nZ,qm,h_,oX,beq_iff_eq];refine xF λX=>xF λV=>xF λg=>xF λO=>xF λN=>xF λh=>?_;obtain⟨p,W,q,rfl,e1,e2,e3⟩:=Iy X;rw[e1] at g O ⊢;rw[e2] at g N ⊢;rw[e3] at h;generalize hw:p::(W++[q])=w at *;have G:w.length=W.length+2:=by grind
 have w0:wg w 0=p:=by grind
 have wl:wg w (W.length+1)=q:=by grind
 have J:∀j,0<j->j<W.length+1->wg w j∈W:=λj h0 t=>by
  cases j with
  |zero=>omega
  |succ j=>grind
 have D:∀i j,i+2<=j->j<w.length-1->(dj ((dN w).getD i im).1 ((dN w).getD i im).2 ((dN w).getD j im).1 ((dN w).getD j im).2=dj (wg w i) (wg w (i+1)) (wg w j) (wg w (j+1))):=λi j t C=>by rw[qo (by omega),qo<|by omega]
 constructor
 ·rintro⟨d,F⟩;have x:∀j,j+1<w.length->wg w j≠wg w (j+1):=λj a=>(d _<|xI.mpr ⟨j,a,rfl⟩).1;refine⟨λj a=>?_,λi j P a=>?_,λs n=>?_⟩
  ·have:=F (j+1) (by omega) j<|by omega
   rw[aM rfl,qo (by omega),qo<|by omega] at this;rw[mK];intro k;rw[dc,h_,h_] at this;rcases OJ (x j<|by omega) (x (j+1)<|by omega) k with o|o;·grind
   grind
  ·rw[aL (by simp),qm] at a;have:=F j (by omega) i<|by omega
   rw[aL<|by omega] at this;grind
  ·obtain⟨t,C,U,T⟩:=d s n;unfold free;rw[dc];refine⟨?_,C⟩;rw[iu];intro e l;rw[U e l];cases k:((e.1 != p&&e.1 != q)&&bN s.1 s.2 e.1) with
   |false=>rfl
   |true=>
    exfalso;simp only[dc,bne_iff_ne] at k;obtain⟨⟨k1,y⟩,k3⟩:=k;obtain⟨j,a,H⟩:=xI.mp n;have b:∀v,v∈W->v∈r->False:=λv B M=>by have:=h v B;rw[xX,dc,h_] at this;rw[N8 M] at this;grind
    have I:∀i,i<w.length->wg w i=e.1->False:=λi R q=>by
     by_cases z0:i=0;·grind
     ·by_cases z1:i=W.length+1;·grind
      ·exact b e.1 (by rw[<-q];exact J i (by omega)<|by omega)<|g0 l
    rcases T e.1 (g0 l) with z|z|z;·grind
    ·grind
    grind
 ·rintro⟨m,n,S⟩;have c:∀i j,i+2<=j->j+1<w.length->dj (wg w i) (wg w (i+1)) (wg w j) (wg w (j+1))=false:=λi j t C=>by
   have:=n i j t<|by rw[aL (by simp),qm];omega
   grind
  have x:∀j,j+1<w.length->wg w j≠wg w (j+1):=λj a k=>by
   by_cases z:j+2<w.length
   ·have:=m j z;rw[tN<|.inr<|by rw[<-k];exact ID _ _] at this;grind
   ·by_cases z2:0<j
    ·obtain⟨i,rfl⟩:∃i,j=i+1:=⟨j-1,by omega⟩
     have:=m i<|by omega
     rw[tN<|.inl<|by rw[show i+2=i+1+1 by omega,<-k];exact V4 _ _] at this;grind
    grind
  refine⟨λs d=>?_,λi R j a=>?_⟩
  ·have f:=S s d;unfold free at f;rw[dc,iu] at f;obtain⟨Z,Y⟩:=f;obtain⟨j,a,H⟩:=xI.mp d;have u:∀e∈aj r,dZ s.1 s.2 e.1 e.2=false:=by grind
   refine⟨by grind,Y,u,λv B=>?_⟩;have:v∈(aj r).map (·.1):=by rw[kE];exact B
   obtain⟨e,l,K⟩:=cY.mp this;have k:=Z e l;rw[dc,h_,h_] at k;have y:=k.2;rw[K] at y;cases o:bN s.1 s.2 v with
   |false=>grind
   |true=>
    rw[o,E3] at y;have A:v=p\/v=q:=by grind
    rw[H] at o ⊢;dsimp only at o ⊢;rcases A with z|z
    ·
     rw[z] at o ⊢;by_cases L:j=0;·grind
     ·exfalso;by_cases E:j=1
      ·subst E;have:=m 0<|by omega
       rw[tN<|.inr<|by grind] at this;grind
      ·have:=c 0 j (by omega) a;rw[JQ<|by grind] at this;grind
    ·rw[z] at o ⊢;by_cases L:j+1=W.length+1;·grind
     ·exfalso;by_cases E:j+2=W.length+1
      ·have:=m j<|by omega
       rw[tN<|by grind] at this;grind
      ·have:=c j W.length (by omega)<|by omega
       rw[JQ<|by grind] at this;grind
  ·by_cases q:i=j+1
   ·rw[aM q,qo (by omega),qo<|by omega];subst q;have:=m j<|by omega
    rw[dc,h_,h_];constructor
    ·rw[mK];intro k;rw[tN<|.inl k] at this;grind
    ·rw[mK];intro k;rw[tN<|.inr k] at this;grind
   ·rw[aL q];have:=c j i (by omega)<|by omega
    grind
def iQ(r:aC)(a b:Pt):List Pt:=let t:=r.drop (r.idxOf a+1)++r.take (r.idxOf a)
 t.take (t.idxOf b)
def yd{X:List Pt}(c:a∉F)(f:G++F=X++b::Y)(e:b∉X):iQ (F++a::G) a b=X:=by
 unfold iQ;dsimp only;rw[A6 c];have d:(F++a::G).drop (F.length+1)=G:=by simp
 grind
def m5.iQ(g:bZ r)(o:m5 r p q X Y)(v:p∈fine r [p,q]):iQ (fine r [p,q]) p q=X/\Ld.iQ (fine r [p,q]) q p=Y:=by
 have t:=(g.fine [p,q]).nodup;obtain⟨b,h,a,l,z⟩:=Bb t v;have y:(fine r [p,q]).idxOf p=b.length:=by rw[a];exact A6 l
 have w:de (fine r [p,q]) ((fine r [p,q]).idxOf p)=p::(h++b):=by rw[y];unfold de;rw[a];simp
 have e:h++b=X++q::Y:=by have:=o.Me;rw[w] at this;exact(n0 this).2
 have d:=o.i8.nodup;have c:(X++q::Y).Nodup:=(kW.mp d).2;have pn:p∉X++q::Y:=(kW.mp d).1;have i:q∉X:=λm=>(s_.mp c).2.2 q m q cc rfl;have s:q∉Y:=(kW.mp (s_.mp c).2.1).1;refine⟨by rw[a];exact yd l e i,?_⟩;have j:p∉Y:=λm=>pn<|nM _<|e8 _ m;rcases List.append_eq_append_iff.mp e with⟨A,e1,f⟩|⟨A,e1,f⟩
 ·
  have:fine r [p,q]=A++q::(Y++p::h):=by rw[a,f];simp
  rw[this];refine yd (λm=>i<|by grind) (X:=Y) (Y:=X) ?_ j;rw[e1];simp
 ·
  cases A with
  |nil=>
   have k:q::Y=b:=f;have:fine r [p,q]=[]++q::(Y++p::h):=by rw[a,<-k];simp
   rw[this];refine yd (by simp) (X:=Y) (Y:=X) ?_ j;rw[e1];simp
  |cons x A=>
   have u:q=x:=(n0 f).1;have n:Y=A++b:=(n0 f).2;subst u;have:fine r [p,q]=(b++p::X)++q::A:=by rw[a,e1];simp
   rw[this];refine yd (λm=>?_) (X:=Y) (Y:=X) (by rw[n];simp) j;rcases eI.mp m with m|m;·exact s<|by rw[n];exact nM _ m
   ·rcases cO.mp m with m|m;·rw[m] at pn;exact pn<|nM _ cc
    ·exact i m
def TN{r:aC}(g:bZ r){w:List Pt}(h:dJ r w=true){p q:Pt}(i:w.headD (0,0)=p)(s:w.getLastD (0,0)=q):
 let f:=fine r [p,q]
 bare (w++iQ f q p)≠[]/\bare (w.reverse++iQ f p q)≠[]/\(tidy<|w++iQ f q p,tidy<|w.reverse++iQ f p q)=cut r w:=by
 obtain⟨b,W,a,rfl,_,c⟩:=KC h;have e1:b=p:=i;have l:a=q:=by grind
 subst e1 l;obtain⟨X,Y,o⟩:=lj g c.pq c.DZ c.Md;have C:=c.Ky g o;obtain⟨n,m⟩:=o.iQ g<|qp (by simp) c.DZ;dsimp only;rw[n,m];have k:b::(W++[a])++Y=(b::W)++(a::Y):=by simp
 have j:(b::(W++[a])).reverse++X=(a::W.reverse)++(b::X):=by simp
 rw[k,j];have e:(bare ((b::W)++(a::Y))).Nodup:=by have:((b::W)++(a::Y)).Nodup:=(Et.nodup_iff).mp C.gl.nodup;exact(yx _).nodup this
 have d:(bare ((a::W.reverse)++(b::X))).Nodup:=by have:((a::W.reverse)++(b::X)).Nodup:=(Et.nodup_iff).mp C.gr.nodup;exact(yx _).nodup this
 refine⟨?_,?_,?_⟩;·exact(C.gl.nw<|vo (b::W)<|a::Y).Cn
 ·exact(C.gr.nw<|vo (a::W.reverse)<|b::X).Cn
 ·rw[GR e,GR d,C.eq]
def jr(p q:Pt):Pt:=if aY p q=true then q else p
def jq(p q:Pt):Pt:=if aY q p=true then q else p
def iI(a b c d:Pt):Bool:=if bc a b c≠0\/bc a b d≠0 then false else if aY a b=aY c d then false else aY (jr (jq a b)<|jq c d) (jq (jr a b)<|jr c d)
def A3(h:g∈aj (fine a b)):∃e∈aj a,g∈sg e.1 (ei b e++[e.2]):=by rw[FQ,EL] at h;exact h
def F8(n:a≠b):∀(l:List Pt)(x:Pt)(t:Rat),io x=At (io a) (io b) t->0<=t->t<1->(∀p∈l,∃s:Rat,t<s/\s<1/\io p=At (io a) (io b) s)->l.Pairwise (λp q=>iq a b p<=iq a b q/\p≠q)->
 ∀g∈sg x (l++[b]),∃s u:Rat,0<=s/\s<u/\u<=1/\io g.1=At (io a) (io b) s/\io g.2=At (io a) (io b) u
 |[],x,t,i,e,d,_,_,g,c=>by
  have:g=(x,b):=by simpa [sg] using c
  subst this;exact⟨t,1,e,d,by grind,i,(iH _ _).symm⟩
 |p::l,x,t,i,e,d,h,hw,g,c=>by
  obtain⟨s,C,w,m⟩:=h p cc;obtain⟨r,o⟩:=iX.mp hw;rcases cO.mp (show g∈(x,p)::sg p (l++[b]) from c) with rfl|c;·grind
  ·refine F8 n l p s m (by grind) w (λq f=>?_) o g c;obtain⟨u,B,v,j⟩:=h q<|e8 _ f;obtain⟨A,y⟩:=r q f;refine⟨u,?_,v,j⟩;have k:=(v9 n m j).mp A;have D:s≠u:=λz=>y<|li<|by grind
   grind
def Ba(n:e.1≠e.2)(h:g∈sg e.1 (ei a e++[e.2])):∃s u:Rat,0<=s/\s<u/\u<=1/\io g.1=At (io e.1) (io e.2) s/\io g.2=At (io e.1) (io e.2) u:=by refine F8 n (ei a e) e.1 0 (ic _ _).symm (by grind) (by grind) (λp b=>?_) ((xU a e).and<|Hk a e) g h;obtain⟨_,f,d,c⟩:=yI.mp b;exact qt f d c
def Hz(i:s<r)(h:r<t)(f:x=At a b s)(g:w=At a b r)(d:y=At a b t):Bt x w y:=by
 have e:(t-s)*(t-s)⁻¹=1:=nQ _<|by grind
 have c:=lX.mpr<|show 0<t-s by grind
 refine⟨(r-s)*(t-s)⁻¹,pp (by grind) c,?_,?_⟩
 ·have:=pp (show 0<t-r by grind) c;grind
 ·rw[f,g,d];unfold At;grind
def QK(h:Bt x w y)(n:x≠y)(g:On c d x)(f:On c d y):Bt c w d:=by
 obtain⟨k,a,s,e⟩:=h;obtain⟨p,r,o,j⟩:=yW g;obtain⟨q,m,l,i⟩:=yW f;have b:p≠q:=λz=>n<|by grind
 refine⟨p+k*(q-p),?_,?_,?_⟩
 ·rcases(by grind:p<q\/q<p) with z|z;·have:=pp a (show 0<q-p by grind);grind
  ·have:=pp (show 0<1-k by grind) (show 0<p-q by grind);grind
 ·rcases(by grind:p<q\/q<p) with z|z;·have:=pp (show 0<1-k by grind) (show 0<q-p by grind);grind
  ·have:=pp a (show 0<p-q by grind);grind
 ·rw[e,j,i];unfold At;grind
def FH(j:bZ a)(W:bZ b)(p:e∈aj a)(V:f∈aj b)(st:s<t)(U:0<=s)(T:t<=1)(N:io P=At (io e.1) (io e.2) s)(M:io R=At (io e.1) (io e.2) t)(Y:bN f.1 f.2 P=true)(X:bN f.1 f.2 R=true)(S:P∈a\/P∈b)(O:R∈a\/R∈b):(P,R)∈aj (fine a b):=by
 have K:=j.iZ p;have n:∀Z:Pt,∀z:Rat,0<=z->z<=1->io Z=At (io e.1) (io e.2) z->b_ a Z=true:=λZ z l D x=>by unfold b_;rw[lV];exact⟨e,p,eY.mpr<|by rw[x];exact nv _ _ l D⟩
 have mP:P∈fine a b:=S.elim vh λh=>qp h<|n P s U (by grind) N;have mR:R∈fine a b:=O.elim vh λh=>qp h<|n R t (by grind) T M;have G:P≠R:=λq=>by
  have:=kd (ii K) (s:=s) (t:=t)<|by grind
  grind
 let m:=(s+t)/2;have m0:s<m:=by grind
 have m1:m<t:=by grind
 have L:Ho (ie e) (At (io e.1) (io e.2) m):=⟨m,by grind,by grind,rfl⟩
 obtain⟨g',J,k⟩:=((j.rO b).ho).mp ⟨ie e,xM p,L⟩;obtain⟨g,y,rfl⟩:=cY.mp J;obtain⟨i,o,I⟩:=A3 y;obtain⟨u,v,u0,uv,v1,B,A⟩:=Ba (j.iZ o) I;have ee:i=e:=by
  obtain⟨z,l,D,x⟩:=k;refine j.uK o p (c:=At (io e.1) (io e.2) m) ⟨u+z*(v-u),?_,?_,?_⟩ L;·have:=nn l (show 0<=v-u by grind);grind
  ·have:=pp (show 0<1-z by grind) (show 0<v-u by grind);grind
  ·rw[x];show At (io g.1) (io g.2) z=At (io i.1) (io i.2) (u+z*(v-u));rw[B,A];unfold At;grind
 subst ee;have um:u<=m/\m<v:=by
  obtain⟨z,l,D,x⟩:=k;have:m=u+z*(v-u):=by refine kd (ii K) ?_;rw[x];show At (io g.1) (io g.2) z=_;rw[B,A];unfold At;grind
  have a1:=nn l<|show 0<=v-u by grind
  have a2:=pp (show 0<1-z by grind)<|show 0<v-u by grind
  grind
 have d:∀(w:Pt)(r:Rat),w∈fine a b->io w=At (io i.1) (io i.2) r->s<r->r<t->False:=λw r hw C F E=>by
  have b0:Bt (io P) (io w) (io R):=Hz F E N C M;rcases vz hw with q|q;·exact j.yp p q<|show Bt (io i.1) (io w) (io i.2) from⟨r,by grind,by grind,C⟩
  ·exact W.yp V q<|QK b0 (ii G) (eY.mp Y)<|eY.mp X
 have H:∀(w:Pt)(r:Rat),w∈fine a b->io w=At (io i.1) (io i.2) r->u<r->r<v->False:=λw r hw C F E=>
  (j.fine b).yp y hw (Hz F E B C A)
 have us:u=s:=by
  rcases(by grind:u<s\/u=s\/s<u) with h|h|h;·grind
  ·exact h
  ·exact(d g.1 u (g0 y) B h<|by grind).elim
 have vt:v=t:=by
  rcases(by grind:v<t\/v=t\/t<v) with h|h|h;·exact(d g.2 v (j7 y) A (by grind) h).elim
  ·exact h
  grind
 have:g=(P,R):=f7 (li<|by grind)<|li<|by grind
 grind
def Vb(a b:Q)(k:Rat):At a b k=At b a (1-k):=by unfold At;grind
def oj(d:io p=At (io a) (io b) s)(c:io q=At (io a) (io b) t)(h:aY b a=true):aY p q=true↔t<s:=by rw[Vb] at d c;rw[k7 d c h];grind
def JH(h:io c=At (io a) (io b) s):bc a b c=0:=by
 have:tn (io a) (io b) (io c)=0:=by rw[h,wk,(tY _ _).1,(tY _ _).2];grind
 rw[mi] at this;simp_all
def Gm(x:a≠b)(z:c≠d):iI a b c d=true↔∃n m:Rat,io c=At (io a) (io b) n/\io d=At (io a) (io b) m/\m<n/\0<n/\m<1:=by
 have l:io a=At (io a) (io b) 0:=(ic _ _).symm;have k:io b=At (io a) (io b) 1:=(iH _ _).symm;constructor
 ·intro h;unfold iI at h;by_cases t:bc a b c≠0\/bc a b d≠0;·grind
  ·rw[aL t] at h;have D:bc a b c=0:=by omega
   have C:bc a b d=0:=by omega
   obtain⟨n,g⟩:=ow (ii x) (by rw[mi,D];rfl:tn (io a) (io b) (io c)=0);obtain⟨m,f⟩:=ow (ii x) (by rw[mi,C];rfl:tn (io a) (io b) (io d)=0);refine⟨n,m,g,f,?_⟩;by_cases o:aY a b=aY c d;·grind
   ·rw[aL o] at h;have E:n≠m:=λq=>z<|li<|by grind
    rcases vi x with u|u
    ·have i:aY d c=true:=(vi z).resolve_left λq=>o<|by rw[u,q]
     have w:=(k7 f g u).mp i;have v:jq a b=a:=aL<|by rw[o9 u];grind
     have s:jr a b=b:=aM u;have r:jq c d=d:=aM i;have p:jr c d=c:=aL<|by grind
     rw[v,s,r,p] at h;refine⟨w,?_,?_⟩
     ·
      apply gs;intro y;unfold jr jq at h;have j:¬aY a d=true:=by rw[k7 l f u];grind
      rw[aL j] at h;have e:aY c b=true:=by rw[k7 g k u];grind
      rw[aM e,k7 l g u] at h;grind
     ·apply gs;intro y;unfold jr jq at h;have j:aY a d=true:=by rw[k7 l f u];grind
      have e:¬aY c b=true:=by rw[k7 g k u];grind
      rw[aM j,aL e,k7 f k u] at h;grind
    ·have i:aY c d=true:=by
      cases q:aY c d with
      |true=>rfl
      |false=>exact cy (by rw[o9 u,q]) o
     have w:=(oj g f u).mp i;have v:jq a b=b:=aM u;have s:jr a b=a:=aL<|by grind
     have r:jq c d=c:=aL<|by rw[o9 i];grind
     have p:jr c d=d:=aM i;rw[v,s,r,p] at h;refine⟨w,?_,?_⟩
     ·apply gs;intro y;unfold jr jq at h;have j:aY b c=true:=by rw[oj k g u];grind
      have e:¬aY d a=true:=by rw[oj f l u];grind
      rw[aM j,aL e,oj g l u] at h;grind
     ·apply gs;intro y;unfold jr jq at h;have j:¬aY b c=true:=by rw[oj k g u];grind
      have e:aY d a=true:=by rw[oj f l u];grind
      rw[aL j,aM e,oj k f u] at h;grind
 ·rintro⟨n,m,g,f,w,B,A⟩;unfold iI;rw[aL<|by rintro(q|q);exact q (JH g);exact q<|JH f];rcases vi x with u|u
  ·have i:aY d c=true:=(k7 f g u).mpr w;rw[aL<|by rw[u,o9 i];decide];have v:jq a b=a:=aL<|by rw[o9 u];grind
   have s:jr a b=b:=aM u;have r:jq c d=d:=aM i;have p:jr c d=c:=aL<|by rw[o9 i];grind
   rw[v,s,r,p];unfold jr jq;by_cases j:aY a d=true
   ·rw[aM j];by_cases e:aY c b=true;·grind
    ·rw[aL e,k7 f k u];exact A
   ·rw[aL j];by_cases e:aY c b=true;·rw[aM e,k7 l g u];exact B
    grind
  ·have i:aY c d=true:=(oj g f u).mpr w;rw[aL<|by rw[o9 u,i];decide];have v:jq a b=b:=aM u;have s:jr a b=a:=aL<|by rw[o9 u];grind
   have r:jq c d=c:=aL<|by rw[o9 i];grind
   have p:jr c d=d:=aM i;rw[v,s,r,p];unfold jr jq;by_cases j:aY b c=true
   ·rw[aM j];by_cases e:aY d a=true;·grind
    ·rw[aL e,oj g l u];exact B
   ·rw[aL j];by_cases e:aY d a=true;·rw[aM e,oj k f u];exact A
    grind
def Ij(l:c=At a b f)(j:d=At a b g)(h:g<f)(i:z=At a b m)(o:g<=m)(n:m<=f):∃k:Rat,0<=k/\k<=1/\z=At c d k/\k*(f-g)=f-m:=by
 have e:(f-g)*(f-g)⁻¹=1:=nQ _<|by grind
 have p:=lX.mpr<|show 0<f-g by grind
 refine⟨(f-m)*(f-g)⁻¹,nn (by grind) (by grind),?_,?_,?_⟩
 ·have:=nn (show 0<=m-g by grind)<|show 0<=(f-g)⁻¹ by grind
  grind
 ·rw[i,l,j];unfold At;grind
 ·grind
def S5(A:bZ a)(y:bZ b):(∃e∈aj a,∃f∈aj b,iI e.1 e.2 f.1 f.2=true)↔∃g∈aj (fine a b),rv g∈aj (fine b a):=by
 constructor
 ·rintro⟨e,j,f,i,h⟩;have x:=A.iZ j;have w:=y.iZ i;obtain⟨q,v,E,D,C,k2,k3⟩:=(Gm x w).mp h;have hP:∃(P:Pt)(m:Rat),io P=At (io e.1) (io e.2) m/\0<=m/\v<=m/\m<1/\m<q/\(P∈a\/P∈b):=by
   by_cases z:v<=0;·exact⟨e.1,0,(ic _ _).symm,by grind,z,by grind,k2,.inl<|g0 j⟩
   ·exact⟨f.2,v,D,by grind,by grind,k3,C,.inr<|j7 i⟩
  obtain⟨P,m,G,L,m1,Z,Y,I⟩:=hP;have hR:∃(R:Pt)(l:Rat),io R=At (io e.1) (io e.2) l/\l<=1/\l<=q/\m<l/\(R∈a\/R∈b):=by
   by_cases z:1<=q;·exact⟨e.2,1,(iH _ _).symm,by grind,z,Z,.inl<|j7 j⟩
   ·exact⟨f.1,q,E,by grind,by grind,Y,.inr<|g0 i⟩
  obtain⟨R,l,F,M,l2,l3,H⟩:=hR;obtain⟨O,X,K,u,W⟩:=Ij E D C G m1<|by grind
  obtain⟨N,J,V,r,U⟩:=Ij E D C F (by grind) l2;have kk:N<O:=by
   apply gs;intro no;have:=nn (show 0<=N-O by grind)<|show 0<=q-v by grind
   grind
  refine⟨(P,R),FH A y j i l3 L M G F ?_ ?_ I H,FH y A i j kk J K r u ?_ ?_ H.symm I.symm⟩;·exact eY.mpr<|by rw[u];exact nv _ _ X K
  ·exact eY.mpr<|by rw[r];exact nv _ _ J V
  ·exact eY.mpr<|by rw[F];exact nv _ _ (by grind) M
  ·exact eY.mpr<|by rw[G];exact nv _ _ L<|by grind
 ·rintro⟨g,hg,hr⟩;obtain⟨e,j,ge⟩:=A3 hg;obtain⟨f,i,gf⟩:=A3 hr;have x:=A.iZ j;have w:=y.iZ i;obtain⟨s,t,s0,st,t1,eu,ev⟩:=Ba x ge;obtain⟨c,d,B,T,S,p,o⟩:=Ba w gf;have p:io g.2=At (io f.1) (io f.2) c:=p;have o:io g.1=At (io f.1) (io f.2) d:=o;refine⟨e,j,f,i,(Gm x w).mpr ?_⟩;have hi:(d-c)*(d-c)⁻¹=1:=nQ _<|by grind
  have hp:=lX.mpr<|show 0<d-c by grind
  have n:∀k:Rat,At (io f.1) (io f.2) k=At (io e.1) (io e.2) (t+(k-c)*(d-c)⁻¹*(s-t)):=λk=>by
   have h1:At (io f.1) (io f.2) k=At (io g.2) (io g.1) ((k-c)*(d-c)⁻¹):=by rw[p,o];unfold At;grind
   rw[h1,eu,ev];unfold At;grind
  have c0:=n 0;have d1:=n 1;rw[ic] at c0;rw[iH] at d1;have q1:0<=c*(d-c)⁻¹*(t-s):=nn (nn B<|by grind)<|by grind
  have q2:0<=(1-d)*(d-c)⁻¹*(t-s):=nn (nn (by grind)<|by grind)<|by grind
  grind
def O6(m:bZ a)(l:bZ b):iA a b=if((aj a).any λe=>(aj b).any λf=>iI e.1 e.2 f.1 f.2)=true then 2 else if(a.any (b_ b)||b.any (b_ a))=true then 1 else 0:=by
 unfold iA;have j:(cJ a b).length<(aj (fine a b)).length+(aj (fine b a)).length↔((aj a).any λe=>(aj b).any λf=>iI e.1 e.2 f.1 f.2)=true:=by
  rw[lV];have:(∃x∈aj a,((aj b).any λf=>iI x.1 x.2 f.1 f.2)=true)↔∃e∈aj a,∃f∈aj b,iI e.1 e.2 f.1 f.2=true:=by grind
  rw[this,S5 m l,rV,jY];have c:∀(x y:List (Pt×Pt)),(lo x y).length<x.length↔∃g∈x,rv g∈y:=λx y=>by
   have o:=vq x y;constructor
   ·intro h;apply gs;intro n;have:lo x y=x:=jz.mpr<|by grind
    grind
   ·rintro⟨g,d,i⟩;rcases NN (lo x y).length x.length with z|z;·exact z
    ·exfalso;have e:(lo x y).length=x.length:=by omega
     have:=Ej.mp e g d;grind
  have q:=vq (aj<|fine a b)<|aj<|fine b a;have p:=vq (aj<|fine b a)<|aj<|fine a b;have r:=c (aj<|fine a b)<|aj<|fine b a;have k:=c (aj<|fine b a)<|aj<|fine a b;constructor
  ·intro h;rcases(by omega:(lo (aj<|fine a b)<|aj<|fine b a).length<(aj<|fine a b).length\/(lo (aj<|fine b a)<|aj<|fine a b).length<(aj<|fine b a).length) with z|z;·grind
   ·obtain⟨g,d,i⟩:=k.mp z;exact⟨rv g,i,d⟩
  grind
 grind
end Ld
namespace L3
open PySem PySem.Spec PyProof.Rows L2
inductive Dt where
 |aS
 |bl (b:Bool)
 |int (i:Int)
 |aq (l:List Dt)
 |ip (l:List Int)
 |a9 (l:List Dt)
 |cE (l:List (Int×Dt))
 |bA (C:aa) (fs:List (ak×Dt))
 |aD (a:aa)
 |ext (f:aa->HO) (xs:List V) (ds:List Dt)
mutual
inductive Dx (K:ax) (H:Hp):V->Dt->Prop
 |aS:Dx K H .aS .aS
 |bl (b:Bool):Dx K H (.bl b) (.bl b)
 |int (i:Int):Dx K H (.int i) (.int i)
 |aq {a:aa} {xs:List V} {ds:List Dt}:H a=some (.aq xs)->bu K H xs ds->Dx K H (.ref a) (.aq ds)
 |ip {a:aa} {ns:List Int}:bi K H a (ns.map V.int)->Dx K H (.ref a) (.ip ns)
 |a9 {a:aa} {xs:List V} {ds:List Dt}:cV K H a xs->bu K H xs ds->Dx K H (.ref a) (.a9 ds)
 |cE {a:aa} {kvs:List (bg×V)} {ds:List (Int×Dt)}:H a=some (.dK kvs)->di K H kvs ds->Dx K H (.ref a) (.cE ds)
 |bA {a C dx:aa} {fs:List (ak×V)} {ds:List (ak×Dt)}:H a=some (.bA C dx fs)->gV K H fs ds->Dx K H (.ref a) (.bA C ds)
 |aD (a:aa):Dx K H (.ref a) (.aD a)
 |ext {a:aa} {f:aa->HO} {xs:List V} {ds:List Dt}:H a=some (f a)->bu K H xs ds->Dx K H (.ref a) (.ext f xs ds)
inductive bu (K:ax) (H:Hp):List V->List Dt->Prop
 |nil:bu K H [] []
 |cons {v:V} {vs:List V} {d:Dt} {ds:List Dt}:Dx K H v d->bu K H vs ds->bu K H (v::vs) (d::ds)
inductive di (K:ax) (H:Hp):List (bg×V)->List (Int×Dt)->Prop
 |nil:di K H [] []
 |cons {i:Int} {v:V} {r:List (bg×V)} {d:Dt} {ds:List (Int×Dt)}:Dx K H v d->di K H r ds->di K H ((.inl i,v)::r) ((i,d)::ds)
inductive gV (K:ax) (H:Hp):List (ak×V)->List (ak×Dt)->Prop
 |nil:gV K H [] []
 |cons {f:ak} {v:V} {r:List (ak×V)} {d:Dt} {ds:List (ak×Dt)}:Dx K H v d->gV K H r ds->gV K H ((f,v)::r) ((f,d)::ds)
end
def et(e:aW H d)(h:cV b H a c):cV b d a c:=by
 rcases h with(h|⟨o,h⟩)|h;·exact .inl<|.inl<|e _ _ h
 ·exact .inl<|.inr ⟨o,e _ _ h⟩
 ·exact .inr h
mutual
def Dx.same {K:ax} {H c:Hp} (e:aW H c):∀{v:V}{d:Dt},Dx K H v d->Dx K c v d
 |_,_,.aS=>.aS
 |_,_,.bl b=>.bl b
 |_,_,.int i=>.int i
 |_,_,.aq h a=>.aq (e _ _ h)<|bu.same e a
 |_,_,.ip h=>.ip<|e.seq h
 |_,_,.a9 h a=>.a9 (et e h)<|bu.same e a
 |_,_,.cE h a=>.cE (e _ _ h)<|di.same e a
 |_,_,.bA h a=>.bA (e _ _ h)<|gV.same e a
 |_,_,.aD a=>.aD a
 |_,_,.ext h a=>.ext (e _ _ h)<|bu.same e a
def bu.same {K:ax} {H c:Hp} (e:aW H c):∀{v:List V}{d:List Dt},bu K H v d->bu K c v d
 |_,_,.nil=>.nil
 |_,_,.cons h r=>.cons (Dx.same e h)<|bu.same e r
def di.same {K:ax} {H c:Hp} (e:aW H c):∀{v:List (bg×V)}{d:List (Int×Dt)},di K H v d->di K c v d
 |_,_,.nil=>.nil
 |_,_,.cons h r=>.cons (Dx.same e h)<|di.same e r
def gV.same {K:ax} {H c:Hp} (e:aW H c):∀{v:List (ak×V)}{d:List (ak×Dt)},gV K H v d->gV K c v d
 |_,_,.nil=>.nil
 |_,_,.cons h r=>.cons (Dx.same e h)<|gV.same e r
end
def bu.length:∀{b:List V}{c:List Dt},bu a H b c->b.length=c.length
 |_,_,.nil=>rfl
 |_,_,.cons _ r=>by rw[dI,dI,bu.length r]
def bu.get:∀{b:List V}{c:List Dt}{i:Nat}{d:Dt},bu a H b c->c[i]?=some d->∃v,b[i]?=some v/\Dx a H v d
 |_,_,_,_,.nil,e=>by simp at e
 |_,_,0,_,.cons r _,e=>by grind
 |_,_,i+1,d,.cons _ t,e=>by
  obtain⟨v,g,f⟩:=bu.get (i:=i) (d:=d) t<|by grind
  grind
def bu.append:∀{c b:List V}{e d:List Dt},bu a H c e->bu a H b d->bu a H (c++b) (e++d)
 |_,_,_,_,.nil,s=>s
 |_,_,_,_,.cons r t,s=>.cons r<|bu.append t s
def bu.take:∀{b:List V}{c:List Dt}(n:Nat),bu a H b c->bu a H (b.take n) (c.take n)
 |_,_,0,_=>.nil
 |_,_,_+1,.nil=>.nil
 |_,_,n+1,.cons r t=>.cons r<|bu.take n t
def bu.drop:∀{b:List V}{c:List Dt}(n:Nat),bu a H b c->bu a H (b.drop n) (c.drop n)
 |_,_,0,r=>r
 |_,_,_+1,.nil=>.nil
 |_,_,n+1,.cons _ t=>bu.drop n t
def bu.one(h:Dx a H v d):bu a H [v] [d]:=.cons h .nil
def bu.reverse:∀{b:List V}{c:List Dt},bu a H b c->bu a H b.reverse c.reverse
 |_,_,.nil=>.nil
 |_,_,.cons r t=>by rw[Av,Av];exact(bu.reverse t).append<|.one r
def bu.ints:∀{b:List V}{ns:List Int},bu a H b (ns.map .int)->b=ns.map V.int
 |_,[],h=>by cases h;rfl
 |_,n::ns,h=>by
  cases h with
  |cons h r=>cases h;rw[bu.ints r];rfl
def bu.ub{K:ax}:∀(a:List Int),bu K H (a.map V.int) (a.map .int)
 |[]=>.nil
 |n::a=>.cons (.int n)<|bu.ub a
def bu.sv:∀{c:List V}{b:List Bool},bu a H c (b.map .bl)->c=b.map V.bl
 |_,[],h=>by cases h;rfl
 |_,n::b,h=>by
  cases h with
  |cons h r=>cases h;rw[bu.sv r];rfl
def gV.qW:∀{b:List (ak×V)}{c:List (ak×Dt)}{f:ak}{d:Dt},gV a H b c->c.lookup f=some d->∃v,b.lookup f=some v/\Dx a H v d
 |_,_,_,_,.nil,e=>by cases e
 |_,_,f,d,.cons (f:=g) r t,e=>by
  rw[Nm] at e ⊢;cases q:f==g with
  |true=>grind
  |false=>rw[q] at e;exact gV.qW t e
def aI(F:aa->Bool)(H:Hp):Hp:=λb=>if F b=true then none else H b
def ca(s:aW H c):aW (aI a H) (aI a c):=λb o h=>by
 unfold aI at h ⊢;by_cases q:a b=true;·grind
 ·rw[aL q] at h ⊢;exact s b o h
def bm:aW (aI a H) H:=λb o h=>by unfold aI at h;grind
abbrev aG:=List<|Option Dt
structure Cd(K:ax)(F:aa->Bool)(H:Hp)(σ:L2.St)(ρ:aG):Prop where
 tr:∀b,F b=true->(H b).isSome=true
 aX:σ.length=ρ.length
 kO:∀(i:Nat)(d:Dt),ρ[i]?=some (some d)->∃v,σ[i]?=some (some v)/\Dx K (aI F H) v d
def jj{F:aa->Bool}(h:∀b,F b=true->(H b).isSome=true)(s:aW H a):∀b,F b=true->(a b).isSome=true:=λb q=>by
 have:=h b q;cases e:H b with
 |none=>grind
 |some o=>rw[s b o e];rfl
def Cd.same(c:Cd a b H f g)(s:aW H k):Cd a b k f g:=⟨jj c.tr s,c.aX,λi d e=>let⟨v,j,h⟩:=c.kO i d e;⟨v,j,h.same<|ca s⟩⟩
def jJ{F:aa->Bool}{H:Hp}(a:∀b,F b=true->(H b).isSome=true)(h:H p=none):F p=false:=by grind
def gJ(h:H p=none):aW H (bv H p o):=λb u e=>by rw[ew<|l7 e h];exact e
def lh(h:a p=false):aI a (bv H p o) p=some o:=by unfold aI;rw[aL<|by grind];exact pf
def wP(K:ax)(c:aG)(d:Dt):TE:=λb H Q=>∃F,Cd K F H b c/\∀v a,aW H a->Dx K (aI F a) v d->Q v a
def wO(K:ax)(d:aG)(b:Bool):TT:=λc H Q=>∃F,Cd K F H c d/\∀a,aW H a->Q b a
def Mj(K:ax)(d:aG)(e:List Dt):TA:=λc H Q=>∃F,Cd K F H c d/\∀b a,aW H a->bu K (aI F a) b e->Q b a
def DE(X:Cx)(e:az)(a:aG)(d:Dt):Prop:=PE X e<|wP X.K a d
def DT(X:Cx)(e:az)(a:aG)(b:Bool):Prop:=PT X e<|wO X.K a b
def DW(X:Cx)(e:az)(a:aG)(b:Bool):Prop:=PW X e<|wO X.K a b
def DA(X:Cx)(b:List az)(a:aG)(c:List Dt):Prop:=PA X b<|Mj X.K a c
def DW.dt(h:DW X e a b):DT X e a b:=h.pt
def PE.aN(h:PE X e t)(k:∀a H Q,c a H Q->t a H Q):PE X e c:=λb s a H Q I q=>h b s a H Q I<|k a H Q q
def PT.aN(h:PT X e t)(k:∀a H Q,c a H Q->t a H Q):PT X e c:=λb s a H Q I q=>h b s a H Q I<|k a H Q q
def PW.aN(h:PW X e t)(k:∀a H Q,d a H Q->t a H Q):PW X e d:=λc b s a H Q I q=>h c b s a H Q I<|k a H Q q
def PA.aN(h:PA X e t)(k:∀a H Q,d a H Q->t a H Q):PA X e d:=λc b s a H Q I q=>h c b s a H Q I<|k a H Q q
def Zy:TE:=λ_ _ _=>False
def zD:PE X e Zy:=λ_ _ _ _ _ _ h=>h.elim
def YS:TT:=λ_ _ _=>False
def Lu:PW X e YS:=λ_ _ _ _ _ _ _ h=>h.elim
def ab(i:Nat)(a:ρ[i]?=some (some d):=by rfl)(h:X.N[i]?=some x:=by rfl)(f:oT X.ae.scope x:=by first|exact cj rfl|exact gF (cj rfl)|exact gF<|gF rfl)(g:(x==("__debug__":ak))=false:=by decide)(b:(x==("__classdict__":ak))=false:=by decide):DE X (.Name x e) ρ d:=PE.aN (V6 h f g b) λm H Q⟨F,c,k⟩=>let⟨v,l,j⟩:=c.kO i d a;⟨v,l,k v H (aW.refl H) j⟩
def a7:DE X (.Constant (.int i) j a) d (.int i):=PE.aN Wl λb H Q⟨F,c,k⟩=>k _ H (aW.refl H)<|.int i
def fm{X:Cx}:DE X (.Constant (.bool i) j a) ρ (.bl i):=PE.aN Yi λb H Q⟨F,c,k⟩=>k _ H (aW.refl H)<|.bl i
def r4:DE X (.Constant .none j a) d .aS:=PE.aN VY λb H Q⟨F,c,k⟩=>k _ H (aW.refl H) .aS
def cS(b:X.mg x=some (.int i t))(d:Gl X x:=by rfl)(e:(x==("__debug__":ak))=false:=by decide):DE X (.Name x a) g (.int i):=PE.aN (Ct (v:=V.int i) d b ⟨t,rfl⟩ e) λf H Q⟨F,c,k⟩=>k _ H (aW.refl H)<|.int i
def nG{R:V->V->Hp->Prop}(c:Cd a b H e f)(k:∀x y d,aW H d->Dx a (aI b d) x n->Dx a (aI b d) y m->R x y d):wP a f n e H λx i=>wP a f m e i λy d=>R x y d:=⟨b,c,λx i h l=>⟨b,c.same h,λy d g j=>k x y d (h.trans g) (l.same<|ca g) j⟩⟩
def r0(l:eP X (rE j) r)(n:DE X a f t)(m:DE X b f q)(y:∀F x y H Q,(∀b,F b=true->(H b).isSome=true)->Dx X.K (aI F H) x t->Dx X.K (aI F H) y q->(∀v e,aW H e->Dx X.K (aI F e) v d->Q v e)->r x y H Q):DE X (.BinOp a j b i) f d:=PE.aN (Lk l n m) λA H Q⟨F,c,k⟩=>nG c λu w z s p o=>y F u w z Q (jj c.tr s) p o λv e g h=>k v e (s.trans g) h
def jm(f:DE X a c (.int i))(e:DE X b c (.int j)):DE X (.BinOp a .Add b d) c (.int<|i+j):=r0 V3 f e λF x y H Q _ h g k=>by cases h;cases g;exact⟨i,j,rfl,rfl,k _ H (aW.refl H)<|.int _⟩
def me(f:DE X a c (.int i))(e:DE X b c (.int j)):DE X (.BinOp a .Sub b d) c (.int<|i-j):=r0 KE f e λF x y H Q _ h g k=>by cases h;cases g;exact⟨i,j,rfl,rfl,k _ H (aW.refl H)<|.int _⟩
def qG(g:DE X a c (.int i))(f:DE X b c (.int j))(e:zM i j):DE X (.BinOp a .Mult b d) c (.int<|i*j):=r0 W7 g f λF x y H Q _ l h k=>by cases l;cases h;exact⟨i,j,rfl,rfl,e,k _ H (aW.refl H)<|.int _⟩
def C_(g:DE X a c (.int i))(f:DE X b c (.int j))(e:0<j):DE X (.BinOp a .Mod b d) c (.int<|i%j):=r0 Wh g f λF x y H Q _ l h k=>by cases l;cases h;exact⟨i,j,rfl,rfl,e,k _ H (aW.refl H)<|.int _⟩
def CB(l:eP X (gw g) r)(o:DE X a f z)(n:DE X b f t)(m:mN g b=false)(y:∀F x y H Q,Dx X.K (aI F H) x z->Dx X.K (aI F H) y t->(∀v e,aW H e->Dx X.K (aI F e) v d->Q v e)->r x y H Q):DE X (.Compare a [g] [b] j) f d:=PE.aN (VB l o n m) λB H Q⟨F,c,k⟩=>nG c λu w A s q p=>y F u w A Q q p λv e i h=>k v e (s.trans i) h
def qA(j:eP X (gw f) r)(n:DE X a e z)(m:DE X b e t)(l:mN f b=false)(y:∀F x y H Q,Dx X.K (aI F H) x z->Dx X.K (aI F H) y t->(∀v d,aW H d->Dx X.K (aI F d) v (.bl q)->Q v d)->r x y H Q):DT X (.Compare a [f] [b] i) e q:=PT.aN (IT j n m l) λB H Q⟨F,c,k⟩=>nG c λu w A s p o=>y F u w A _ p o λv d g h=>by cases h;exact⟨q,rfl,k d<|s.trans g⟩
def cI(a:jH)(i j:Int):Bool:=match a with
 |.Lt=>decide<|i<j
 |.LtE=>decide<|i<=j
 |.Gt=>decide<|j<i
 |.GtE=>decide<|j<=i
 |.Eq=>decide<|i=j
 |.NotEq=>!decide (i=j)
 |_=>false
def uN(a:jH):Bool:=match a with
 |.Lt=>true|.LtE=>true|.Gt=>true|.GtE=>true|.Eq=>true|.NotEq=>true
 |_=>false
def ZQ(a:jH):R2:=λx y H Q=>∃i j,x=.int i/\y=.int j/\Q (.bl (cI a i j)) H
def zG(h:uN g=true):eP X (gw g) (ZQ g):=by
 intro a s b H x y v u Q I d c ⟨i,j,f,e,q⟩;cases g with
 |Lt=>exact Yl a s b H x y v u Q I d c ⟨i,j,f,e,q⟩
 |LtE=>exact Yc a s b H x y v u Q I d c ⟨i,j,f,e,q⟩
 |Gt=>exact XV a s b H x y v u Q I d c ⟨i,j,f,e,q⟩
 |GtE=>exact Xx a s b H x y v u Q I d c ⟨i,j,f,e,q⟩
 |Eq=>
  refine DG a s b H x y v u Q I d c ?_;subst f e;refine⟨rfl,?_⟩;have:decide (V.int i=V.int j)=decide (i=j):=by grind
  rw[this];exact q
 |NotEq=>
  refine X5 a s b H x y v u Q I d c ?_;subst f e;refine⟨rfl,?_⟩;have:decide (V.int i=V.int j)=decide (i=j):=by grind
  rw[this];exact q
 |_=>cases h
def GJ(b:az)(h:uN a=true):mN a b=false:=B3 b (by intro q;rw[q] at h;cases h)<|by intro q;rw[q] at h;cases h
def kK(g:DE X a c (.int i))(f:DE X b c (.int j))(h:uN d=true:=by rfl):DE X (.Compare a [d] [b] e) c (.bl<|cI d i j):=CB (zG h) g f (GJ b h) λF x y H Q m l k=>by cases m;cases l;exact⟨i,j,rfl,rfl,k _ H (aW.refl H)<|.bl _⟩
def cw(g:DE X a c (.int i))(f:DE X b c (.int j))(h:uN d=true:=by rfl):DT X (.Compare a [d] [b] e) c (cI d i j):=qA (zG h) g f (GJ b h) λF x y H Q m l k=>by cases m;cases l;exact⟨i,j,rfl,rfl,k _ H (aW.refl H)<|.bl _⟩
def ym(r:DE X a f (.int i))(p:DE X b f (.int j))(o:DE X c f (.int k))(h:uN e=true:=by rfl)(A:uN d=true:=by rfl)(n:lastMarks [e,d] [b,c]=false:=by with_unfolding_all rfl):DE X (.Compare a [e,d] [b,c] m) f (.bl<|cI e i j&&cI d j k):=
 PE.aN (TF (zG h) (zG A) r p o n) λD H Q⟨F,g,q⟩=>nG g λu w C s y x=>by
  cases y;cases x;refine⟨i,j,rfl,rfl,_,rfl,?_⟩;cases z:cI e i j with
  |false=>exact q _ C s<|by rw[z];exact .bl false
  |true=>refine⟨F,g.same s,λv B l t=>?_⟩;cases t;exact⟨j,k,rfl,rfl,q _ B (s.trans l)<|by rw[z];exact .bl _⟩
def wm:Dt->Bool
 |.aS=>true
 |_=>false
def D1(h:Dx a H x d):decide (x=.aS)=wm d:=by cases h<;>rfl
def CS(g:DE X a e d):DE X (.Compare a [.Is] [.Constant .none j b] f) e (.bl<|wm d):=PE.aN (Xg<|C9 g) λk H Q⟨F,i,q⟩=>⟨F,i,λv c s h=>by show Q (V.bl<|decide<|v=V.aS) c;rw[D1 h];exact q _ c s<|.bl _⟩
def vX(f:DE X a c d):DT X (.Compare a [.Is] [.Constant .none j b] e) c (wm d):=PT.aN (KN<|C9 f) λi H Q⟨F,g,q⟩=>⟨F,g,λv k s h=>⟨_,rfl,by rw[D1 h];grind⟩⟩
def dD(d:DE X e b (.bl k))(c:∀a,xB e X.ae a=(do let v <-a;standAt e.pos;Fj [v] (truthy v)):=by intro _;rfl):DT X e b k:=PT.aN (Wt d c) λg H Q⟨F,f,q⟩=>⟨F,f,λv i s h=>by cases h;grind⟩
def yS(d:DT X a b k):DW X (.BoolOp .And [a] c) b k:=Ul d
def mh(d:DT X a b k):DW X (.BoolOp .Or [a] c) b k:=WP d
def rX(g:DT X a f k)(m:k=true->DW X (.BoolOp .And (b::c) e) f l):DW X (.BoolOp .And (a::b::c) e) f (k&&l):=by
 cases k with
 |false=>exact PW.aN (J2 g Lu) λi H Q⟨F,d,q⟩=>⟨F,d,λh s=>q h s⟩
 |true=>exact PW.aN (J2 g<|m rfl) λi H Q⟨F,d,q⟩=>⟨F,d,λh s=>⟨F,d.same s,λn j=>q n<|s.trans j⟩⟩
def ke(g:DT X a f k)(m:k=false->DW X (.BoolOp .Or (b::c) e) f l):DW X (.BoolOp .Or (a::b::c) e) f (k||l):=by
 cases k with
 |true=>exact PW.aN (Ly g Lu) λi H Q⟨F,d,q⟩=>⟨F,d,λh s=>q h s⟩
 |false=>exact PW.aN (Ly g<|m rfl) λi H Q⟨F,d,q⟩=>⟨F,d,λh s=>⟨F,d.same s,λn j=>q n<|s.trans j⟩⟩
def m9(d:DT X a b k):DT X (.UnaryOp .Not a c) b (!k):=PT.aN (WZ d) λg H Q⟨F,e,q⟩=>⟨F,e,λf s=>q f s⟩
def rY(e:DE X a b d):DE X (.BoolOp f [a] c) b d:=WQ e
def ue(g:DE X a f (.bl k))(n:k=true->DE X (.BoolOp .And (b::c) e) f (.bl l)):DE X (.BoolOp .And (a::b::c) e) f (.bl<|k&&l):=by
 cases k with
 |false=>exact PE.aN (KG g zD) λj H Q⟨F,d,q⟩=>⟨F,d,λv i s h=>by cases h;exact⟨false,rfl,q _ i s<|.bl _⟩⟩
 |true=>exact PE.aN (KG g<|n rfl) λj H Q⟨F,d,q⟩=>⟨F,d,λv i s h=>by cases h;exact⟨true,rfl,⟨F,d.same s,λv p m o=>q v p (s.trans m) o⟩⟩⟩
def zA(g:DE X a f (.bl k))(n:k=false->DE X (.BoolOp .Or (b::c) e) f (.bl l)):DE X (.BoolOp .Or (a::b::c) e) f (.bl<|k||l):=by
 cases k with
 |true=>exact PE.aN (LC g zD) λj H Q⟨F,d,q⟩=>⟨F,d,λv i s h=>by cases h;exact⟨true,rfl,q _ i s<|.bl _⟩⟩
 |false=>exact PE.aN (LC g<|n rfl) λj H Q⟨F,d,q⟩=>⟨F,d,λv i s h=>by cases h;exact⟨false,rfl,⟨F,d.same s,λv p m o=>q v p (s.trans m) o⟩⟩⟩
def K7(d:DE X a b (.bl k)):DE X (.UnaryOp .Not a c) b (.bl<|!k):=PE.aN (W2 d) λg H Q⟨F,e,q⟩=>⟨F,e,λv f s h=>by cases h;exact⟨k,rfl,q _ f s<|.bl _⟩⟩
def Xe(i:DT X c e true)(j:DE X a e d):DE X (.IfExp c a b h) e d:=PE.aN (H0 i j zD) λm H Q⟨F,f,q⟩=>⟨F,f,λn s=>⟨F,f.same s,λv l g k=>q v l (s.trans g) k⟩⟩
def WL(i:DT X c e false)(j:DE X b e d):DE X (.IfExp c a b h) e d:=PE.aN (H0 i zD j) λm H Q⟨F,f,q⟩=>⟨F,f,λn s=>⟨F,f.same s,λv l g k=>q v l (s.trans g) k⟩⟩
def au:DA X [] b []:=PA.aN wa λa H Q⟨F,c,q⟩=>q [] H (aW.refl H) .nil
def ah(k:DE X e b d)(j:DA X a b n)(i:aB (e::a) X.ae=(false,aO e X.ae)::aB a X.ae:=by rfl):DA X (e::a) b (d::n):=PA.aN (vL k j i) λp H Q⟨F,g,q⟩=>⟨F,g,λv r f m=>⟨F,g.same f,λh o c l=>q (v::h) o (f.trans c)<|.cons (m.same<|ca c) l⟩⟩
def gd{f}(h:DA X k e ds)(i:ds.length<=bx:=by decide):DE X (.Tuple k f g) e (.a9 ds):=PE.aN (Ka h) λl H Q⟨F,d,q⟩=>⟨F,d,λm n b c=>⟨by rw[c.length];exact i,λp a=>by have j:=jJ (jj d.tr b) a;exact q _ _ (b.trans<|gJ a)<|.a9 (cV.of<|lh j)<|c.same<|ca<|gJ a⟩⟩
def gQ(h:DA X j e ds)(g:ds.length<=bx:=by decide):DE X (.List j f) e (.aq ds):=PE.aN (CW h) λk H Q⟨F,d,q⟩=>⟨F,d,λl m b c=>⟨by rw[c.length];exact g,λp a=>by have i:=jJ (jj d.tr b) a;exact q _ _ (b.trans<|gJ a)<|.aq (lh i)<|c.same<|ca<|gJ a⟩⟩
def wb(h:bu a H c b)(e:e5 b i=some d):∃v,e5 c i=some v/\Dx a H v d:=by
 unfold e5 at e ⊢;rw[h.length];cases q:mG b.length i with
 |none=>grind
 |some j=>rw[q] at e;exact h.get e
def dG(m:DE X a c (.aq r))(l:DE X b c (.int i))(k:e5 r i=some d)(h:t_ b:=by intro _ _;rfl):DE X (.Subscript a b f) c d:=
 PE.aN (wf yO m l h) λy H Q⟨F,t,q⟩=>nG t λu w x s p o=>by
  cases p with
  |aq j n=>cases o;obtain⟨v,e,g⟩:=wb n k;exact⟨_,_,i,v,rfl,rfl,bi.of<|bm _ _ j,e,q v x s g⟩
def jM(m:DE X a c (.a9 r))(l:DE X b c (.int i))(k:e5 r i=some d)(h:t_ b:=by intro _ _;rfl):DE X (.Subscript a b f) c d:=
 PE.aN (wf Xn m l h) λy H Q⟨F,t,q⟩=>nG t λu w x s p o=>by
  cases p with
  |a9 j n=>cases o;obtain⟨v,e,g⟩:=wb n k;exact⟨_,_,i,v,rfl,rfl,et bm j,e,q v x s g⟩
def lm(q:DE X a d (.aq l))(o:DE X b d (.aq m))(n:l.length+m.length<=bx):DE X (.BinOp a .Add b j) d (.aq<|l++m):=
 r0 Wz q o λF x y H Q g s r k=>by
  cases s with
  |aq i f=>
   cases r with
   |aq h e=>refine⟨_,_,_,_,rfl,rfl,bm _ _ i,bm _ _ h,by rw[f.length,e.length];exact n,λp c=>?_⟩;exact k _ _ (gJ c)<|.aq (lh<|jJ g c)<|(f.append e).same<|ca<|gJ c
def dL{b:Type}(a:List b)(lo c:Option Int):List b:=(a.drop<|HT.iU a.length 0 lo).take<|HT.iU a.length a.length c-HT.iU a.length 0 lo
def J6(h:bu a H c d)(lo b:Option Int):bu a H (pE c lo b) (dL d lo b):=by unfold pE dL;rw[h.length];exact(h.drop _).take _
def ZJ(K:ax)(c:aG)(i:Option Int):TO:=λb H Q=>∃F,Cd K F H b c/\∀a,aW H a->Q i a
def DO(X:Cx)(e:Option az)(a:aG)(i:Option Int):Prop:=PO X e<|ZJ X.K a i
def kb:DO X none c none:=λa s b H Q I⟨F,d,q⟩=>JE a s b H Q I<|q H<|aW.refl H
def gB(h:DE X e c (.int i)):DO X (some e) c (some i):=λa s b H Q I⟨F,f,q⟩=>
 Jo h a s b H Q I ⟨F,f,λv j g d=>by cases d;grind⟩
def ji(s:DE X a e (.aq x))(j:DO X b e l)(k:DO X r e h):DE X (.Subscript a (.Slice b r none z) n) e (.aq<|dL x l h):=
 PE.aN (BS CH s j k) λy H Q⟨F,d,q⟩=>⟨F,d,λv C g w=>⟨F,d.same g,λB f=>⟨F,d.same<|g.trans f,λA m=>by
  have u:=w.same<|ca<|f.trans m;have c:=g.trans<|f.trans m;cases u with
  |aq o t=>refine⟨_,_,rfl,bi.of<|bm _ _ o,λp i=>?_⟩;exact q _ _ (c.trans<|gJ i)<|.aq (lh<|jJ (jj d.tr c) i)<|(J6 t l h).same<|ca<|gJ i⟩⟩⟩
def Qt(a:List Int)(l h:Option Int):pE (a.map V.int) l h=(dL a l h).map V.int:=by unfold pE dL;simp
def GX(t:DE X a e (.ip o))(i:DO X b e l)(j:DO X s e h):DE X (.Subscript a (.Slice b s none y) n) e (.aq<|(dL o l h).map .int):=
 PE.aN (BS CH t i j) λx H Q⟨F,d,q⟩=>⟨F,d,λv B g w=>⟨F,d.same g,λA f=>⟨F,d.same<|g.trans f,λz k=>by
  have u:=w.same<|ca<|f.trans k;have c:=g.trans<|f.trans k;cases u with
  |ip r=>refine⟨_,_,rfl,bm.seq r,λp m=>?_⟩;rw[Qt];exact q _ _ (c.trans<|gJ m)<|.aq (lh<|jJ (jj d.tr c) m)<|bu.ub _⟩⟩⟩
def K8(p:DE X a f (.ip c))(o:DE X b f (.int i))(n:e5 c i=some d)(l:t_ b:=by intro _ _;rfl):DE X (.Subscript a b h) f (.int d):=
 PE.aN (wf yO p o l) λy H Q⟨F,x,q⟩=>nG x λu w g s t r=>by
  cases t with
  |ip m=>
   cases r;obtain⟨v,e,k⟩:=wb (bu.ub (K:=X.K) (H:=aI F g) c) (i:=i) (d:=.int d) (by
    unfold e5 at n ⊢;rw[bS];cases q:mG c.length i with
    |none=>grind
    |some j=>grind)
   exact⟨_,_,i,v,rfl,rfl,bm.seq m,e,q v g s k⟩
def ck(n:DE X a b (.bA C p))(l:ju X.K C)(h:fe X.K C f)(k:p.lookup f=some d)(m:kx a f X.ae (aO a X.ae)=aO a X.ae:=by rfl):DE X (.Attribute a f c) b d:=
 PE.aN (KU n m) λw H Q⟨F,r,q⟩=>⟨F,r,λv t s o=>by
  cases o with
  |bA i j=>obtain⟨u,g,e⟩:=j.qW k;exact⟨_,C,_,_,u,rfl,bm _ _ i,l,h,g,q u t s e⟩⟩
def kH(c:Cd a b H f g)(k:∀e d,aW H d->bu a (aI b d) e j->R e d):Mj a g j f H R:=⟨b,c,λi l s h=>k i l s h⟩
def jI(A:gU X (.builtin a) r)(B:DA X (e::g) m D)(y:∀F f H Q,(∀b,F b=true->(H b).isSome=true)->bu X.K (aI F H) f D->(∀v c,aW H c->Dx X.K (aI F c) v d->Q v c)->r f H Q)(u:X.mg x=none)(o:tw x=some (.builtin a))(w:Gl X x:=by rfl)(t:x≠"__name__":=by decide)(k:(x==("__debug__":ak))=false:=by decide)(z:aB (e::g) X.ae=(false,aO e X.ae)::aB g X.ae:=by rfl)(j:(eK i<|aB g X.ae).any (·.1)=false:=by rfl):DE X (.Call (.Name x p) (e::g) [] i) m d:=PE.aN (B_ A w u o B t k z j) λI H Q⟨F,l,q⟩=>kH l λf E s h=>y F f E Q (jj l.tr s) h λv c n C=>q v c (s.trans n) C
def Rw(z:gU X (.type T) r)(A:DA X (e::f) l C)(y:∀F c H Q,(∀b,F b=true->(H b).isSome=true)->bu X.K (aI F H) c C->(∀v a,aW H a->Dx X.K (aI F a) v d->Q v a)->r c H Q)(t:X.mg x=none)(n:tw x=some (.type T))(u:Gl X x:=by rfl)(o:x≠"__name__":=by decide)(j:(x==("__debug__":ak))=false:=by decide)(w:aB (e::f) X.ae=(false,aO e X.ae)::aB f X.ae:=by rfl)(i:(eK g<|aB f X.ae).any (·.1)=false:=by rfl):DE X (.Call (.Name x p) (e::f) [] g) l d:=PE.aN (BL z u t n A o j w i) λE H Q⟨F,k,q⟩=>kH k λc D s h=>y F c D Q (jj k.tr s) h λv a m B=>q v a (s.trans m) B
def aA(K:ax)(R:List Dt->Dt->Prop):Sp:=λe H Q _=>∃(F:aa->Bool)(c:List Dt)(d:Dt),(∀b,F b=true->(H b).isSome=true)/\bu K (aI F H) e c/\R c d/\∀v a,aW H a->Dx K (aI F a) v d->Q v a
structure aU(P:a0)(w:aT)(K:ax)(mg:ak->Option af)(ai:aJ)(x:ak)(k:Nat)(sp:Sp):Prop where
 ex:∃(f:aa)(fd:bI)(ps:List ak),bB P w K mg ai bC k f fd ps sp/\mg x=some (.ref f)/\rx K (.ref f)=true/\oG K fd ps []
def aK(h:aU X.prog X.w X.K X.mg X.ai x k (aA X.K R))(n:dn k X.A)(B:DA X (e::a) l i)(r:R i d)(u:Gl X x:=by rfl)(g:(x==("__debug__":ak))=false:=by decide)(y:aB (e::a) X.ae=(false,aO e X.ae)::aB a X.ae:=by rfl)(c:(eK b<|aB a X.ae).any (·.1)=false:=by rfl):
 DE X (.Call (.Name x p) (e::a) [] b) l d:=by
 obtain⟨f,L,J,F,o,t,z⟩:=h.ex;exact PE.aN (yG F n u o t z .nil ur B g y c) λE H Q⟨F,j,q⟩=>kH j λI M s h=>⟨F,i,d,jj j.tr s,by grind,r,λv D m C=>q v D (s.trans m) C⟩
inductive eh where
 |nx (ρ:aG)
 |rt (d:Dt)
def D6(K:ax)(f:aG)(o:eh):TS:=λD e H=>∃F,Cd K F H e f/\match o with
 |.nx c=>∀b a,aW H a->Cd K F a b c->D.nx b a
 |.rt d=>∀v a,aW H a->Dx K (aI F a) v d->D.rt v a
def DS(X:Cx)(st:cv)(a:aG)(o:eh):Prop:=PS X st<|D6 X.K a o
def e7(X:Cx)(a:List cv)(b:aG)(o:eh):Prop:=dr X a<|D6 X.K b o
def PS.aN(h:PS X a t)(k:∀D b H,d D b H->t D b H):PS X a d:=λc s b H D I q=>h c s b H D I<|k D b H q
def dr.aN(h:dr X a t)(k:∀D b H,d D b H->t D b H):dr X a d:=λc s b H D I q=>h c s b H D I<|k D b H q
def jK:e7 X [] b (.nx b):=dr.aN Vi λD a H⟨F,c,q⟩=>q a H (aW.refl H) c
def dQ(n:DS X a m (.nx e))(g:e7 X b e o):e7 X (a::b) m o:=
 dr.aN (rN n g) λD r H⟨F,p,q⟩=>⟨F,p,λk t s i=>⟨F,i,by
  cases o with
  |nx l=>exact λc j f h=>q c j (s.trans f) h
  |rt d=>exact λv j f g=>q v j (s.trans f) g⟩⟩
def bb(e:DS X a c (.rt d)):e7 X (a::b) c (.rt d):=dr.aN (rN e qr) λD g H⟨F,f,q⟩=>⟨F,f,q⟩
def bj(c:DE X e a d):DS X (.Return (some e) b) a (.rt d):=PS.aN (Dc c) λD i H⟨F,f,q⟩=>⟨F,f,λv g s h=>q v g s h⟩
def md(k:DT X c g true)(l:e7 X A g o):DS X (.If c A B j) g o:=
 PS.aN (uk k l qr) λD n H⟨F,h,q⟩=>⟨F,h,λp s=>⟨F,h.same s,by
  cases o with
  |nx i=>exact λa f b e=>q a f (s.trans b) e
  |rt d=>exact λv f b m=>q v f (s.trans b) m⟩⟩
def kI(k:DT X c g false)(l:e7 X B g o):DS X (.If c A B j) g o:=
 PS.aN (uk k qr l) λD n H⟨F,h,q⟩=>⟨F,h,λp s=>⟨F,h.same s,by
  cases o with
  |nx i=>exact λa f b e=>q a f (s.trans b) e
  |rt d=>exact λv f b m=>q v f (s.trans b) m⟩⟩
def Cd.set(c:Cd a b H g f)(h:Dx a (aI b H) v d):Cd a b H (g.set i<|some v) (f.set i<|some d):=
 ⟨c.tr,by rw[oV,oV];exact c.aX,λj e q=>by
  rw[p7] at q ⊢;by_cases z:i=j
  ·subst z;rw[aM rfl] at q ⊢;by_cases l:i<f.length
   ·rw[aM l] at q;rw[aM<|by rw[c.aX];exact l];grind
   grind
  ·rw[aL z] at q ⊢;exact c.kO j e q⟩
def c_(m:DE X e c d)(n:X.N.Nodup)(k:X.N[i]?=some x:=by rfl)(g:oO X.ae.scope x:=by first|exact cj rfl|exact gF rfl)(j:jg e (some (.Name x a)) b.line X.ae=pure false:=by rfl)(l:X.fn x=true\/X.ae.scope.names.lookup x=some .local:=by first|exact .inl rfl|exact .inr rfl):DS X (.Assign [.Name x a] e b) c (.nx (c.set i (some d))):=PS.aN (Db n k g m j l) λD p H⟨F,f,q⟩=>⟨F,f,λv o s h=>q _ o s<|(f.same s).set h⟩
def oN(K:ax)(g:TG)(B:Dt->aG->Option aG):Prop:=∀d e b,B d e=some b->∀v c H F Q,Cd K F H c e->Dx K (aI F H) v d->(∀a,Cd K F H a b->Q a H)->g v c H Q
def b1(i:Nat):Dt->aG->Option aG:=λd a=>some<|a.set i<|some d
def b2(i j:Nat):Dt->aG->Option aG:=λd a=>match d with
 |.a9 [x,y]=>some<|(a.set i<|some x).set j<|some y
 |_=>none
def b3(i j k:Nat):Dt->aG->Option aG:=λd a=>match d with
 |.a9 [x,y,z]=>some<|((a.set i<|some x).set j<|some y).set k<|some z
 |_=>none
def pO(K:ax)(i:Nat):oN K (jN i) (b1 i):=λd f a e v c H F Q b h k=>by cases e;exact k _<|b.set h
def wN(K:ax)(i j:Nat):oN K (wv K 2<|nu (jN i)<|nu (jN j) wA) (b2 i j):=λd n b e v m H F Q l h k=>by
 unfold b2 at e;split at e
 ·cases e;cases h with
  |a9 c a=>
   cases a with
   |cons g a=>
    cases a with
    |cons f a=>cases a;exact⟨_,_,rfl,et bm c,rfl,_,_,rfl,_,_,rfl,rfl,k _<|(l.set g).set f⟩
 grind
def Zu(K:ax)(i j l:Nat):oN K (wv K 3<|nu (jN i)<|nu (jN j)<|nu (jN l) wA) (b3 i j l):=λd p b e v o H F Q n h k=>by
 unfold b3 at e;split at e
 ·cases e;cases h with
  |a9 c a=>
   cases a with
   |cons m a=>
    cases a with
    |cons g a=>
     cases a with
     |cons f a=>cases a;exact⟨_,_,rfl,et bm c,rfl,_,_,rfl,_,_,rfl,_,_,rfl,rfl,k _<|((n.set m).set g).set f⟩
 grind
def D2(K:ax)(F:aa->Bool)(J:It)(g:Hp)(f:List Dt):Prop:=∀(e:aa->Bool)(c:Hp),(∀b,e b=true->(c b).isSome=true)->aW (aI F g) (aI e c)->
 (∀(i:Nat)(d:Dt),f[i]?=some d->J.go i c/\∀x a,J.Ad i c x a->aW c a/\Dx K (aI e a) x d)/\J.qX f.length c
def L7(K:ax)(c:aG)(d:List Dt):TI:=λb H R=>∃F,Cd K F H b c/\∀J a,aW H a->D2 K F J a d->R J a
def DI(X:Cx)(c a:az)(b:aG)(d:List Dt):Prop:=PI X c a<|L7 X.K b d
def PI.aN(h:PI X d c t)(k:∀a H R,e a H R->t a H R):PI X d c e:=λb s a H R I q=>h b s a H R I<|k a H R q
def fc(h:DE X a j (.aq o)):DI X u a j o:=
 PI.aN (Uz h) λt H R⟨F,p,q⟩=>⟨F,p,λv r k l=>by
  cases l with
  |aq c g=>have f:=bm _ _ c;refine⟨_,rfl,⟨_,bi.of f⟩,q _ r k λA z _ b=>⟨λi d e=>?_,_,bi.of<|bm _ _<|b _ _ c,by rw[g.length];omega⟩⟩;obtain⟨w,hw,n⟩:=g.get e;refine⟨⟨_,w,bi.of<|bm _ _<|b _ _ c,hw⟩,λx s y=>?_⟩;obtain⟨m,y⟩:=y;subst m;have:=y _<|bi.of<|bm _ _<|b _ _ c;rw[hw] at this;cases this;exact⟨aW.refl _,n.same b⟩⟩
def C2(h:DE X a j (.a9 o)):DI X u a j o:=
 PI.aN (WR h) λt H R⟨F,p,q⟩=>⟨F,p,λv r k l=>by
  cases l with
  |a9 c g=>have f:=et bm c;refine⟨_,rfl,⟨_,f⟩,q _ r k λA z _ b=>⟨λi d e=>?_,_,et bm<|et b c,by rw[g.length];omega⟩⟩;obtain⟨w,hw,n⟩:=g.get e;refine⟨⟨_,w,et bm<|et b c,hw⟩,λx s y=>?_⟩;obtain⟨m,y⟩:=y;subst m;have:=y _<|et bm<|et b c;rw[hw] at this;cases this;exact⟨aW.refl _,n.same b⟩⟩
inductive sk(stp:Dt->aG->eh->Prop):List Dt->aG->eh->Prop
 |nil {ρ:aG}:sk stp [] ρ (.nx ρ)
 |next {d:Dt} {ds:List Dt} {ρ ρ1:aG} {o:eh}:stp d ρ (.nx ρ1)->sk stp ds ρ1 o->sk stp (d::ds) ρ o
 |ret {d v:Dt} {ds:List Dt} {ρ:aG}:stp d ρ (.rt v)->sk stp (d::ds) ρ (.rt v)
def Li(hi:DI X tg C n c)(hg:PG X tg g)(O:oN X.K g B)(hf:sk (λd n o=>∃b,B d n=some b/\e7 X j b o) c n o)(hp:o5 (aH X.prog X.w) X.A X.ae X.xe)(hc:X.cX=true)(hs:∀x,kU C X.ae x=pure x:=by intro _;rfl):
 DS X (.For tg C j [] d') n o:=by
 have hb:dr X j (λD U H=>∃n o,e7 X j n o/\D6 X.K n o D U H):=λR s U H D I⟨n,o,h,t⟩=>h R s U H D I t;refine PS.aN (KQ hp hc hi hg hb hs) λD U H⟨F,cd,q⟩=>⟨F,cd,λJ H1 Y it=>?_⟩
 refine⟨λi m k T=>m=c.length-i/\i<=c.length/\aW H1 T/\∃l,Cd X.K F T k l/\sk (λd n o=>∃b,B d n=some b/\e7 X j b o) (c.drop i) l o,⟨c.length,rfl,j0 _,aW.refl _,n,cd.same Y,hf⟩,?_⟩;rintro i m k T ⟨rfl,f',Q,l,M,f⟩;have S:=it F T (jj cd.tr<|Y.trans Q)<|ca Q;generalize hr:c.drop i=r at f;cases f with
 |nil=>
  have e:i=c.length:=by have:=c9 u6 hr;grind
  refine .inl ⟨by grind,?_⟩;exact q k T (Y.trans Q) M
 |@next d r' _ N _ a fr=>
  have hd:c[i]?=some d:=by
   have:(c.drop i)[0]?=some d:=by grind
   grind
  have e':c.drop (i+1)=r':=by have:=c9 List.tail hr;rw[List.tail_drop] at this;grind
  have a':i<c.length:=by grind
  obtain⟨go,Z⟩:=S.1 i d hd;obtain⟨b,eb,L⟩:=a;refine .inr ⟨go,λz H2=>aW H1 H2/\Cd X.K F H2 z N,λz H2⟨E,p⟩=>⟨c.length-(i+1),by omega,rfl,a',E,N,p,by grind⟩,λx u y=>?_⟩;obtain⟨E,dx⟩:=Z x u y;refine O d l b eb x k u F _ (M.same E) dx λz p=>⟨b,_,L,F,p,λc' H3 s3 b'=>⟨(Q.trans E).trans s3,b'⟩⟩
 |@ret d v r' _ a=>
  have hd:c[i]?=some d:=by
   have:(c.drop i)[0]?=some d:=by grind
   grind
  obtain⟨go,Z⟩:=S.1 i d hd;obtain⟨b,eb,L⟩:=a;refine .inr ⟨go,λ_ _=>False,λ_ _ h=>h.elim,λx u y=>?_⟩;obtain⟨E,dx⟩:=Z x u y;exact O d l b eb x k u F _ (M.same E) dx λz p=>⟨b,_,L,F,p,λv H3 s3 h3=>q v H3 (Y.trans<|(Q.trans E).trans s3) h3⟩
def jo(a:aG):List Nat->aG
 |[]=>a
 |v::b=>(jo a b).set v none
def tR(a:L2.St):∀(b:List Nat)(j:Nat),(fW a b)[j]?=if j∈b then(a[j]?).map (λ_=>none) else a[j]?
 |[],j=>by rfl
 |v::b,j=>by
  show((fW a b).set v none)[j]?=_;rw[p7,vj];by_cases z:v=j;·grind
  ·rw[aL z,tR a b j];grind
def Hc(e:aG):∀(c:List Nat)(j:Nat)(d:Dt),(jo e c)[j]?=some (some d)->e[j]?=some (some d)/\j∉c
 |[],j,d,h=>⟨h,by simp⟩
 |v::c,j,d,h=>by
  have h:((jo e c).set v none)[j]?=some (some d):=h;rw[p7] at h;by_cases z:v=j;·grind
  ·rw[aL z] at h;obtain⟨a,b⟩:=Hc e c j d h;grind
def FA(a:aG):∀b:List Nat,(jo a b).length=a.length
 |[]=>rfl
 |v::b=>by show((jo a b).set v none).length=_;rw[oV,FA a b]
def Qk(b:L2.St)(a:List Nat):fW (fW b a) a=fW b a:=by apply ro;intro j;rw[tR,tR];grind
def tQ(b:L2.St)(a:List Nat)(c:i∈a)(v:Option V):fW (b.set i v) a=fW b a:=by apply ro;intro j;rw[tR,tR,p7];grind
def Cd.fW(h:Cd c f H k i)(g:List Nat):Cd c f H (fW k g) (jo i g):=⟨h.tr,by rw[vj,FA];exact h.aX,λj d e=>by obtain⟨a,b⟩:=Hc i g j d e;rw[tR,aL b];exact h.kO j d a⟩
def rc(K:ax)(g:TG)(B:Dt->aG->Option aG)(f:List Nat):Prop:=∀d e b,B d e=some b->∀v c H F Q,Cd K F H c e->Dx K (aI F H) v d->(∀a,Cd K F H a b->fW a f=fW c f->Q a H)->g v c H Q
def mI(K:ax)(i:Nat)(c:i∈b:=by decide):rc K (jN i) (b1 i) b:=λd j a e v g H F Q f h k=>by cases e;exact k _ (f.set h)<|tQ _ _ c _
def sx(K:ax)(i j:Nat)(l:i∈b:=by decide)(g:j∈b:=by decide):rc K (wv K 2<|nu (jN i)<|nu (jN j) wA) (b2 i j) b:=λd q c e v p H F Q o h k=>by
 unfold b2 at e;split at e
 ·cases e;cases h with
  |a9 f a=>
   cases a with
   |cons n a=>
    cases a with
    |cons m a=>cases a;exact⟨_,_,rfl,et bm f,rfl,_,_,rfl,_,_,rfl,rfl,k _ ((o.set n).set m)<|(tQ _ _ g _).trans<|tQ _ _ l _⟩
 grind
def L6(K:ax)(i j l:Nat)(n:i∈b:=by decide)(m:j∈b:=by decide)(g:l∈b:=by decide):rc K (wv K 3<|nu (jN i)<|nu (jN j)<|nu (jN l) wA) (b3 i j l) b:=λd t c e v s H F Q r h k=>by
 unfold b3 at e;split at e
 ·cases e;cases h with
  |a9 f a=>
   cases a with
   |cons q a=>
    cases a with
    |cons p a=>
     cases a with
     |cons o a=>cases a;exact⟨_,_,rfl,et bm f,rfl,_,_,rfl,_,_,rfl,_,_,rfl,rfl,k _ (((r.set q).set p).set o)<|(tQ _ _ g _).trans<|(tQ _ _ m _).trans<|tQ _ _ n _⟩
 grind
def sC(X:Cx)(a:List az)(c:aG)(b:Bool):Prop:=rh X a<|wO X.K c b
def kF:sC X [] c true:=λa s b H Q I⟨F,d,q⟩=>VN a s b H Q I<|q H<|aW.refl H
def rS(h:DT X c a b):sC X [c] a b:=VE h
def TC(c:a D=none)(h:∀b o,b≠D->a b=some o->d b=some o):aW a d:=λb o e=>h b o (l7 e c) e
def LX{X:Cx}{r:List (ak×Nat)}(p:Dt->Bool)(f:Dt->Dt)(l':rc X.K g B (r.map (·.2)))(ht:∀(s:am)(H:Hp)(C:aa)(E:List (ak×aa))(A:List aa),∀d∈l,∀c,B d (jo ρ (r.map (·.2)))=some c->sC (X.dX s H a (e9 a E C X.ae) A) f' c (p d)/\
 (p d=true->DE (X.dX s H a (e9 a E C X.ae) A) j' c (f d)))(hB:∀d∈l,∃c,B d (jo ρ (r.map (·.2)))=some c)(hl:l.length<=bx):∃tt te,(∀(s:am)(H:Hp)(C:aa)(E:List (ak×aa))(A:List aa),rh (X.dX s H a (e9 a E C X.ae) A) f' tt)/\
 (∀(s:am)(H:Hp)(C:aa)(E:List (ak×aa))(A:List aa),PE (X.dX s H a (e9 a E C X.ae) A) j' te)/\∀M H Q,wP X.K ρ (.aq ((l.filter p).map f)) M H Q->wQ (L7 X.K ρ l) g tt te (r.map (·.2)) M H Q:=by
 have pt:∀(s:am)(H:Hp)(C:aa)(E:List (ak×aa))(A:List aa),rh (X.dX s H a (e9 a E C X.ae) A) f' (λM H Q=>∃d c,d∈l/\B d (jo ρ (r.map (·.2)))=some c/\wO X.K c (p d) M H Q):=λs H C E A N Y M R Q I⟨d,c,hd,Z,t⟩=>by obtain⟨h,_⟩:=ht s H C E A d hd c Z;exact h N Y M R Q I t
 have pe:∀(s:am)(H:Hp)(C:aa)(E:List (ak×aa))(A:List aa),PE (X.dX s H a (e9 a E C X.ae) A) j' (λM H Q=>∃d c,d∈l/\p d=true/\B d (jo ρ (r.map (·.2)))=some c/\wP X.K c (f d) M H Q):=λs H C E A N Y M R Q I⟨d,c,hd,hp,Z,t⟩=>by obtain⟨_,h⟩:=ht s H C E A d hd c Z;exact h hp N Y M R Q I t
 refine⟨_,_,pt,pe,λM H Q⟨F,cd,q⟩=>⟨F,cd,λJ R Y it D hD=>?_⟩⟩;have a':∀b,F b=true->(R b).isSome=true:=jj cd.tr Y;have q':F D=false:=jJ a' hD;let L:aa->Bool:=λb=>F b||decide (b=D);have i':L D=true:=by grind
 have c':aW (aI F R) (aI L R):=λb o e=>by unfold aI at e ⊢;grind
 have m':∀w,aW (aI L w) (aI F w):=λw b o e=>by unfold aI at e ⊢;grind
 have g':∀(w:Hp)(o:HO),aI L (bv w D o)=aI L w:=λw o=>by
  funext b;unfold aI;by_cases z:L b=true;·grind
  ·rw[aL z,aL z,ew λ(k:b=D)=>z<|by rw[k];exact i']
 refine⟨λi m w=>m=l.length-i/\i<=l.length/\(∀b o,b≠D->R b=some o->w b=some o)/\∃n,w D=some (.aq n)/\bu X.K (aI L w) n (((l.take i).filter p).map f),⟨l.length,rfl,j0 _,λb o nb e=>by rw[ew nb];exact e,[],pf,.nil⟩,?_⟩;rintro i m w ⟨rfl,p',kp,n,h',u⟩;have s':aW R w:=TC hD kp;have b':∀b,L b=true->(w b).isSome=true:=λb z=>by
  by_cases k:b=D;·grind
  ·have z':F b=true:=by grind
   exact jj a' s' b z'
 have e':=it L w b'<|c'.trans<|ca s';by_cases S:i<l.length
 ·have hd:l[i]?=some l[i]:=d9 S;have O:l[i]∈l:=xg S;obtain⟨go,yl⟩:=e'.1 i _ hd;refine .inr ⟨go,λU=>(∀b o,b≠D->R b=some o->U b=some o)/\∃n,U D=some (.aq n)/\bu X.K (aI L U) n (((l.take (i+1)).filter p).map f),λU⟨k2,a2⟩=>⟨l.length-(i+1),by omega,rfl,S,k2,a2⟩,λx U y=>?_⟩;obtain⟨s2,dx⟩:=yl x U y;have n':Cd X.K L U (fW M (r.map (·.2))) (jo ρ (r.map (·.2))):=by refine(Cd.fW ?_ _);refine⟨jj b' s2,cd.aX,λj d e=>?_⟩;obtain⟨v,h1,h2⟩:=cd.kO j d e;exact⟨v,h1,((h2.same<|ca Y).same c').same<|ca<|s'.trans s2⟩
  obtain⟨c,Z⟩:=hB _ O;have tk:(l.take (i+1)).filter p=(l.take i).filter p++(if p l[i]=true then[l[i]] else[]):=by rw[nJ S,List.filter_append];grind
  refine l' _ _ c Z x _ U L _ n' dx λo' k' hw=>⟨hw.trans<|Qk _ _,_,c,O,Z,L,k',λH3 s3=>?_⟩
  have T:H3 D=some (.aq n):=s3 _ _<|s2 _ _ h';have d':∀b o,b≠D->R b=some o->H3 b=some o:=λb o nb e=>s3 _ _<|s2 _ _<|kp b o nb e;cases hp:p l[i] with
  |false=>refine YM ⟨d',n,T,?_⟩;rw[tk,aL (by grind),xh];exact u.same<|ca<|s2.trans s3
  |true=>
   refine YO ⟨_,c,O,hp,Z,L,k'.same s3,λv H4 s4 hv=>⟨n,s4 _ _ T,?_,?_⟩⟩
   ·have l1:=u.length;grind
   ·refine⟨λb o nb e=>by rw[ew nb];exact s4 _ _<|d' b o nb e,n++[v],pf,?_⟩;rw[g',tk,aM hp,dw];exact(u.same<|ca<|s2.trans<|s3.trans s4).append<|.one hv
 ·have e:i=l.length:=by omega
  subst e;refine .inl ⟨e'.2,q _ w (Y.trans s')<|.aq (xs:=n) ?_ ?_⟩
  ·unfold aI;grind
  ·rw[EJ] at u;exact u.same<|m' w
def Yj{X:Cx}(p:Dt->Bool)(f:Dt->Dt)(w:DI X n c l i)(r:pz X.N X.ae.scope a e)(y:∀(s:am)(H:Hp)(C:aa)(j:List (ak×aa))(h:List aa),PG (X.dX s H a (e9 a j C X.ae) h) n g)(m:rc X.K g B (e.map (·.2)))(t:∀(s:am)(H:Hp)(C:aa)(j:List (ak×aa))(h:List aa),∀d∈i,∀b,B d (jo l (e.map (·.2)))=some b->sC (X.dX s H a (e9 a j C X.ae) h) ifs b (p d)/\
 (p d=true->DE (X.dX s H a (e9 a j C X.ae) h) elt b (f d)))(D:∀d∈i,∃b,B d (jo l (e.map (·.2)))=some b)(v:i.length<=bx)(z:X.cX=true)(A:X.N.Nodup)(u:∀x,kU c X.ae x=pure x:=by intro _;rfl):DE X (.ListComp elt [⟨n,c,ifs,0⟩] a pos) l (.aq ((i.filter p).map f)):=by
 obtain⟨E,I,o,q,k⟩:=LX p f m t D v;exact PE.aN (XI z A w r y o q u) k
def RK{X:Cx}{py:bf}(p:Dt->Bool)(f:Dt->Dt)(Q:DI X r c j m)(I:pz X.N X.ae.scope a e)(R:∀(s:am)(H:Hp)(C:aa)(n:List (ak×aa))(l:List aa),PG (X.dX s H a (e9 a n C X.ae) l) r g)(o:rc X.K g B (e.map (·.2)))(L:∀(s:am)(H:Hp)(C:aa)(n:List (ak×aa))(l:List aa),∀d∈m,∀b,B d (jo j (e.map (·.2)))=some b->sC (X.dX s H a (e9 a n C X.ae) l) ifs b (p d)/\
 (p d=true->DE (X.dX s H a (e9 a n C X.ae) l) elt b (f d)))(U:∀d∈m,∃b,B d (jo j (e.map (·.2)))=some b)(O:m.length<=bx)(S:X.cX=true)(T:X.N.Nodup)(J:X.N[i]?=some y)(t:X.ae.scope.names.lookup y=some .local)(u:jg (.ListComp elt [⟨r,c,ifs,0⟩] a pos) (some (.Name y py)) spos.line X.ae=pure true)(M:∀x,kU c X.ae x=pure x:=by intro _;rfl):
 DS X (.Assign [.Name y py] (.ListComp elt [⟨r,c,ifs,0⟩] a pos) spos) j (.nx<|j.set i<|some<|.aq<|(m.filter p).map f):=by
 obtain⟨Z,te,A,E,k⟩:=LX p f o L U O;exact PS.aN (Si S T J t u Q I R A E M) λD z H⟨F,w,q⟩=>k z H _ ⟨F,w,λv Y s h=>q _ Y s<|(w.same s).set h⟩
def aA.aX(h:∀e d,R e d->e.length=n):∀c H Q E,aA b R c H Q E->c.length=n:=λc H Q E⟨F,e,d,_,a,r,_⟩=>by rw[a.length];grind
def QI{j:Nat}(h:a[j]?=some v):(start N a)[j]?=some (some v):=by unfold L2.start;grind
def sr(N:List ak)(a:List Dt):aG:=a.map some++ab2 (N.length-a.length) none
def vD{K:ax}{F:aa->Bool}(a:∀b,F b=true->(H b).isSome=true)(h:bu K (aI F H) vs ds):Cd K F H (start N vs) (sr N ds):=by
 refine⟨a,?_,λj d e=>?_⟩
 ·unfold L2.start sr;rw[jY,jY,bS,bS,aaP,aaP,h.length]
 ·unfold sr at e;by_cases g:j<ds.length
  ·rw[En (by grind),hZ] at e;cases q:ds[j]? with
   |none=>grind
   |some i=>rw[q] at e;cases e;obtain⟨v,f,c⟩:=h.get q;exact⟨v,QI f,c⟩
  grind
def cN(F:bK e x j b f C)(S:bP N p (bh b))(o:∀m d,R m d->m.length=p.length)(l:∀(i:af)(A:b8)(g:List fA)(s:am)(H:Hp)(E:XK)(m:List Dt)(d:Dt),dn k (A.deeper (mV j (bh b) s.heap.objs.size f i))->R m d->
 e7 (mr bC c w e y n N j (bh b) f i A g s H E).oM (iF b) (sr N m) (.rt d)):bB c w e y n bC (k+1) f C p (aA e R):=by
 refine F.ok S (aA.aX o) λi A g s H I Q E z h=>?_;obtain⟨G,m,d,t,a,r,q⟩:=h;exact⟨_,l i A g s H E m d z r,G,vD t a,λv D u B=>q v D u B⟩
def QZ{r:aJ->Prop}(W:Walks m w A.in1 I fp C n d a)(nS:S∉fp)(d':∀h g,r h->(∀b o,b∉C->b≠S->h.get? b=some o->g.get? b=some o)->r g)(T:∀i j X U(s:am)(Q:af->am->Prop)(E:af->am->Prop),r s.heap->d i X->d j U->Q (.bool (y i j)) s->aw (aH m w) A.in1 (mQ .Lt X U) Q E s):
 ∀(k j:Nat)(s:am)(l:af)(c:Nat),n-(j+1)=k->j+1<=n->a (j+1) s.heap->r s.heap->d (f8 y j) l->s.heap.get? S=some { cls:=.type "list",dict:=none,data:=.seq #[l,l] c,slots:=#[]}->
  (∀v g B,d (f8 y (n-1)) v->(∀b o,b∉C->b≠S->s.heap.get? b=some o->g.get? b=some o)->R (.ok (.ret v)) { s with heap:=g,toks:=B})->
  mU (aH m w) A (.builtin "min.loop" ⟨[.ref I,.none,.ref S],[]⟩) R s:=by
 have u:S∉C:=λh=>nS<|W.sub _ h;have Z:(toString "min"++toString ".loop":String)="min.loop":=by decide
 intro k;induction k with
 |zero=>
  intro j s l c e1 e2 st O L x q;have en:j+1=n:=by omega
  refine nV MJ ?_;rw[nN sQ _];show aw _ A.in1 (va (.ref S) >>= _) _ _ s;refine ao<|fG x rfl ?_;show aw _ A.in1 (tryCatch (e_<|.ref I) _ >>= _) _ _ s;refine ao<|rz<|W.done s _ _ (en▸st) λg B kp=>?_;have f:=kp S _ u x;show aw _ A.in1 (rD S (λ_=>#[]) >>= _) _ _ _;refine ao<|je f rfl<|ao<|jF<|a8 ?_;exact q l _ B (by grind) λb o z1 z2 e=>(lR _ _<|ci z2).trans<|kp b o z1 e
 |succ k ih=>
  intro j s l c e1 e2 st O L x q;have M:j+1<n:=by omega
  refine nV MJ ?_;rw[nN sQ _];show aw _ A.in1 (va (.ref S) >>= _) _ _ s;refine ao<|fG x rfl ?_;show aw _ A.in1 (tryCatch (e_<|.ref I) _ >>= _) _ _ s;refine ao<|rz<|W.item (j+1) s _ _ M st λv g B pv t kp=>?_;have f:=kp S _ u x;have p:r g:=by grind
  show aw _ A.in1 (tryCatch (Fj [v,v]<|mQ .Lt v l >>= _) _ >>= _) _ _ _;refine ao<|rz<|jf<|ao<|T (j+1) (f8 y j) v l _ _ _ p pv L ?_;refine ao (jf<|p8 ?_);refine ao<|jF<|a8 ?_;cases hb:y (j+1) (f8 y j) with
  |true=>simp only[k6];refine ao<|je f rfl<|ao<|jF ?_;rw[Z];have bv:∀b o,b≠S->g.get? b=some o->(g.update S (cM λ_=>#[v,v])).get? b=some o:=λb o z e=>(lR _ _<|ci z).trans e;refine a8 ⟨kX sQ _,ih (j+1) _ v _ (by omega) M (W.frame _ _ _ t<|by grind) (by grind) (by simp only[f8,hb,k6];exact pv) (jX _ f rfl) λv' h2 D J N=>?_⟩;grind
  |false=>simp only[nP,oi];refine ao<|jF ?_;rw[Z];refine a8 ⟨kX sQ _,ih (j+1) _ l c (by omega) M t p (by simp only[f8,hb,nP,oi];exact L) f λv' h2 D J N=>?_⟩;grind
def FW{φ:aJ->Prop}{S:aa}(W:Walks g w A.in1 I fp l n d a)(D:S∉fp)(t:∀h f,φ h->(∀b o,b∉l->b≠S->h.get? b=some o->f.get? b=some o)->φ f)(u:∀i j y x(s:am)(Q:af->am->Prop)(E:af->am->Prop),φ s.heap->d i y->d j x->Q (.bool (bt i j)) s->aw (aH g w) A.in1 (mQ .Lt y x) Q E s)(H:0<n)(st:a 0 s.heap)(Z:φ s.heap)(M:s.heap.get? S=some { cls:=.type "list",dict:=none,data:=.seq #[] c,slots:=#[]})(q:∀v f C,d (f8 bt (n-1)) v->(∀b o,b∉l->b≠S->s.heap.get? b=some o->f.get? b=some o)->R (.ok (.ret v)) { s with heap:=f,toks:=C}):
 mU (aH g w) A (.builtin "min.loop" ⟨[.ref I,.none,.ref S],[]⟩) R s:=by
 have r:S∉l:=λh=>D<|W.sub _ h;have X:(toString "min"++toString ".loop":String)="min.loop":=by decide
 refine nV MJ ?_;rw[nN sQ _];show aw _ A.in1 (va (.ref S) >>= _) _ _ s;refine ao<|fG M rfl ?_;show aw _ A.in1 (tryCatch (e_<|.ref I) _ >>= _) _ _ s;refine ao<|rz<|W.item 0 s _ _ H st λv f C pv m kp=>?_;have k:=kp S _ r M;have J:φ f:=by grind
 show aw _ A.in1 (rD S (λ_=>#[v,v]) >>= _) _ _ _;refine ao<|je k rfl ?_;rw[X];have bv:∀b o,b≠S->f.get? b=some o->(f.update S (cM λ_=>#[v,v])).get? b=some o:=λb o z e=>(lR _ _<|ci z).trans e;refine a8 ⟨kX sQ _,QZ W D t u _ 0 _ v _ rfl H (W.frame _ _ _ m<|by grind) (by grind) pv (jX _ k rfl) λv' h2 T U Y=>?_⟩;grind
def Q9(N:A.handled=none)(u:s.heap.IsList l a)(J:0<a.size)(x:∀(i j:Nat)r p(f:am)(Q:af->am->Prop)(E:af->am->Prop),(∀b o,s.heap.get? b=some o->f.heap.get? b=some o)->a[i]?=some r->a[j]?=some p->Q (.bool (bt i j)) f->aw (aH d w) A.in1 (mQ .Lt r p) Q E f)(q:∀v g t,a[f8 bt (a.size-1)]?=some v->(∀b o,s.heap.get? b=some o->g.get? b=some o)->Q v { s with heap:=g,toks:=t}):aw (aH d w) A (call (.builtin "min") [.ref l]) Q E s:=by
 have I:(toString "min"++toString ".loop":String)="min.loop":=by decide
 have L:l<s.heap.objs.size:=by obtain⟨_,e,_⟩:=u;exact cq e
 refine Np aa6 aaV aaW (PySem.F.args_min1 _) ?_;show aw _ A.in1 (wZ "min" ["key","default"] 0 ⟨[],[]⟩ >>= _) _ _ s;refine ao<|NW (show wZ "min" ["key","default"] 0 ⟨[],[]⟩=pure [none,none] from rfl) ?_;refine ao<|a8<|ao<|uW u ?_;refine ao<|uX ?_;rw[I];have C:(s.heap.push { cls:=.type "list_iterator",data:=.fields #[.ref l,.int 0 0]}).objs.size=s.heap.objs.size+1:=iw ..;have W:=NQ (prog:=d) (w:=w) (A:=A.in1) N s.heap.objs.size l (fg L) a;refine a8 ⟨kX sQ _,FW (φ:=λh=>∀b o,s.heap.get? b=some o->h.get? b=some o) (bt:=bt) W (S:=(s.heap.push { cls:=.type "list_iterator",data:=.fields #[.ref l,.int 0 0]}).objs.size) ?_ ?_
  (λi j r p f Q E k H D q=>x i j r p f Q E k H D q) J (c:=0) ⟨⟨_,bV _<|dM _ rfl,rfl,rfl⟩,(u.push _).push _⟩ (λb o e=>bV _<|bV _ e) (dM _ rfl) ?_⟩
 ·grind
 ·intro h g k kp b o e;have M:=cq e;grind
 ·intro v g t pv kp;refine q v g t pv λb o e=>?_;have M:=cq e;refine kp b o (λm=>?_) (by grind)<|bV _<|bV _ e;grind
def R7{bt:Nat->Nat->Bool}(M:A.handled=none)(u:∀(i j:Nat)r p(l:am)(Q:af->am->Prop)(E:af->am->Prop),(∀b o,s.heap.get? b=some o->l.heap.get? b=some o)->(#[a,b]:Array af)[i]?=some r->(#[a,b]:Array af)[j]?=some p->Q (.bool (bt i j)) l->aw (aH g w) A.in1 (mQ .Lt r p) Q E l)(q:∀v n t,v=(if bt 1 0=true then b else a)->(∀b o,s.heap.get? b=some o->n.get? b=some o)->Q v { s with heap:=n,toks:=t}):aw (aH g w) A (call (.builtin "min") [a,b]) Q E s:=by
 have J:(toString "min"++toString ".loop":String)="min.loop":=by decide
 refine Np aa6 aaV aaW (PySem.F.args_min2 _ _) ?_;show aw _ A.in1 (wZ "min" ["key","default"] 0 ⟨[],[]⟩ >>= _) _ _ s;refine ao<|NW (show wZ "min" ["key","default"] 0 ⟨[],[]⟩=pure [none,none] from rfl) ?_;show aw _ A.in1 (newTuple [a,b] >>= _) _ _ s;refine ao<|uX ?_;have z:(s.heap.push { cls:=.type "tuple",data:=.seq #[a,b]}).IsTuple s.heap.objs.size #[a,b]:=⟨_,dM _ rfl,rfl,0,rfl⟩
 have C:(s.heap.push { cls:=.type "tuple",data:=.seq #[a,b]}).objs.size=s.heap.objs.size+1:=iw ..;refine ao<|No z ?_;refine ao<|uX ?_;rw[J];have W:=acs (prog:=g) (w:=w) (A:=A.in1) M (s.heap.push { cls:=.type "tuple",data:=.seq #[a,b]}).objs.size s.heap.objs.size (by grind) #[a,b];have B:((s.heap.push { cls:=.type "tuple",data:=.seq #[a,b]}).push { cls:=.type "tuple_iterator",data:=.fields #[.ref s.heap.objs.size,.int 0 0]}).objs.size=s.heap.objs.size+2:=by simp
 refine a8 ⟨kX sQ _,FW (φ:=λh=>∀b o,s.heap.get? b=some o->h.get? b=some o) (bt:=bt) W (S:=((s.heap.push { cls:=.type "tuple",data:=.seq #[a,b]}).push { cls:=.type "tuple_iterator",data:=.fields #[.ref s.heap.objs.size,.int 0 0]}).objs.size) ?_ ?_
  (λi j r p l Q E k I H q=>u i j r p l Q E k I H q) (by grind) (c:=0) ⟨⟨_,bV _<|dM _ rfl,rfl,rfl⟩,(z.push _).push _⟩ (λb o e=>bV _<|bV _<|bV _ e) (dM _ rfl) ?_⟩
 ·grind
 ·intro h n k kp b o e;have L:=cq e;grind
 ·intro v n t pv kp;refine q v n t ?_ λb o e=>?_
  ·have D:(#[a,b]:Array af)[f8 bt 1]?=some v:=pv;have O:f8 bt 1=if bt 1 0=true then 1 else 0:=rfl;grind
  ·have L:=cq e;refine kp b o (λm=>?_) (by grind)<|bV _<|bV _<|bV _ e;grind
def QY{r:aJ->Prop}(W:Walks m w A.in1 I fp C n d a)(nS:S∉fp)(d':∀h g,r h->(∀b o,b∉C->b≠S->h.get? b=some o->g.get? b=some o)->r g)(T:∀i j X U(s:am)(Q:af->am->Prop)(E:af->am->Prop),r s.heap->d i X->d j U->Q (.bool (y i j)) s->aw (aH m w) A.in1 (mQ .Gt X U) Q E s):
 ∀(k j:Nat)(s:am)(l:af)(c:Nat),n-(j+1)=k->j+1<=n->a (j+1) s.heap->r s.heap->d (f8 y j) l->s.heap.get? S=some { cls:=.type "list",dict:=none,data:=.seq #[l,l] c,slots:=#[]}->
  (∀v g B,d (f8 y (n-1)) v->(∀b o,b∉C->b≠S->s.heap.get? b=some o->g.get? b=some o)->R (.ok (.ret v)) { s with heap:=g,toks:=B})->
  mU (aH m w) A (.builtin "max.loop" ⟨[.ref I,.none,.ref S],[]⟩) R s:=by
 have u:S∉C:=λh=>nS<|W.sub _ h;have Z:(toString "max"++toString ".loop":String)="max.loop":=by decide
 intro k;induction k with
 |zero=>
  intro j s l c e1 e2 st O L x q;have en:j+1=n:=by omega
  refine nV MK ?_;rw[nN uR _];show aw _ A.in1 (va (.ref S) >>= _) _ _ s;refine ao<|fG x rfl ?_;show aw _ A.in1 (tryCatch (e_<|.ref I) _ >>= _) _ _ s;refine ao<|rz<|W.done s _ _ (en▸st) λg B kp=>?_;have f:=kp S _ u x;show aw _ A.in1 (rD S (λ_=>#[]) >>= _) _ _ _;refine ao<|je f rfl<|ao<|jF<|a8 ?_;exact q l _ B (by grind) λb o z1 z2 e=>(lR _ _<|ci z2).trans<|kp b o z1 e
 |succ k ih=>
  intro j s l c e1 e2 st O L x q;have M:j+1<n:=by omega
  refine nV MK ?_;rw[nN uR _];show aw _ A.in1 (va (.ref S) >>= _) _ _ s;refine ao<|fG x rfl ?_;show aw _ A.in1 (tryCatch (e_<|.ref I) _ >>= _) _ _ s;refine ao<|rz<|W.item (j+1) s _ _ M st λv g B pv t kp=>?_;have f:=kp S _ u x;have p:r g:=by grind
  show aw _ A.in1 (tryCatch (Fj [v,v]<|mQ .Gt v l >>= _) _ >>= _) _ _ _;refine ao<|rz<|jf<|ao<|T (j+1) (f8 y j) v l _ _ _ p pv L ?_;refine ao (jf<|p8 ?_);refine ao<|jF<|a8 ?_;cases hb:y (j+1) (f8 y j) with
  |true=>simp only[k6];refine ao<|je f rfl<|ao<|jF ?_;rw[Z];have bv:∀b o,b≠S->g.get? b=some o->(g.update S (cM λ_=>#[v,v])).get? b=some o:=λb o z e=>(lR _ _<|ci z).trans e;refine a8 ⟨kX uR _,ih (j+1) _ v _ (by omega) M (W.frame _ _ _ t<|by grind) (by grind) (by simp only[f8,hb,k6];exact pv) (jX _ f rfl) λv' h2 D J N=>?_⟩;grind
  |false=>simp only[nP,oi];refine ao<|jF ?_;rw[Z];refine a8 ⟨kX uR _,ih (j+1) _ l c (by omega) M t p (by simp only[f8,hb,nP,oi];exact L) f λv' h2 D J N=>?_⟩;grind
def PL{φ:aJ->Prop}{S:aa}(W:Walks g w A.in1 I fp l n d a)(D:S∉fp)(t:∀h f,φ h->(∀b o,b∉l->b≠S->h.get? b=some o->f.get? b=some o)->φ f)(u:∀i j y x(s:am)(Q:af->am->Prop)(E:af->am->Prop),φ s.heap->d i y->d j x->Q (.bool (bt i j)) s->aw (aH g w) A.in1 (mQ .Gt y x) Q E s)(H:0<n)(st:a 0 s.heap)(Z:φ s.heap)(M:s.heap.get? S=some { cls:=.type "list",dict:=none,data:=.seq #[] c,slots:=#[]})(q:∀v f C,d (f8 bt (n-1)) v->(∀b o,b∉l->b≠S->s.heap.get? b=some o->f.get? b=some o)->R (.ok (.ret v)) { s with heap:=f,toks:=C}):
 mU (aH g w) A (.builtin "max.loop" ⟨[.ref I,.none,.ref S],[]⟩) R s:=by
 have r:S∉l:=λh=>D<|W.sub _ h;have X:(toString "max"++toString ".loop":String)="max.loop":=by decide
 refine nV MK ?_;rw[nN uR _];show aw _ A.in1 (va (.ref S) >>= _) _ _ s;refine ao<|fG M rfl ?_;show aw _ A.in1 (tryCatch (e_<|.ref I) _ >>= _) _ _ s;refine ao<|rz<|W.item 0 s _ _ H st λv f C pv m kp=>?_;have k:=kp S _ r M;have J:φ f:=by grind
 show aw _ A.in1 (rD S (λ_=>#[v,v]) >>= _) _ _ _;refine ao<|je k rfl ?_;rw[X];have bv:∀b o,b≠S->f.get? b=some o->(f.update S (cM λ_=>#[v,v])).get? b=some o:=λb o z e=>(lR _ _<|ci z).trans e;refine a8 ⟨kX uR _,QY W D t u _ 0 _ v _ rfl H (W.frame _ _ _ m<|by grind) (by grind) pv (jX _ k rfl) λv' h2 T U Y=>?_⟩;grind
def R_{bt:Nat->Nat->Bool}(M:A.handled=none)(u:∀(i j:Nat)r p(l:am)(Q:af->am->Prop)(E:af->am->Prop),(∀b o,s.heap.get? b=some o->l.heap.get? b=some o)->(#[a,b]:Array af)[i]?=some r->(#[a,b]:Array af)[j]?=some p->Q (.bool (bt i j)) l->aw (aH g w) A.in1 (mQ .Gt r p) Q E l)(q:∀v n t,v=(if bt 1 0=true then b else a)->(∀b o,s.heap.get? b=some o->n.get? b=some o)->Q v { s with heap:=n,toks:=t}):aw (aH g w) A (call (.builtin "max") [a,b]) Q E s:=by
 have J:(toString "max"++toString ".loop":String)="max.loop":=by decide
 refine Np PySem.F.kind_max PySem.F.plain_max PySem.F.entry_max (PySem.F.args_max2 _ _) ?_;show aw _ A.in1 (wZ "max" ["key","default"] 0 ⟨[],[]⟩ >>= _) _ _ s;refine ao<|NW (show wZ "max" ["key","default"] 0 ⟨[],[]⟩=pure [none,none] from rfl) ?_;show aw _ A.in1 (newTuple [a,b] >>= _) _ _ s;refine ao<|uX ?_;have z:(s.heap.push { cls:=.type "tuple",data:=.seq #[a,b]}).IsTuple s.heap.objs.size #[a,b]:=⟨_,dM _ rfl,rfl,0,rfl⟩
 have C:(s.heap.push { cls:=.type "tuple",data:=.seq #[a,b]}).objs.size=s.heap.objs.size+1:=iw ..;refine ao<|No z ?_;refine ao<|uX ?_;rw[J];have W:=acs (prog:=g) (w:=w) (A:=A.in1) M (s.heap.push { cls:=.type "tuple",data:=.seq #[a,b]}).objs.size s.heap.objs.size (by grind) #[a,b];have B:((s.heap.push { cls:=.type "tuple",data:=.seq #[a,b]}).push { cls:=.type "tuple_iterator",data:=.fields #[.ref s.heap.objs.size,.int 0 0]}).objs.size=s.heap.objs.size+2:=by simp
 refine a8 ⟨kX uR _,PL (φ:=λh=>∀b o,s.heap.get? b=some o->h.get? b=some o) (bt:=bt) W (S:=((s.heap.push { cls:=.type "tuple",data:=.seq #[a,b]}).push { cls:=.type "tuple_iterator",data:=.fields #[.ref s.heap.objs.size,.int 0 0]}).objs.size) ?_ ?_
  (λi j r p l Q E k I H q=>u i j r p l Q E k I H q) (by grind) (c:=0) ⟨⟨_,bV _<|dM _ rfl,rfl,rfl⟩,(z.push _).push _⟩ (λb o e=>bV _<|bV _<|bV _ e) (dM _ rfl) ?_⟩
 ·grind
 ·intro h n k kp b o e;have L:=cq e;grind
 ·intro v n t pv kp;refine q v n t ?_ λb o e=>?_
  ·have D:(#[a,b]:Array af)[f8 bt 1]?=some v:=pv;have O:f8 bt 1=if bt 1 0=true then 1 else 0:=rfl;grind
  ·have L:=cq e;refine kp b o (λm=>?_) (by grind)<|bV _<|bV _<|bV _ e;grind
end L3
namespace HT
open PySem PyProof.Rows
def TH(A:b8)(s:am)(a:Int)(t:fR)(c:Int)(u:fR)(b:a0)(w:aT)(E:af->am->Prop)(Q:af->am->Prop)(h:Q (.bool<|decide<|c<a) s):
 aw (aH b w) A (mQ .Gt (.int a t)<|.int c u) Q E s:=
 (abZ h:aw (aH b w) A (gw .Gt (.int a t)<|.int c u) Q E s)
section
open PySem.SeqAt
open PySem.AutoSeq1(wpAny_loadPart')
open PySem.MeetsSeq PySem.MeetsSeq2 PySem.MeetsSeq3
def Od(l b:aa)(i f:Array af)(n n2:Nat)(dd X:Option aa)(sl N:Array (Option af))(Q S:List Int)(hi:iB i.toList Q)(hj:iB f.toList S):
 Meets (Builtin.«tuple.__gt__» ⟨[.ref l,.ref b],[]⟩)
  (λ_ R s=>s.heap.get? l=some { cls:=.type "tuple",dict:=dd,data:=.seq i n,slots:=sl}/\s.heap.get? b=some { cls:=.type "tuple",dict:=X,data:=.seq f n2,slots:=N}/\
   R (.ok<|.ret<|.bool<|lexLt S Q) s):=
 .of_wp λr w A R s h=>by
  obtain⟨M,g,d,L,os⟩:=s;obtain⟨hl,hb,h⟩:=h;have f2:=aab;have z1:i.size=Q.length:=by rw[<-hi.length];simp
  have z2:f.size=S.length:=by rw[<-hj.length];simp
  wp_walk using p_ hl,p_ hb,acE _ (λq b O=>b.1=none/\O=⟨M,g,d,L,os⟩/\∃(J I:List af)(k m:List Int),q=J.zip I/\
   iB J k/\iB I m/\k.length+f.size=m.length+i.size/\R (.ok<|.ret<|.bool<|lexLt m k) ⟨M,g,d,L,os⟩) _
  case turn=>
   rintro⟨y,x⟩ q b O ⟨B,rfl,J,I,k,m,o,z,p,j,C⟩;cases z with
   |nil=>rw[abv] at o;cases o
   |cons a t a'=>
    cases p with
    |nil=>rw[abd] at o;cases o
    |cons c u Z=>
     rw[xc] at o;injection o with T V;injection T with hy hx;subst hy hx;rw[FP] at C;simp only[dI] at j;obtain⟨e,he,D⟩:=Ir A.in1 ⟨M,g,d,L,os⟩ a t c u;refine ao<|he r w _ _ ?_;cases e with
     |true=>
      rw[aM (D.mp rfl).symm] at C
      wp_walk
      grind
     |false=>
      rw[aL<|by grind] at C;have U:=TH A.in1 ⟨M,g,d,L,os⟩ a t c u r w
      wp_walk using U
      grind
  case fin=>
   rintro⟨b1,b2⟩ O ⟨B,rfl,J,I,k,m,o,z,p,j,C⟩;simp only at B;subst B;have hv:lexLt m k=decide (f.size<i.size):=by
    cases z with
    |nil=>
     cases p with
     |nil=>simp only[uY] at j;rw[Fu];grind
     |cons c u hw=>simp only[uY,dI] at j;rw[Fp];grind
    |cons a t hv=>
     cases p with
     |nil=>simp only[uY,dI] at j;rw[Fo];grind
     |cons c u hw=>rw[xc] at o;cases o
   rw[hv] at C
   wp_walk
   exact⟨_,rfl,by simpa [ZS] using C⟩
  grind
end
def FX{Q:af->am->Prop}(y:vf s.heap l c)(C:vf s.heap b a)(B:iB c.toList g)(z:iB a.toList i)(v:A.units<cH)(h:Q (.bool<|lexLt i g) s):aw (aH prog w) A (gw .Gt (.ref l)<|.ref b) Q E s:=by
 obtain⟨⟨H,D,q,t⟩,m,p,n,o⟩:=id y;obtain⟨⟨r,k,data2,j⟩,d,f,u,e⟩:=id C;simp only at p o f e;subst p o f e;exact abo (op:=.Gt) ⟨_,m,rfl⟩ ⟨_,d,rfl⟩ PySem.F.slot_tuple_gt PySem.F.entry_tuple_gt (PySem.F.args_tuple_gt_2 _ _) (Od l b c a n u D k t j g i B z)
  ⟨m,d,show lY (lexLt i g)≠aaO/\Q (.bool<|lexLt i g) s from⟨(λx=>nomatch x),h⟩⟩ v
end HT
namespace L3
open PySem PySem.Spec PyProof.Rows L2
open Sy(Pt before)
def dP(p:Pt):Dt:=.a9 [.int p.1,.int p.2]
def xZ(p q:Pt):HT.lexLt [p.1,p.2] [q.1,q.2]=aY p q:=by
 show(if p.1=q.1 then(if p.2=q.2 then false else decide (p.2<q.2)) else decide (p.1<q.1))=(decide (p.1<q.1)||(p.1==q.1&&decide (p.2<q.2)))
 grind
def ig(h:Dx b H v (dP p)):∃a,v=.ref a/\cV b H a [.int p.1,.int p.2]:=by
 cases h with
 |a9 f c=>
  cases c with
  |cons e c=>
   cases e;cases c with
   |cons d c=>cases d;cases c;grind
def uc(I:Inv X c f H s){p:Pt}(h:cV X.K H a [.int p.1,.int p.2]):∃b,vf s.heap a b/\iB b.toList [p.1,p.2]:=by obtain⟨b,d,e,_⟩:=I.tuple h;exact⟨b.toArray,e,by simpa using xY (ns:=[p.1,p.2]) d⟩
def Mw(K:ax)(g:Pt->Pt->Bool):R2:=λx y H Q=>∃a b p q,x=.ref a/\y=.ref b/\cV K H a [.int p.1,.int p.2]/\cV K H b [.int q.1,.int q.2]/\Q (.bl (g p q)) H
def W3(j:X.A.units<cH):eP X (gw .Lt) (Mw X.K aY):=by intro c s r H x y v u Q I i h ⟨a,b,p,q,o,n,m,l,k⟩;subst o n;cases i;cases h;obtain⟨w,g,e⟩:=uc I m;obtain⟨t,f,d⟩:=uc I l;exact HT.FO g f e d j ⟨.bl _,H,I,by rw[xZ];rfl,k⟩
def W5(j:X.A.units<cH):eP X (gw .Gt) (Mw X.K λp q=>aY q p):=by intro c s r H x y v u Q I i h ⟨a,b,p,q,o,n,m,l,k⟩;subst o n;cases i;cases h;obtain⟨w,g,e⟩:=uc I m;obtain⟨t,f,d⟩:=uc I l;exact HT.FX g f e d j ⟨.bl _,H,I,by rw[xZ];rfl,k⟩
def qQ(h:Dx b H v (dP p)):Dp b H v (.tuple [.int p.1,.int p.2]):=by obtain⟨a,rfl,c⟩:=ig h;exact .a9 c<|.cons (.int _)<|.cons (.int _) .nil
def vW(p q:Pt):tA (.tuple [.int p.1,.int p.2]) (.tuple [.int q.1,.int q.2])=decide (p=q):=by rw[mM];simp[tA,abS,acy]
def Dd(i:DE X a c (dP p))(h:DE X b c (dP q))(g:X.A.units<cH):DE X (.Compare a [.Lt] [b] f) c (.bl<|aY p q):=CB (W3 g) i h (qK b) λF x y H Q l j k=>by obtain⟨a,rfl,e⟩:=ig l;obtain⟨b,rfl,d⟩:=ig j;exact⟨_,_,p,q,rfl,rfl,et bm e,et bm d,k _ H (aW.refl H)<|.bl _⟩
def Ko(i:DE X a c (dP p))(h:DE X b c (dP q))(g:X.A.units<cH):DT X (.Compare a [.Gt] [b] f) c (aY q p):=qA (W5 g) i h (qK b) λF x y H Q l j k=>by obtain⟨a,rfl,e⟩:=ig l;obtain⟨b,rfl,d⟩:=ig j;exact⟨_,_,p,q,rfl,rfl,et bm e,et bm d,k _ H (aW.refl H)<|.bl _⟩
def r6(g:DE X a c (dP p))(f:DE X b c (dP q))(e:X.A.units+64<cH):DT X (.Compare a [.NotEq] [b] d) c (!decide (p=q)):=qA (KZ e) g f (qK b) λF x y H Q i h k=>⟨_,_,qQ<|i.same bm,qQ<|h.same bm,by rfl,by rfl,k _ H (aW.refl H)<|by rw[vW];exact .bl _⟩
def Kx(f:DE X a c (.bl p))(e:DE X b c (.bl q)):DT X (.Compare a [.Eq] [b] d) c (decide<|p=q):=
 qA DG f e (qK b) λF x y H Q h g k=>by
  cases h;cases g;refine⟨rfl,?_⟩;have:decide (V.bl p=V.bl q)=decide (p=q):=by grind
  rw[this];exact k _ H (aW.refl H)<|.bl _
def pL(I:Inv X h v H s)(z:X.A.units+1<cH)(u:cV X.K H a [.int p.1,.int p.2])(t:cV X.K H b [.int q.1,.int q.2])(c:am)(kp:∀b o,s.heap.get? b=some o->c.heap.get? b=some o)(Q:af->am->Prop)(E:af->am->Prop):
 (Q (.bool<|aY p q) c->aw (aH X.prog X.w) X.A.in1 (mQ .Lt (.ref a)<|.ref b) Q E c)/\(Q (.bool<|aY q p) c->aw (aH X.prog X.w) X.A.in1 (mQ .Gt (.ref a)<|.ref b) Q E c):=by
 obtain⟨y,⟨j,m,r⟩,g⟩:=uc I u;obtain⟨x,⟨i,l,n⟩,f⟩:=uc I t;have e:X.A.in1.units<cH:=by omega
 refine⟨λk=>?_,λk=>?_⟩
 ·have:=HT.FO (prog:=X.prog) (w:=X.w) (A:=X.A.in1) (E:=E) (s:=c) (Q:=Q) ⟨j,kp _ _ m,r⟩ ⟨i,kp _ _ l,n⟩ g f e<|by rw[xZ];exact k
  exact this
 ·have:=HT.FX (prog:=X.prog) (w:=X.w) (A:=X.A.in1) (E:=E) (s:=c) (Q:=Q) ⟨j,kp _ _ m,r⟩ ⟨i,kp _ _ l,n⟩ g f e<|by rw[xZ];exact k
  exact this
def yH(h:(#[a,b]:Array af)[i]?=some v):(i=0/\v=a)\/(i=1/\v=b):=by grind
def KH(K:ax)(g:Pt->Pt->Bool):List V->Hp->VK->Prop:=λc H Q=>∃a b p q,c=[.ref a,.ref b]/\cV K H a [.int p.1,.int p.2]/\cV K H b [.int q.1,.int q.2]/\Q (.ref (if g p q=true then b else a)) H
def S1(o:X.cX=true)(d:X.A.units+1<cH):gU X (.builtin "min") (KH X.K λp q=>aY q p):=by
 intro l s w H x B Q I r ⟨a,b,p,q,e,g,f,k⟩;subst e;cases r with
 |cons n h=>
  cases n;cases h with
  |cons h m=>
   cases h;cases m;refine R7 (bt:=λi j=>aY (if i=0 then p else q)<|if j=0 then p else q) (I.ok.hd o) (λi j z y c Q E kp u t k=>?_) λv D C J kp=>?_
   ·rcases yH u with⟨rfl,rfl⟩|⟨rfl,rfl⟩<;>rcases yH t with⟨rfl,rfl⟩|⟨rfl,rfl⟩;·exact(pL I d g g c kp Q E).1 k
    ·exact(pL I d g f c kp Q E).1 k
    ·exact(pL I d f g c kp Q E).1 k
    ·exact(pL I d f f c kp Q E).1 k
   ·refine⟨_,H,I.eN kp,?_,k⟩;have L:(if aY q p=true then c7 b else c7 a)=c7 (if aY q p=true then b else a):=by grind
    show v=c7 _;grind
def RF(o:X.cX=true)(d:X.A.units+1<cH):gU X (.builtin "max") (KH X.K λp q=>aY p q):=by
 intro l s w H x B Q I r ⟨a,b,p,q,e,g,f,k⟩;subst e;cases r with
 |cons n h=>
  cases n;cases h with
  |cons h m=>
   cases h;cases m;refine R_ (bt:=λi j=>aY (if j=0 then p else q)<|if i=0 then p else q) (I.ok.hd o) (λi j z y c Q E kp u t k=>?_) λv D C J kp=>?_
   ·rcases yH u with⟨rfl,rfl⟩|⟨rfl,rfl⟩<;>rcases yH t with⟨rfl,rfl⟩|⟨rfl,rfl⟩;·exact(pL I d g g c kp Q E).2 k
    ·exact(pL I d g f c kp Q E).2 k
    ·exact(pL I d f g c kp Q E).2 k
    ·exact(pL I d f f c kp Q E).2 k
   ·refine⟨_,H,I.eN kp,?_,k⟩;have L:(if aY p q=true then c7 b else c7 a)=c7 (if aY p q=true then b else a):=by grind
    show v=c7 _;grind
def Ge(a:List Pt):∀k,f8 (λi j=>aY (a.getD i (0,0))<|a.getD j (0,0)) k<=k/\∀j,j<=k->aY (a.getD j (0,0)) (a.getD (f8 (λi j=>aY (a.getD i (0,0))<|a.getD j (0,0)) k) (0,0))=false
 |0=>⟨cs _,λj c=>by
  have:j=0:=by omega
  subst this;show aY (a.getD 0 (0,0)) (a.getD 0 (0,0))=false;rw[mK];intro h;rw[Ld.j8] at h;omega⟩
 |k+1=>by
  obtain⟨d,b⟩:=Ge a k;have e:f8 (λi j=>aY (a.getD i (0,0))<|a.getD j (0,0)) (k+1)=if aY (a.getD (k+1) (0,0)) (a.getD (f8 (λi j=>aY (a.getD i (0,0))<|a.getD j (0,0)) k) (0,0))=true then k+1 else f8 (λi j=>aY (a.getD i (0,0))<|a.getD j (0,0)) k:=rfl;rw[e];generalize f8 (λi j=>aY (a.getD i (0,0))<|a.getD j (0,0)) k=m at d b;by_cases z:aY (a.getD (k+1) (0,0)) (a.getD m (0,0))=true
  ·rw[aM z];refine⟨cs _,λj c=>?_⟩;by_cases q:j=k+1
   ·subst q;rw[mK];intro h;rw[Ld.j8] at h;omega
   ·have:=b j<|by omega
    rw[mK] at this ⊢;intro h;apply this;rw[Ld.j8] at h z ⊢;omega
  grind
def Y9(K:ax)(H:Hp)(a:List V)(b:List Pt):Prop:=bu K H a<|b.map dP
def X6(K:ax):List V->Hp->VK->Prop:=λd H Q=>∃a c b,d=[.ref a]/\H a=some (.aq c)/\Y9 K H c b/\b≠[]/\∀(i:Nat)m v,b[i]?=some m->c[i]?=some v->(∀q∈b,aY q m=false)->Q v H
def T3(U:X.cX=true)(R:X.A.units+1<cH):gU X (.builtin "min") (X6 X.K):=by
 intro p s σ H xs us Q I r ⟨a,y,c,e,Y,w,O,k⟩;subst e;cases r with
 |cons L J=>
  cases L;cases J;obtain⟨f,o,S,_⟩:=I.list<|bi.of Y;have m:f.length=c.length:=by rw[<-o.length,w.length,bS]
  have l0:0<c.length:=Ew.mpr O;have g:∀(i:Nat)(u:af),f.toArray[i]?=some u->i<c.length/\∃v b,y[i]?=some v/\v=.ref b/\u=.ref b/\Dx X.K H v (dP (c.getD i (0,0)))/\cV X.K H b [.int (c.getD i (0,0)).1,.int (c.getD i (0,0)).2]:=λi u x=>by
   have n:f[i]?=some u:=by grind
   have T:i<c.length:=by grind
   have gp:c[i]?=some (c.getD i (0,0)):=by grind
   obtain⟨v,h,dv⟩:=w.get (i:=i) (d:=dP<|c.getD i (0,0))<|by grind
   obtain⟨u',l,D⟩:=o.get h;rw[n] at l;cases l;obtain⟨b,eb,t⟩:=ig dv;subst eb;cases D;grind
  refine Q9 (bt:=λi j=>aY (c.getD i (0,0))<|c.getD j (0,0)) (I.ok.hd U) S.isList (by grind) (λi j B z C Q E kp x Z q=>?_) λv h' tk h kp=>?_
  ·obtain⟨_,_,b1,_,_,rfl,_,N⟩:=g i B x;obtain⟨_,_,b2,_,_,rfl,_,M⟩:=g j z Z;exact(pL I R N M C kp Q E).1 q
  ·rw[Au,m] at h;obtain⟨T,u,b,l,rfl,rfl,du,_⟩:=g _ v h;obtain⟨b1,b2⟩:=Ge c<|c.length-1;refine⟨.ref b,H,I.eN kp,rfl,k _ (c.getD (f8 (λi j=>aY (c.getD i (0,0))<|c.getD j (0,0))<|c.length-1) (0,0)) _ ?_ l λq t=>?_⟩;·grind
   ·obtain⟨j,hj,ej⟩:=Eu.mp t;grind
end L3
namespace L3
open PySem PyProof.Rows
def Uk(h:Q (s.heap.get? a) s):aw (aH b w) A (loadIfAlive a) Q E s:=λc p d=>by show Sem.wp _ c (.loadIfAlive a .pure) _ _ p s;rw[Sem.wp_loadIfAlive];exact a8 (M:=aH b w) (A:=A) (E:=E) h c p d
abbrev jQ(h:aJ)(z TI f g:aa)(d:Bool):Prop:=h.get? z=some { cls:=.type "zip",dict:=none,data:=.fields #[oh g,.bool d,.bool false,.ref TI,.ref f],slots:=#[]}
def yP(f:jQ s.heap z a t c l)(p:∃o,s.heap.get? c=some o)(q:∀g,jQ g z a t c true->(∀b o,b≠z->s.heap.get? b=some o->g.get? b=some o)->g.objs.size=s.heap.objs.size->Q false { s with heap:=g}):
 aw (aH j w) A (lQ<|.ref z) Q E s:=by
 obtain⟨o,m⟩:=p;unfold lQ;refine ao<|f6 f rfl (x:=oh c) rfl ?_;show aw _ A (loadIfAlive ((c:Int)).toNat >>= _) _ _ s;refine ao<|Uk ?_;have e:((c:Int)).toNat=c:=Ay _;rw[e,m];show aw _ A (j6 (.ref z) 1 >>= _) _ _ s;refine ao<|f6 f rfl (x:=.bool l) rfl ?_;cases l with
 |true=>exact a8<|q s.heap f (λ_ _ _ h=>h) rfl
 |false=>show aw _ A (setField (.ref z) 1 (.bool true) >>= _) _ _ s;refine ao<|lU f (by simp) λr i d=>a8<|q r i (λb o n e=>d.extBut b o n e) d.1
structure oR(z TI TO i1 i2 l1 l2:aa):Prop where
 sB:TI≠z
 iS:TO≠z
 zI:TI≠TO
 fZ:i1≠z
 ux:TI≠i1
 mB:TO≠i1
 jv:l1≠z
 DQ:l1≠TO
 Y1:l1≠TI
 wE:l1≠i1
 wC:l1≠i2
 hX:i2≠z
 uw:TI≠i2
 kM:TO≠i2
 kq:l2≠z
 qT:l2≠TO
 Zm:l2≠TI
 kg:l2≠i1
 kn:i1≠i2
 wF:l2≠i2
def XN{Q:af->am->Prop}(D:oR z a R k j y u)(C:jQ s.heap z a R S f1)(gT:∃o,s.heap.get? S=some o)(gI:s.heap.get? a=some { cls:=.type "tuple",data:=.seq #[.ref k,.ref j]})(g1:s.heap.IsListIter k y M)(g2:s.heap.IsListIter j u L)(m1:s.heap.IsList y n)(Z:s.heap.IsList u m)(U:n[M]?=some r)(T:m[L]?=some p)(q:∀h,jQ h z a R S true->h.IsListIter k y (M+1)->h.IsListIter j u (L+1)->h.get? s.heap.objs.size=some { cls:=.type "tuple",data:=.seq #[r,p]}->h.objs.size=s.heap.objs.size+1->(∀c o,c≠z->c≠k->c≠j->s.heap.get? c=some o->h.get? c=some o)->Q (.ref s.heap.objs.size) { s with heap:=h}):
 aw (aH J w) A (Builtin.«zip.__next__» ⟨[.ref z],[]⟩) (λH Y=>∃v,H=.done (.ret v)/\Q v Y) E s:=by
 show aw _ _ (j6 (.ref z) 2 >>= _) _ _ _;refine ao<|f6 C rfl (x:=.bool false) rfl ?_;show aw _ _ (j6 (.ref z) 3 >>= _) _ _ _;refine ao (f6 C rfl (x:=.ref a) rfl ?_);refine ao<|fG gI rfl ?_;show aw _ _ (lQ (.ref z) >>= _) _ _ _;refine ao<|yP C gT λh0 B b t=>?_;simp only[nP,oi,EB,nU,oY];refine ao ?_;refine ao<|ao<|jf ?_;show aw _ _ (iW (.ref k) >>= _) _ _ _;refine ao<|kt (g1.at λo e=>b _ o D.fZ e) (m1.at λo e=>b _ o D.jv e) U λh1 X d=>a8<|a8 ?_;refine ao<|ao<|jf ?_;show aw _ _ (iW (.ref j) >>= _) _ _ _;refine ao<|kt ((g2.at λo e=>b _ o D.hX e).at λo e=>d.extBut _ o D.kn.symm e) ((Z.at λo e=>b _ o D.kq e).at λo e=>d.extBut _ o D.kg e) T λl V g=>a8<|a8 ?_;refine a8<|ao<|E5 (hsz:=(by show 2<=bx;decide))<|a8 ⟨_,rfl,?_⟩;have I:l.objs.size=s.heap.objs.size:=by rw[g.1,d.1,t]
 show Q (.ref l.objs.size) _;have O:(l.push { cls:=.type "tuple",data:=.seq #[r,p]}).get? l.objs.size=some { cls:=.type "tuple",data:=.seq #[r,p]}:=dM _ rfl;rw[I] at O ⊢;refine q _ (bV _<|g.extBut _ _ D.hX.symm<|d.extBut _ _ D.fZ.symm B) ((X.at λo e=>g.extBut _ o D.kn e).at λo e=>bV _ e) (V.at λo e=>bV _ e) O (by rw[iw,I]) λc o c0 c1 c2 e=>bV _<|g.extBut _ _ c2<|d.extBut _ _ c1<|b c o c0 e
def SR(C:A.handled=none)(D:oR z a TO i h v u)(m:jQ s.heap z a TO T0 f1)(V:∃o,s.heap.get? T0=some o)(X:s.heap.get? a=some { cls:=.type "tuple",data:=.seq #[.ref i,.ref h]})(L:s.heap.IsListIter i v B)(Y:s.heap.IsListIter h u y)(t:s.heap.IsList v g)(S:s.heap.IsList u f)(H:g[B]?=none\/f[y]?=none)(q:∀l e,(∀c o,c≠z->c≠i->c≠h->s.heap.get? c=some o->l.get? c=some o)->(∃o,l.get? e=some o/\o.cls=.type "StopIteration")->E (.ref e) { s with heap:=l}):aw (aH r w) A (Builtin.«zip.__next__» ⟨[.ref z],[]⟩) Q E s:=by
 show aw _ _ (j6 (.ref z) 2 >>= _) _ _ _;refine ao<|f6 m rfl (x:=.bool false) rfl ?_;show aw _ _ (j6 (.ref z) 3 >>= _) _ _ _;refine ao (f6 m rfl (x:=.ref a) rfl ?_);refine ao<|fG X rfl ?_;show aw _ _ (lQ (.ref z) >>= _) _ _ _;refine ao<|yP m V λh0 U b R=>?_;simp only[nP,oi,EB,nU,oY];refine ao ?_;refine ao<|ao<|jf ?_;show aw _ _ (iW (.ref i) >>= _) _ _ _;cases M:g[B]? with
 |none=>refine ao<|p6 C (L.at λo e=>b _ o D.fZ e) (t.at λo e=>b _ o D.jv e) M λJ e d k=>q J e (λc o p n O x=>d _ _ n<|b c o p x) k
 |some x1=>
  refine ao<|kt (L.at λo e=>b _ o D.fZ e) (t.at λo e=>b _ o D.jv e) M λJ u1 d=>a8<|a8 ?_;refine ao<|ao<|jf ?_;show aw _ _ (iW (.ref h) >>= _) _ _ _;have Z:f[y]?=none:=by grind
  refine ao<|p6 C ((Y.at λo e=>b _ o D.hX e).at λo e=>d.extBut _ o D.kn.symm e) ((S.at λo e=>b _ o D.kq e).at λo e=>d.extBut _ o D.kg e) Z λT e j k=>q T e (λc o p n O x=>j _ _ O<|d.extBut _ _ n<|b c o p x) k
def Xa(D:oR z a u f e j i)(t:jQ s.heap z a u v X)(J:∃o,s.heap.get? v=some o)(L:s.heap.get? a=some { cls:=.type "tuple",data:=.seq #[.ref f,.ref e]})(N:s.heap.IsListIter f j p)(M:s.heap.IsListIter e i n)(I:s.heap.IsList j h)(H:s.heap.IsList i g)(y:h[p]?=some C)(x:g[n]?=some B)(q:∀b,jQ b z a u v true->b.IsListIter f j (p+1)->b.IsListIter e i (n+1)->b.get? s.heap.objs.size=some { cls:=.type "tuple",data:=.seq #[C,B]}->b.objs.size=s.heap.objs.size+1->(∀c o,c≠z->c≠f->c≠e->s.heap.get? c=some o->b.get? c=some o)->Q (some (.ref s.heap.objs.size)) { s with heap:=b}):aw (aH m w) A (e_<|.ref z) Q E s:=by
 have l:s.TypeIs (.ref z) "zip":=⟨_,t,rfl⟩
 unfold e_;exact ao<|tv<|sS (name:=jE "__next__") l ku<|p9 ku l sR (XN D t J L N M I H y x λb V U T S R O=>a8<|q b V U T S R O)<|sP _
def Rj(H:A.handled=none)(D:oR z a S i h n m)(r:jQ s.heap z a S U V)(L:∃o,s.heap.get? U=some o)(M:s.heap.get? a=some { cls:=.type "tuple",data:=.seq #[.ref i,.ref h]})(O:s.heap.IsListIter i n y)(N:s.heap.IsListIter h m x)(v:s.heap.IsList n g)(u:s.heap.IsList m f)(d:g[y]?=none\/f[x]?=none)(q:∀j,(∀c o,c≠z->c≠i->c≠h->s.heap.get? c=some o->j.get? c=some o)->Q none { s with heap:=j}):aw (aH l w) A (e_<|.ref z) Q E s:=by
 have k:s.TypeIs (.ref z) "zip":=⟨_,r,rfl⟩
 unfold e_;refine ao<|tv<|sS (name:=jE "__next__") k ku<|p9 ku k sR (SR H D r L M O N v u d λj e C I=>?_)<|sP _;obtain⟨o,B,J⟩:=I;refine ao<|tp (T:="StopIteration") (b:=true) ⟨o,B,J⟩ E6 ?_;exact a8<|q _ C
def Xt{Q:af->am->Prop}(D:oR z a d I H X V)(O:eQ s.heap z a d .none)(gI:s.heap.get? a=some { cls:=.type "tuple",data:=.seq #[.ref I,.ref H]})(gO:s.heap.get? d=some { cls:=.type "tuple",data:=.seq #[a1,a2]})(g1:s.heap.IsListIter I X j1)(g2:s.heap.IsListIter H V j2)(m1:s.heap.IsList X U)(m2:s.heap.IsList V T)(y1:U[j1]?=some k)(y2:T[j2]?=some n)(q:∀r,eQ r z a d (oh s.heap.objs.size)->r.get? d=some { cls:=.type "tuple",data:=.seq #[k,n]}->r.IsListIter I X (j1+1)->r.IsListIter H V (j2+1)->r.get? s.heap.objs.size=some { cls:=.type "tuple",data:=.seq #[k,n]}->r.objs.size=s.heap.objs.size+1->(∀c o,c≠z->c≠d->c≠I->c≠H->s.heap.get? c=some o->r.get? c=some o)->Q (.ref s.heap.objs.size) { s with heap:=r}):
 aw (aH a' w) A (Builtin.«zip.__next__» ⟨[.ref z],[]⟩) (λZ s'=>∃v,Z=.done (.ret v)/\Q v s') E s:=by
 show aw _ _ (j6 (.ref z) 2 >>= _) _ _ _;refine ao<|f6 O rfl (x:=.bool false) rfl ?_;show aw _ _ (j6 (.ref z) 3 >>= _) _ _ _;refine ao (f6 O rfl (x:=.ref a) rfl ?_);refine ao<|fG gI rfl ?_;show aw _ _ (lQ (.ref z) >>= _) _ _ _;refine ao ?_;unfold lQ;refine ao<|f6 O rfl (x:=.none) rfl<|a8 ?_;simp only[k6];refine ao (u9 ?_);refine ao (f6 O rfl (x:=.ref d) rfl ?_);refine ao<|lU O (by simp) λh0 B g=>?_;replace B:eQ h0 z a d .ellipsis:=B;refine ao ?_;simp only[Az,List.zipIdx_nil,nU,oY];refine ao<|ao<|qg ?_;show aw _ _ (iW (.ref I) >>= _) _ _ _;refine ao<|kt (g1.at λo e=>g.extBut _ o D.fZ e) (m1.at λo e=>g.extBut _ o D.jv e) y1 λM u1 j=>a8 ?_;have d1:M.get? d=some { cls:=.type "tuple",data:=.seq #[a1,a2]}:=(j.extBut _ _ D.mB<|g.extBut _ _ D.iS gO)
 refine ao (fG d1 rfl ?_);refine ao<|je d1 rfl ?_;have b1:=jX (cM (·.setIfInBounds 0 k)) d1 rfl;have h:oa d M (M.update d (cM (·.setIfInBounds 0 k))):=sU ..;replace b1:(M.update d (cM (·.setIfInBounds 0 k))).get? d=some { cls:=.type "tuple",data:=.seq #[k,a2]}:=by rw[b1];rfl
 generalize M.update d (cM (·.setIfInBounds 0 k))=t1 at b1 h ⊢;refine ao<|jF<|a8 ?_;refine ao<|ao<|qg ?_;show aw _ _ (iW (.ref H) >>= _) _ _ _;refine ao<|kt (((g2.at λo e=>g.extBut _ o D.hX e).at λo e=>j.extBut _ o D.kn.symm e).at λo e=>h.extBut _ o D.kM.symm e) (((m2.at λo e=>g.extBut _ o D.kq e).at λo e=>j.extBut _ o D.kg e).at λo e=>h.extBut _ o D.qT e) y2 λL u2 m=>a8 ?_;have d2:L.get? d=some { cls:=.type "tuple",data:=.seq #[k,a2]}:=(m.extBut _ _ D.kM b1)
 refine ao (fG d2 rfl ?_);refine ao<|je d2 rfl ?_;have b2:=jX (cM (·.setIfInBounds 1 n)) d2 rfl;have i:oa d L (L.update d (cM (·.setIfInBounds 1 n))):=sU ..;replace b2:(L.update d (cM (·.setIfInBounds 1 n))).get? d=some { cls:=.type "tuple",data:=.seq #[k,n]}:=by rw[b2];rfl
 generalize L.update d (cM (·.setIfInBounds 1 n))=l at b2 i ⊢;refine ao<|jF<|a8 ?_;refine a8 (ao<|fG b2 rfl ?_);refine ao<|E5 ?_;have sz:l.objs.size=s.heap.objs.size:=by rw[i.1,m.1,h.1,j.1,g.1]
 have N:eQ l z a d .ellipsis:=(i.extBut _ _ D.iS.symm<|m.extBut _ _ D.hX.symm<|h.extBut _ _ D.iS.symm<|j.extBut _ _ D.fZ.symm B)
 have zl:z<l.objs.size:=cq N;show aw _ _ (Ei (.ref z) (.ref l.objs.size) >>= _) _ _ _;refine ao ?_;unfold Ei;have Y:eQ (l.push { cls:=.type "tuple",data:=.seq #[k,n]}) z a d .ellipsis:=bV _ N;refine ao (lU Y (by simp) λha y u=>?_);replace y:eQ ha z a d (oh l.objs.size):=y;refine lU y (by simp) λJ p t=>?_;replace p:eQ J z a d (oh l.objs.size):=p;have R:∀c o,c≠z->l.get? c=some o->J.get? c=some o:=λc o S e=>t.extBut _ _ S<|u.extBut _ _ S<|bV _ e;have gt:J.get? l.objs.size=some { cls:=.type "tuple",data:=.seq #[k,n]}:=t.extBut _ _ (o4 zl)<|u.extBut _ _ (o4 zl)<|dM _ rfl;have C:J.objs.size=l.objs.size+1:=by rw[t.1,u.1,iw]
 rw[sz] at p gt C;refine a8 ⟨_,rfl,?_⟩;show Q (.ref l.objs.size) _;rw[sz];exact q J p (R _ _ D.iS b2) ((((u1.at λo e=>h.extBut _ o D.mB.symm e).at λo e=>m.extBut _ o D.kn e).at λo e=>i.extBut _ o D.mB.symm e).at λo e=>R _ o D.fZ e) ((u2.at λo e=>i.extBut _ o D.kM.symm e).at λo e=>R _ o D.hX e) gt C λc o c0 cT S c2 e=>R c o c0<|i.extBut _ _ cT<|m.extBut _ _ c2<|h.extBut _ _ cT<|j.extBut _ _ S<|g.extBut _ _ c0 e
def SN(Z:A.handled=none)(D:oR z a f H C V U)(y:eQ s.heap z a f .none)(gI:s.heap.get? a=some { cls:=.type "tuple",data:=.seq #[.ref H,.ref C]})(gO:s.heap.get? f=some { cls:=.type "tuple",data:=.seq #[a1,a2]})(g1:s.heap.IsListIter H V Y)(g2:s.heap.IsListIter C U X)(T:s.heap.IsList V t)(m2:s.heap.IsList U r)(a':t[Y]?=none\/r[X]?=none)(R:∀M e,(∀c o,c≠z->c≠f->c≠H->c≠C->s.heap.get? c=some o->M.get? c=some o)->(∃o,M.get? e=some o/\o.cls=.type "StopIteration")->E (.ref e) { s with heap:=M}):aw (aH S w) A (Builtin.«zip.__next__» ⟨[.ref z],[]⟩) Q E s:=by
 show aw _ _ (j6 (.ref z) 2 >>= _) _ _ _;refine ao<|f6 y rfl (x:=.bool false) rfl ?_;show aw _ _ (j6 (.ref z) 3 >>= _) _ _ _;refine ao (f6 y rfl (x:=.ref a) rfl ?_);refine ao<|fG gI rfl ?_;show aw _ _ (lQ (.ref z) >>= _) _ _ _;refine ao ?_;unfold lQ;refine ao<|f6 y rfl (x:=.none) rfl<|a8 ?_;simp only[k6];refine ao (u9 ?_);refine ao (f6 y rfl (x:=.ref f) rfl ?_);refine ao<|lU y (by simp) λh0 j b=>?_;replace j:eQ h0 z a f .ellipsis:=j;refine ao ?_;simp only[Az,List.zipIdx_nil,nU,oY];refine ao<|ao<|qg ?_;show aw _ _ (iW (.ref H) >>= _) _ _ _;cases e1:t[Y]? with
 |none=>
  refine ao<|p6 Z (g1.at λo e=>b.extBut _ o D.fZ e) (T.at λo e=>b.extBut _ o D.jv e) e1 λn e d L=>?_;obtain⟨I,l,m⟩:=L;have p:eQ n z a f .ellipsis:=d _ _ D.fZ.symm j;have k:e≠z:=by grind
  exact lU p (by simp) λJ _ h=>R J e (λc o B cT O c2 x=>h.extBut _ _ B<|d _ _ O<|b.extBut _ _ B x) ⟨I,h.extBut _ _ k l,m⟩
 |some u=>
  refine ao<|kt (g1.at λo e=>b.extBut _ o D.fZ e) (T.at λo e=>b.extBut _ o D.jv e) e1 λn u1 d=>a8 ?_;have N:n.get? f=some { cls:=.type "tuple",data:=.seq #[a1,a2]}:=(d.extBut _ _ D.mB<|b.extBut _ _ D.iS gO)
  refine ao (fG N rfl ?_);refine ao<|je N rfl ?_;have b1:=jX (cM (·.setIfInBounds 0 u)) N rfl;have g:oa f n (n.update f (cM (·.setIfInBounds 0 u))):=sU ..;replace b1:(n.update f (cM (·.setIfInBounds 0 u))).get? f=some { cls:=.type "tuple",data:=.seq #[u,a2]}:=by rw[b1];rfl
  generalize n.update f (cM (·.setIfInBounds 0 u))=t1 at b1 g ⊢;refine ao<|jF<|a8 ?_;refine ao<|ao<|qg ?_;show aw _ _ (iW (.ref C) >>= _) _ _ _;have e2:r[X]?=none:=by grind
  refine ao<|p6 Z (((g2.at λo e=>b.extBut _ o D.hX e).at λo e=>d.extBut _ o D.kn.symm e).at λo e=>g.extBut _ o D.kM.symm e) (((m2.at λo e=>b.extBut _ o D.kq e).at λo e=>d.extBut _ o D.kg e).at λo e=>g.extBut _ o D.qT e) e2 λh2 e v L=>?_;obtain⟨I,l,m⟩:=L;have p:eQ h2 z a f .ellipsis:=v _ _ D.hX.symm<|g.extBut _ _ D.iS.symm<|d.extBut _ _ D.fZ.symm j;have k:e≠z:=by grind
  exact lU p (by simp) λJ _ h=>R J e (λc o B cT O c2 x=>h.extBut _ _ B<|v _ _ c2<|g.extBut _ _ cT<|d.extBut _ _ O<|b.extBut _ _ B x) ⟨I,h.extBut _ _ k l,m⟩
def WX(D:oR z a f h g l k)(x:eQ s.heap z a f .none)(J:s.heap.get? a=some { cls:=.type "tuple",data:=.seq #[.ref h,.ref g]})(I:s.heap.get? f=some { cls:=.type "tuple",data:=.seq #[U,T]})(M:s.heap.IsListIter h l u)(L:s.heap.IsListIter g k t)(H:s.heap.IsList l j)(C:s.heap.IsList k i)(B:j[u]?=some n)(y:i[t]?=some m)(q:∀d,eQ d z a f (oh s.heap.objs.size)->d.get? f=some { cls:=.type "tuple",data:=.seq #[n,m]}->d.IsListIter h l (u+1)->d.IsListIter g k (t+1)->d.get? s.heap.objs.size=some { cls:=.type "tuple",data:=.seq #[n,m]}->d.objs.size=s.heap.objs.size+1->(∀c o,c≠z->c≠f->c≠h->c≠g->s.heap.get? c=some o->d.get? c=some o)->Q (some (.ref s.heap.objs.size)) { s with heap:=d}):aw (aH r w) A (e_<|.ref z) Q E s:=by
 have p:s.TypeIs (.ref z) "zip":=⟨_,x,rfl⟩
 unfold e_;exact ao<|tv<|sS (name:=jE "__next__") p ku<|p9 ku p sR (Xt D x J I M L H C B y λd b1 b2 b3 S R O N=>a8<|q d b1 b2 b3 S R O N)<|sP _
def Q2(J:A.handled=none)(D:oR z a m j i t r)(v:eQ s.heap z a m .none)(O:s.heap.get? a=some { cls:=.type "tuple",data:=.seq #[.ref j,.ref i]})(N:s.heap.get? m=some { cls:=.type "tuple",data:=.seq #[V,U]})(S:s.heap.IsListIter j t C)(R:s.heap.IsListIter i r B)(y:s.heap.IsList t h)(x:s.heap.IsList r g)(d:h[C]?=none\/g[B]?=none)(q:∀k,(∀c o,c≠z->c≠m->c≠j->c≠i->s.heap.get? c=some o->k.get? c=some o)->Q none { s with heap:=k}):aw (aH p w) A (e_<|.ref z) Q E s:=by
 have n:s.TypeIs (.ref z) "zip":=⟨_,v,rfl⟩
 unfold e_;refine ao<|tv<|sS (name:=jE "__next__") n ku<|p9 ku n sR (SN J D v O N S R y x d λk e I L=>?_)<|sP _;obtain⟨o,H,M⟩:=L;refine ao<|tp (T:="StopIteration") (b:=true) ⟨o,H,M⟩ E6 ?_;exact a8<|q _ I
structure mJ(z TI TO i1 i2 i3 l1 l2 l3:aa):Prop where
 sB:TI≠z
 iS:TO≠z
 zI:TI≠TO
 fZ:i1≠z
 ux:TI≠i1
 mB:TO≠i1
 jv:l1≠z
 DQ:l1≠TO
 Y1:l1≠TI
 wE:l1≠i1
 wC:l1≠i2
 L1:l1≠i3
 hX:i2≠z
 uw:TI≠i2
 kM:TO≠i2
 kq:l2≠z
 qT:l2≠TO
 Zm:l2≠TI
 kg:l2≠i1
 kn:i1≠i2
 wF:l2≠i2
 LY:l2≠i3
 pP:i3≠z
 DM:TI≠i3
 su:TO≠i3
 uO:l3≠z
 wD:l3≠TO
 acI:l3≠TI
 uA:l3≠i1
 uD:i1≠i3
 uE:l3≠i2
 uF:i2≠i3
 L5:l3≠i3
def X4{Q:af->am->Prop}(D:mJ z a Y m l k J I H)(M:jQ s.heap z a Y Z f1)(gT:∃o,s.heap.get? Z=some o)(gI:s.heap.get? a=some { cls:=.type "tuple",data:=.seq #[.ref m,.ref l,.ref k]})(g1:s.heap.IsListIter m J U)(g2:s.heap.IsListIter l I T)(g3:s.heap.IsListIter k H S)(m1:s.heap.IsList J t)(m2:s.heap.IsList I r)(m3:s.heap.IsList H p)(y1:t[U]?=some B)(y2:r[T]?=some y)(y3:p[S]?=some u)(q:∀i,jQ i z a Y Z true->i.IsListIter m J (U+1)->i.IsListIter l I (T+1)->i.IsListIter k H (S+1)->i.get? s.heap.objs.size=some { cls:=.type "tuple",data:=.seq #[B,y,u]}->i.objs.size=s.heap.objs.size+1->(∀c o,c≠z->c≠m->c≠l->c≠k->s.heap.get? c=some o->i.get? c=some o)->Q (.ref s.heap.objs.size) { s with heap:=i}):
 aw (aH R w) A (Builtin.«zip.__next__» ⟨[.ref z],[]⟩) (λN s'=>∃v,N=.done (.ret v)/\Q v s') E s:=by
 show aw _ _ (j6 (.ref z) 2 >>= _) _ _ _;refine ao<|f6 M rfl (x:=.bool false) rfl ?_;show aw _ _ (j6 (.ref z) 3 >>= _) _ _ _;refine ao (f6 M rfl (x:=.ref a) rfl ?_);refine ao<|fG gI rfl ?_;show aw _ _ (lQ (.ref z) >>= _) _ _ _;refine ao<|yP M gT λh0 L b C=>?_;simp only[nP,oi,EB,nU,oY];refine ao ?_;refine ao<|ao<|jf ?_;show aw _ _ (iW (.ref m) >>= _) _ _ _;refine ao<|kt (g1.at λo e=>b _ o D.fZ e) (m1.at λo e=>b _ o D.jv e) y1 λh1 u1 d=>a8<|a8 ?_;refine ao<|ao<|jf ?_;show aw _ _ (iW (.ref l) >>= _) _ _ _;refine ao<|kt ((g2.at λo e=>b _ o D.hX e).at λo e=>d.extBut _ o D.kn.symm e) ((m2.at λo e=>b _ o D.kq e).at λo e=>d.extBut _ o D.kg e) y2 λh2 u2 f=>a8<|a8 ?_;refine ao<|ao<|jf ?_;show aw _ _ (iW (.ref k) >>= _) _ _ _;refine ao<|kt (((g3.at λo e=>b _ o D.pP e).at λo e=>d.extBut _ o D.uD.symm e).at λo e=>f.extBut _ o D.uF.symm e) (((m3.at λo e=>b _ o D.uO e).at λo e=>d.extBut _ o D.uA e).at λo e=>f.extBut _ o D.uE e) y3 λn u3 g=>a8<|a8 ?_;refine a8<|ao<|E5 (hsz:=(by show 3<=bx;decide))<|a8 ⟨_,rfl,?_⟩;have O:n.objs.size=s.heap.objs.size:=by rw[g.1,f.1,d.1,C]
 show Q (.ref n.objs.size) _;have X:(n.push { cls:=.type "tuple",data:=.seq #[B,y,u]}).get? n.objs.size=some { cls:=.type "tuple",data:=.seq #[B,y,u]}:=dM _ rfl;rw[O] at X ⊢;refine q _ (bV _<|g.extBut _ _ D.pP.symm<|f.extBut _ _ D.hX.symm<|d.extBut _ _ D.fZ.symm L) (((u1.at λo e=>f.extBut _ o D.kn e).at λo e=>g.extBut _ o D.uD e).at λo e=>bV _ e) ((u2.at λo e=>g.extBut _ o D.uF e).at λo e=>bV _ e) (u3.at λo e=>bV _ e) X (by rw[iw,O]) λc o c0 c1 c2 c3 e=>bV _<|g.extBut _ _ c3<|f.extBut _ _ c2<|d.extBut _ _ c1<|b c o c0 e
def Td(u:A.handled=none)(D:mJ z a TO p n m M L J)(y:jQ s.heap z a TO T0 f1)(gT:∃o,s.heap.get? T0=some o)(gI:s.heap.get? a=some { cls:=.type "tuple",data:=.seq #[.ref p,.ref n,.ref m]})(Y:s.heap.IsListIter p M R)(X:s.heap.IsListIter n L O)(g3:s.heap.IsListIter m J N)(I:s.heap.IsList M i)(H:s.heap.IsList L h)(m3:s.heap.IsList J g)(S:i[R]?=none\/h[O]?=none\/g[N]?=none)(r:∀v e,(∀c o,c≠z->c≠p->c≠n->c≠m->s.heap.get? c=some o->v.get? c=some o)->(∃o,v.get? e=some o/\o.cls=.type "StopIteration")->E (.ref e) { s with heap:=v}):aw (aH C w) A (Builtin.«zip.__next__» ⟨[.ref z],[]⟩) Q E s:=by
 show aw _ _ (j6 (.ref z) 2 >>= _) _ _ _;refine ao<|f6 y rfl (x:=.bool false) rfl ?_;show aw _ _ (j6 (.ref z) 3 >>= _) _ _ _;refine ao (f6 y rfl (x:=.ref a) rfl ?_);refine ao<|fG gI rfl ?_;show aw _ _ (lQ (.ref z) >>= _) _ _ _;refine ao<|yP y gT λh0 c' b b'=>?_;simp only[nP,oi,EB,nU,oY];refine ao ?_;refine ao<|ao<|jf ?_;show aw _ _ (iW (.ref p) >>= _) _ _ _;cases e1:i[R]? with
 |none=>refine ao<|p6 u (Y.at λo e=>b _ o D.fZ e) (I.at λo e=>b _ o D.jv e) e1 λV e d j=>r V e (λc o l k q B x=>d _ _ k<|b c o l x) j
 |some x1=>
  refine ao<|kt (Y.at λo e=>b _ o D.fZ e) (I.at λo e=>b _ o D.jv e) e1 λV u1 d=>a8<|a8 ?_;refine ao<|ao<|jf ?_;show aw _ _ (iW (.ref n) >>= _) _ _ _;cases Z:h[O]? with
  |none=>refine ao<|p6 u ((X.at λo e=>b _ o D.hX e).at λo e=>d.extBut _ o D.kn.symm e) ((H.at λo e=>b _ o D.kq e).at λo e=>d.extBut _ o D.kg e) Z λU e f j=>r U e (λc o l k q B x=>f _ _ q<|d.extBut _ _ k<|b c o l x) j
  |some x2=>
   refine ao<|kt ((X.at λo e=>b _ o D.hX e).at λo e=>d.extBut _ o D.kn.symm e) ((H.at λo e=>b _ o D.kq e).at λo e=>d.extBut _ o D.kg e) Z λU u2 f=>a8<|a8 ?_;refine ao<|ao<|jf ?_;show aw _ _ (iW (.ref m) >>= _) _ _ _;have e3:g[N]?=none:=by grind
   refine ao<|p6 u (((g3.at λo e=>b _ o D.pP e).at λo e=>d.extBut _ o D.uD.symm e).at λo e=>f.extBut _ o D.uF.symm e) (((m3.at λo e=>b _ o D.uO e).at λo e=>d.extBut _ o D.uA e).at λo e=>f.extBut _ o D.uE e) e3 λh3 e t j=>r h3 e (λc o l k q B x=>t _ _ B<|f.extBut _ _ q<|d.extBut _ _ k<|b c o l x) j
def Wu(D:mJ z a B g f e m l k)(y:jQ s.heap z a B C f1)(T:∃o,s.heap.get? C=some o)(U:s.heap.get? a=some { cls:=.type "tuple",data:=.seq #[.ref g,.ref f,.ref e]})(Y:s.heap.IsListIter g m v)(X:s.heap.IsListIter f l u)(V:s.heap.IsListIter e k t)(S:s.heap.IsList m j)(R:s.heap.IsList l i)(O:s.heap.IsList k h)(J:j[v]?=some N)(I:i[u]?=some M)(H:h[t]?=some L)(q:∀b,jQ b z a B C true->b.IsListIter g m (v+1)->b.IsListIter f l (u+1)->b.IsListIter e k (t+1)->b.get? s.heap.objs.size=some { cls:=.type "tuple",data:=.seq #[N,M,L]}->b.objs.size=s.heap.objs.size+1->(∀c o,c≠z->c≠g->c≠f->c≠e->s.heap.get? c=some o->b.get? c=some o)->Q (some (.ref s.heap.objs.size)) { s with heap:=b}):aw (aH r w) A (e_<|.ref z) Q E s:=by
 have p:s.TypeIs (.ref z) "zip":=⟨_,y,rfl⟩
 unfold e_;exact ao<|tv<|sS (name:=jE "__next__") p ku<|p9 ku p sR (X4 D y T U Y X V S R O J I H λb a1 a2 a3 a4 a5 a6 Z=>a8<|q b a1 a2 a3 a4 a5 a6 Z)<|sP _
def Q3(N:A.handled=none)(D:mJ z a TO k j i t r p)(v:jQ s.heap z a TO T0 f1)(S:∃o,s.heap.get? T0=some o)(U:s.heap.get? a=some { cls:=.type "tuple",data:=.seq #[.ref k,.ref j,.ref i]})(Y:s.heap.IsListIter k t J)(X:s.heap.IsListIter j r I)(V:s.heap.IsListIter i p H)(C:s.heap.IsList t h)(B:s.heap.IsList r g)(y:s.heap.IsList p f)(d:h[J]?=none\/g[I]?=none\/f[H]?=none)(q:∀l,(∀c o,c≠z->c≠k->c≠j->c≠i->s.heap.get? c=some o->l.get? c=some o)->Q none { s with heap:=l}):aw (aH n w) A (e_<|.ref z) Q E s:=by
 have m:s.TypeIs (.ref z) "zip":=⟨_,v,rfl⟩
 unfold e_;refine ao<|tv<|sS (name:=jE "__next__") m ku<|p9 ku m sR (Td N D v S U Y X V C B y d λl e M O=>?_)<|sP _;obtain⟨o,L,R⟩:=O;refine ao<|tp (T:="StopIteration") (b:=true) ⟨o,L,R⟩ E6 ?_;exact a8<|q _ M
def XM{Q:af->am->Prop}(D:mJ z a d O N M l1 l2 l3)(X:eQ s.heap z a d .none)(gI:s.heap.get? a=some { cls:=.type "tuple",data:=.seq #[.ref O,.ref N,.ref M]})(gO:s.heap.get? d=some { cls:=.type "tuple",data:=.seq #[a1,a2,Y]})(g1:s.heap.IsListIter O l1 j1)(g2:s.heap.IsListIter N l2 j2)(g3:s.heap.IsListIter M l3 j3)(m1:s.heap.IsList l1 c')(m2:s.heap.IsList l2 b')(m3:s.heap.IsList l3 a')(y1:c'[j1]?=some m)(y2:b'[j2]?=some p)(y3:a'[j3]?=some t)(q:∀u,eQ u z a d (oh s.heap.objs.size)->u.get? d=some { cls:=.type "tuple",data:=.seq #[m,p,t]}->u.IsListIter O l1 (j1+1)->u.IsListIter N l2 (j2+1)->u.IsListIter M l3 (j3+1)->u.get? s.heap.objs.size=some { cls:=.type "tuple",data:=.seq #[m,p,t]}->u.objs.size=s.heap.objs.size+1->(∀c o,c≠z->c≠d->c≠O->c≠N->c≠M->s.heap.get? c=some o->u.get? c=some o)->Q (.ref s.heap.objs.size) { s with heap:=u}):
 aw (aH f' w) A (Builtin.«zip.__next__» ⟨[.ref z],[]⟩) (λe' s'=>∃v,e'=.done (.ret v)/\Q v s') E s:=by
 show aw _ _ (j6 (.ref z) 2 >>= _) _ _ _;refine ao<|f6 X rfl (x:=.bool false) rfl ?_;show aw _ _ (j6 (.ref z) 3 >>= _) _ _ _;refine ao (f6 X rfl (x:=.ref a) rfl ?_);refine ao<|fG gI rfl ?_;show aw _ _ (lQ (.ref z) >>= _) _ _ _;refine ao ?_;unfold lQ;refine ao<|f6 X rfl (x:=.none) rfl<|a8 ?_;simp only[k6];refine ao (u9 ?_);refine ao (f6 X rfl (x:=.ref d) rfl ?_);refine ao<|lU X (by simp) λh0 I g=>?_;replace I:eQ h0 z a d .ellipsis:=I;refine ao ?_;simp only[Az,List.zipIdx_nil,nU,oY];refine ao<|ao<|qg ?_;show aw _ _ (iW (.ref O) >>= _) _ _ _;refine ao<|kt (g1.at λo e=>g.extBut _ o D.fZ e) (m1.at λo e=>g.extBut _ o D.jv e) y1 λU u1 j=>a8 ?_;have d1:U.get? d=some { cls:=.type "tuple",data:=.seq #[a1,a2,Y]}:=(j.extBut _ _ D.mB<|g.extBut _ _ D.iS gO)
 refine ao (fG d1 rfl ?_);refine ao<|je d1 rfl ?_;have b1:=jX (cM (·.setIfInBounds 0 m)) d1 rfl;have h:oa d U (U.update d (cM (·.setIfInBounds 0 m))):=sU ..;replace b1:(U.update d (cM (·.setIfInBounds 0 m))).get? d=some { cls:=.type "tuple",data:=.seq #[m,a2,Y]}:=by rw[b1];rfl
 generalize U.update d (cM (·.setIfInBounds 0 m))=t1 at b1 h ⊢;refine ao<|jF<|a8 ?_;refine ao<|ao<|qg ?_;show aw _ _ (iW (.ref N) >>= _) _ _ _;refine ao<|kt (((g2.at λo e=>g.extBut _ o D.hX e).at λo e=>j.extBut _ o D.kn.symm e).at λo e=>h.extBut _ o D.kM.symm e) (((m2.at λo e=>g.extBut _ o D.kq e).at λo e=>j.extBut _ o D.kg e).at λo e=>h.extBut _ o D.qT e) y2 λT u2 l=>a8 ?_;have d2:T.get? d=some { cls:=.type "tuple",data:=.seq #[m,a2,Y]}:=(l.extBut _ _ D.kM b1)
 refine ao (fG d2 rfl ?_);refine ao<|je d2 rfl ?_;have b2:=jX (cM (·.setIfInBounds 1 p)) d2 rfl;have i:oa d T (T.update d (cM (·.setIfInBounds 1 p))):=sU ..;replace b2:(T.update d (cM (·.setIfInBounds 1 p))).get? d=some { cls:=.type "tuple",data:=.seq #[m,p,Y]}:=by rw[b2];rfl
 generalize T.update d (cM (·.setIfInBounds 1 p))=t2 at b2 i ⊢;refine ao<|jF<|a8 ?_;refine ao<|ao<|qg ?_;show aw _ _ (iW (.ref M) >>= _) _ _ _;refine ao<|kt (((((g3.at λo e=>g.extBut _ o D.pP e).at λo e=>j.extBut _ o D.uD.symm e).at λo e=>h.extBut _ o D.su.symm e).at λo e=>l.extBut _ o D.uF.symm e).at λo e=>i.extBut _ o D.su.symm e) (((((m3.at λo e=>g.extBut _ o D.uO e).at λo e=>j.extBut _ o D.uA e).at λo e=>h.extBut _ o D.wD e).at λo e=>l.extBut _ o D.uE e).at λo e=>i.extBut _ o D.wD e) y3 λS u3 n=>a8 ?_;have d3:S.get? d=some { cls:=.type "tuple",data:=.seq #[m,p,Y]}:=(n.extBut _ _ D.su b2)
 refine ao (fG d3 rfl ?_);refine ao<|je d3 rfl ?_;have b3:=jX (cM (·.setIfInBounds 2 t)) d3 rfl;have k:oa d S (S.update d (cM (·.setIfInBounds 2 t))):=sU ..;replace b3:(S.update d (cM (·.setIfInBounds 2 t))).get? d=some { cls:=.type "tuple",data:=.seq #[m,p,t]}:=by rw[b3];rfl
 generalize S.update d (cM (·.setIfInBounds 2 t))=r at b3 k ⊢;refine ao<|jF<|a8 ?_;refine a8 (ao<|fG b3 rfl ?_);refine ao<|E5 ?_;have sz:r.objs.size=s.heap.objs.size:=by rw[k.1,n.1,i.1,l.1,h.1,j.1,g.1]
 have V:eQ r z a d .ellipsis:=(k.extBut _ _ D.iS.symm<|n.extBut _ _ D.pP.symm<|i.extBut _ _ D.iS.symm<|l.extBut _ _ D.hX.symm<|h.extBut _ _ D.iS.symm<|j.extBut _ _ D.fZ.symm I)
 have zl:z<r.objs.size:=cq V;show aw _ _ (Ei (.ref z) (.ref r.objs.size) >>= _) _ _ _;refine ao ?_;unfold Ei;have d':eQ (r.push { cls:=.type "tuple",data:=.seq #[m,p,t]}) z a d .ellipsis:=bV _ V;refine ao (lU d' (by simp) λha H C=>?_);replace H:eQ ha z a d (oh r.objs.size):=H;refine lU H (by simp) λR y B=>?_;replace y:eQ R z a d (oh r.objs.size):=y;have J:∀c o,c≠z->r.get? c=some o->R.get? c=some o:=λc o Z e=>B.extBut _ _ Z<|C.extBut _ _ Z<|bV _ e;have gt:R.get? r.objs.size=some { cls:=.type "tuple",data:=.seq #[m,p,t]}:=B.extBut _ _ (o4 zl)<|C.extBut _ _ (o4 zl)<|dM _ rfl;have L:R.objs.size=r.objs.size+1:=by rw[B.1,C.1,iw]
 rw[sz] at y gt L;refine a8 ⟨_,rfl,?_⟩;show Q (.ref r.objs.size) _;rw[sz];exact q R y (J _ _ D.iS b3) ((((((u1.at λo e=>h.extBut _ o D.mB.symm e).at λo e=>l.extBut _ o D.kn e).at λo e=>i.extBut _ o D.mB.symm e).at λo e=>n.extBut _ o D.uD e).at λo e=>k.extBut _ o D.mB.symm e).at λo e=>J _ o D.fZ e) ((((u2.at λo e=>i.extBut _ o D.kM.symm e).at λo e=>n.extBut _ o D.uF e).at λo e=>k.extBut _ o D.kM.symm e).at λo e=>J _ o D.hX e) ((u3.at λo e=>k.extBut _ o D.su.symm e).at λo e=>J _ o D.pP e) gt L λc o c0 cT Z c2 c3 e=>J c o c0<|k.extBut _ _ cT<|n.extBut _ _ c3<|i.extBut _ _ cT<|l.extBut _ _ c2<|h.extBut _ _ cT<|j.extBut _ _ Z<|g.extBut _ _ c0 e
def SF(hh:A.handled=none)(D:mJ z a g V U T l1 l2 l3)(O:eQ s.heap z a g .none)(gI:s.heap.get? a=some { cls:=.type "tuple",data:=.seq #[.ref V,.ref U,.ref T]})(gO:s.heap.get? g=some { cls:=.type "tuple",data:=.seq #[a1,a2,Y]})(g1:s.heap.IsListIter V l1 j1)(g2:s.heap.IsListIter U l2 j2)(g3:s.heap.IsListIter T l3 j3)(m1:s.heap.IsList l1 H)(m2:s.heap.IsList l2 C)(m3:s.heap.IsList l3 B)(b':H[j1]?=none\/C[j2]?=none\/B[j3]?=none)(Z:∀h' e,(∀c o,c≠z->c≠g->c≠V->c≠U->c≠T->s.heap.get? c=some o->h'.get? c=some o)->(∃o,h'.get? e=some o/\o.cls=.type "StopIteration")->E (.ref e) { s with heap:=h'}):aw (aH a' w) A (Builtin.«zip.__next__» ⟨[.ref z],[]⟩) Q E s:=by
 show aw _ _ (j6 (.ref z) 2 >>= _) _ _ _;refine ao<|f6 O rfl (x:=.bool false) rfl ?_;show aw _ _ (j6 (.ref z) 3 >>= _) _ _ _;refine ao (f6 O rfl (x:=.ref a) rfl ?_);refine ao<|fG gI rfl ?_;show aw _ _ (lQ (.ref z) >>= _) _ _ _;refine ao ?_;unfold lQ;refine ao<|f6 O rfl (x:=.none) rfl<|a8 ?_;simp only[k6];refine ao (u9 ?_);refine ao (f6 O rfl (x:=.ref g) rfl ?_);refine ao<|lU O (by simp) λh0 q b=>?_;replace q:eQ h0 z a g .ellipsis:=q;refine ao ?_;simp only[Az,List.zipIdx_nil,nU,oY];refine ao<|ao<|qg ?_;show aw _ _ (iW (.ref V) >>= _) _ _ _;cases e1:H[j1]? with
 |none=>
  refine ao<|p6 hh (g1.at λo e=>b.extBut _ o D.fZ e) (m1.at λo e=>b.extBut _ o D.jv e) e1 λy e d N=>?_;obtain⟨J,m,n⟩:=N;have p:eQ y z a g .ellipsis:=d _ _ D.fZ.symm q;have k:e≠z:=by grind
  exact lU p (by simp) λM _ h=>Z M e (λc o t R S X c3 x=>h.extBut _ _ t<|d _ _ S<|b.extBut _ _ t x) ⟨J,h.extBut _ _ k m,n⟩
 |some u=>
  refine ao<|kt (g1.at λo e=>b.extBut _ o D.fZ e) (m1.at λo e=>b.extBut _ o D.jv e) e1 λy u1 d=>a8 ?_;have d1:y.get? g=some { cls:=.type "tuple",data:=.seq #[a1,a2,Y]}:=(d.extBut _ _ D.mB<|b.extBut _ _ D.iS gO)
  refine ao (fG d1 rfl ?_);refine ao<|je d1 rfl ?_;have b1:=jX (cM (·.setIfInBounds 0 u)) d1 rfl;have f:oa g y (y.update g (cM (·.setIfInBounds 0 u))):=sU ..;replace b1:(y.update g (cM (·.setIfInBounds 0 u))).get? g=some { cls:=.type "tuple",data:=.seq #[u,a2,Y]}:=by rw[b1];rfl
  generalize y.update g (cM (·.setIfInBounds 0 u))=t1 at b1 f ⊢;refine ao<|jF<|a8 ?_;refine ao<|ao<|qg ?_;show aw _ _ (iW (.ref U) >>= _) _ _ _;cases e2:C[j2]? with
  |none=>
   refine ao<|p6 hh (((g2.at λo e=>b.extBut _ o D.hX e).at λo e=>d.extBut _ o D.kn.symm e).at λo e=>f.extBut _ o D.kM.symm e) (((m2.at λo e=>b.extBut _ o D.kq e).at λo e=>d.extBut _ o D.kg e).at λo e=>f.extBut _ o D.qT e) e2 λv e i N=>?_;obtain⟨J,m,n⟩:=N;have p:eQ v z a g .ellipsis:=i _ _ D.hX.symm<|f.extBut _ _ D.iS.symm<|d.extBut _ _ D.fZ.symm q;have k:e≠z:=by grind
   exact lU p (by simp) λM _ h=>Z M e (λc o t R S X c3 x=>h.extBut _ _ t<|i _ _ X<|f.extBut _ _ R<|d.extBut _ _ S<|b.extBut _ _ t x) ⟨J,h.extBut _ _ k m,n⟩
  |some I=>
   refine ao<|kt (((g2.at λo e=>b.extBut _ o D.hX e).at λo e=>d.extBut _ o D.kn.symm e).at λo e=>f.extBut _ o D.kM.symm e) (((m2.at λo e=>b.extBut _ o D.kq e).at λo e=>d.extBut _ o D.kg e).at λo e=>f.extBut _ o D.qT e) e2 λv u2 i=>a8 ?_;have d2:v.get? g=some { cls:=.type "tuple",data:=.seq #[u,a2,Y]}:=(i.extBut _ _ D.kM b1)
   refine ao (fG d2 rfl ?_);refine ao<|je d2 rfl ?_;have b2:=jX (cM (·.setIfInBounds 1 I)) d2 rfl;have l:oa g v (v.update g (cM (·.setIfInBounds 1 I))):=sU ..;replace b2:(v.update g (cM (·.setIfInBounds 1 I))).get? g=some { cls:=.type "tuple",data:=.seq #[u,I,Y]}:=by rw[b2];rfl
   generalize v.update g (cM (·.setIfInBounds 1 I))=t2 at b2 l ⊢;refine ao<|jF<|a8 ?_;refine ao<|ao<|qg ?_;show aw _ _ (iW (.ref T) >>= _) _ _ _;have e3:B[j3]?=none:=by grind
   refine ao<|p6 hh (((((g3.at λo e=>b.extBut _ o D.pP e).at λo e=>d.extBut _ o D.uD.symm e).at λo e=>f.extBut _ o D.su.symm e).at λo e=>i.extBut _ o D.uF.symm e).at λo e=>l.extBut _ o D.su.symm e) (((((m3.at λo e=>b.extBut _ o D.uO e).at λo e=>d.extBut _ o D.uA e).at λo e=>f.extBut _ o D.wD e).at λo e=>i.extBut _ o D.uE e).at λo e=>l.extBut _ o D.wD e) e3 λh3 e L N=>?_;obtain⟨J,m,n⟩:=N;have p:eQ h3 z a g .ellipsis:=L _ _ D.pP.symm<|l.extBut _ _ D.iS.symm<|i.extBut _ _ D.hX.symm<|f.extBut _ _ D.iS.symm<|d.extBut _ _ D.fZ.symm q;have k:e≠z:=by grind
   exact lU p (by simp) λM _ h=>Z M e (λc o t R S X c3 x=>h.extBut _ _ t<|L _ _ c3<|l.extBut _ _ R<|i.extBut _ _ X<|f.extBut _ _ R<|d.extBut _ _ S<|b.extBut _ _ t x) ⟨J,h.extBut _ _ k m,n⟩
def K6(D:mJ z a f i h g p n m)(B:eQ s.heap z a f .none)(O:s.heap.get? a=some { cls:=.type "tuple",data:=.seq #[.ref i,.ref h,.ref g]})(N:s.heap.get? f=some { cls:=.type "tuple",data:=.seq #[a1,a2,a3]})(T:s.heap.IsListIter i p x)(S:s.heap.IsListIter h n v)(R:s.heap.IsListIter g m u)(M:s.heap.IsList p l)(L:s.heap.IsList n k)(J:s.heap.IsList m j)(I:l[x]?=some x1)(H:k[v]?=some x2)(C:j[u]?=some x3)(q:∀b,eQ b z a f (oh s.heap.objs.size)->b.get? f=some { cls:=.type "tuple",data:=.seq #[x1,x2,x3]}->b.IsListIter i p (x+1)->b.IsListIter h n (v+1)->b.IsListIter g m (u+1)->b.get? s.heap.objs.size=some { cls:=.type "tuple",data:=.seq #[x1,x2,x3]}->b.objs.size=s.heap.objs.size+1->(∀c o,c≠z->c≠f->c≠i->c≠h->c≠g->s.heap.get? c=some o->b.get? c=some o)->Q (some (.ref s.heap.objs.size)) { s with heap:=b}):aw (aH t w) A (e_<|.ref z) Q E s:=by
 have r:s.TypeIs (.ref z) "zip":=⟨_,B,rfl⟩
 unfold e_;exact ao<|tv<|sS (name:=jE "__next__") r ku<|p9 ku r sR (XM D B O N T S R M L J I H C λb b1 b2 b3 Z Y X V U=>a8<|q b b1 b2 b3 Z Y X V U)<|sP _
def GS(R:A.handled=none)(D:mJ z a p l k j x v u)(B:eQ s.heap z a p .none)(X:s.heap.get? a=some { cls:=.type "tuple",data:=.seq #[.ref l,.ref k,.ref j]})(V:s.heap.get? p=some { cls:=.type "tuple",data:=.seq #[a1,a2,a3]})(g1:s.heap.IsListIter l x M)(Z:s.heap.IsListIter k v L)(Y:s.heap.IsListIter j u J)(I:s.heap.IsList x i)(H:s.heap.IsList v h)(C:s.heap.IsList u g)(d:i[M]?=none\/h[L]?=none\/g[J]?=none)(q:∀m,(∀c o,c≠z->c≠p->c≠l->c≠k->c≠j->s.heap.get? c=some o->m.get? c=some o)->Q none { s with heap:=m}):aw (aH t w) A (e_<|.ref z) Q E s:=by
 have r:s.TypeIs (.ref z) "zip":=⟨_,B,rfl⟩
 unfold e_;refine ao<|tv<|sS (name:=jE "__next__") r ku<|p9 ku r sR (SF R D B X V g1 Z Y I H C d λm e O S=>?_)<|sP _;obtain⟨o,N,U⟩:=S;refine ao<|tp (T:="StopIteration") (b:=true) ⟨o,N,U⟩ E6 ?_;exact a8<|q _ O
def N9(a b c:af):checkTypeCall "zip" ⟨[a,b,c],[]⟩=pure ():=by kernel_rfl
def Oj(a b c:af):checkBuiltinCall "zip.__new__" ⟨[.type "zip",a,b,c],[]⟩=pure ():=by kernel_rfl
def O0(a b c d:af):argsOk "object.__init__" ⟨[a,b,c,d],[]⟩:=by unfold argsOk;rw[signature?_of (id:="object.__init__") (n:=['_','_','t','i','n','i','_','_']) (o:=['t','c','e','j','b','o']) (by rfl) PySem.F.owner_object];rfl
abbrev z8(h:aJ)(b:aa):aJ:=h.push { cls:=.type "list_iterator",data:=.fields #[.ref b,.int 0 0]}
abbrev zR(h:aJ)(c b:aa):aJ:=(z8 h c).push { cls:=.type "list_iterator",data:=.fields #[.ref b,.int 0 0]}
abbrev wM(h:aJ)(d c b:aa):aJ:=(zR h d c).push { cls:=.type "list_iterator",data:=.fields #[.ref b,.int 0 0]}
abbrev Ag(h:aJ)(a b d:aa):aJ:=(wM h a b d).push { cls:=.type "tuple",data:=.seq #[.ref h.objs.size,.ref (z8 h a).objs.size,.ref (zR h a b).objs.size]}
abbrev Ae(h:aJ)(d c b:aa):aJ:=(Ag h d c b).push { cls:=.type "tuple",data:=.seq #[.none,.none,.none]}
abbrev pX(h:aJ)(c b a:aa):aJ:=(Ae h c b a).push { cls:=.type "zip",data:=.fields #[.none,.bool false,.bool false,.ref (wM h c b a).objs.size,.ref (Ag h c b a).objs.size]}
set_option maxHeartbeats 4000000 in
def O1(b c e:aa)(m l k:Array af):
 Meets (Builtin.«zip.__new__» ⟨[.type "zip",.ref b,.ref c,.ref e],[]⟩) (λ_ R s=>s.heap.IsList b m/\s.heap.IsList c l/\s.heap.IsList e k/\R (.ok<|.ret<|.ref (Ae s.heap b c e).objs.size) { s with heap:=pX s.heap b c e}):=
 .of_wp λn w A R s h=>by
  obtain⟨j,g,d,i,os⟩:=s;obtain⟨t,r,q,h⟩:=h;have o:=sub_zip;have x:NP (NE ⟨j,g,d,i,os⟩) b m:=t;have v:NP (NE ⟨j.push { cls:=.type "list_iterator",data:=.fields #[.ref b,.int 0 0]},g,d,i,os⟩) c l:=aaD r _;have u:NP (NE ⟨(j.push { cls:=.type "list_iterator",data:=.fields #[.ref b,.int 0 0]}).push { cls:=.type "list_iterator",data:=.fields #[.ref c,.int 0 0]},g,d,i,os⟩) e k:=(aaD q _).push _
  wp_walk using uW x,uW v,uW u
  exact⟨_,rfl,h⟩
def GI(M:s.heap.IsList a I)(L:s.heap.IsList b H)(J:s.heap.IsList d C)(q:∀f,eQ f (s.heap.objs.size+5) (s.heap.objs.size+3) (s.heap.objs.size+4) .none->f.get? (s.heap.objs.size+3)=some { cls:=.type "tuple",data:=.seq #[.ref s.heap.objs.size,.ref<|s.heap.objs.size+1,.ref<|s.heap.objs.size+2]}->
 f.get? (s.heap.objs.size+4)=some { cls:=.type "tuple",data:=.seq #[.none,.none,.none]}->f.IsListIter s.heap.objs.size a 0->f.IsListIter (s.heap.objs.size+1) b 0->f.IsListIter (s.heap.objs.size+2) d 0->f.objs.size=s.heap.objs.size+6->
 (∀c o,s.heap.get? c=some o->f.get? c=some o)->Q (.ref (s.heap.objs.size+5)) { s with heap:=f}):aw (aH t w) A (call (.type "zip") [.ref a,.ref b,.ref d]) Q E s:=by
 refine callType_new PySem.F.called_zip (by decide) (N9 _ _ _) (Oj _ _ _) (λi=>O0 i _ _ _) PySem.F.entry_zip_new (O1 a b d I H C) ⟨M,L,J,?_⟩;have r:(z8 s.heap a).objs.size=s.heap.objs.size+1:=iw ..;have p:(zR s.heap a b).objs.size=s.heap.objs.size+2:=by simp
 have n:(wM s.heap a b d).objs.size=s.heap.objs.size+3:=by simp
 have m:(Ag s.heap a b d).objs.size=s.heap.objs.size+4:=by simp
 have l:(Ae s.heap a b d).objs.size=s.heap.objs.size+5:=by simp
 have D:(pX s.heap a b d).objs.size=s.heap.objs.size+6:=by simp
 have h:∀{c:aa}{o:bD},(wM s.heap a b d).get? c=some o->(pX s.heap a b d).get? c=some o:=λe=>bV _<|bV _<|bV _ e;have j:(pX s.heap a b d).get? (Ae s.heap a b d).objs.size=some _:=dM _ rfl;have v:(pX s.heap a b d).get? (Ag s.heap a b d).objs.size=some _:=bV _<|dM _ rfl;have y:(pX s.heap a b d).get? (wM s.heap a b d).objs.size=some _:=bV _<|bV _<|dM _ rfl;have z:(pX s.heap a b d).get? (zR s.heap a b).objs.size=some _:=h<|dM _ rfl;have B:(pX s.heap a b d).get? (z8 s.heap a).objs.size=some _:=h<|bV _<|dM _ rfl;have N:(pX s.heap a b d).get? s.heap.objs.size=some _:=h<|bV _<|bV _<|dM _ rfl;show _/\_;rw[n,m,l] at j;rw[r,p,n] at y;rw[m] at v;rw[p] at z;rw[r] at B;rw[l];exact⟨⟨_,j,rfl⟩,q _ j y v ⟨_,N,rfl,rfl⟩ ⟨_,B,rfl,rfl⟩ ⟨_,z,rfl,rfl⟩ D λc o x=>h<|bV _<|bV _<|bV _ x⟩
structure uq(prog:a0)(w:aT)(A:b8)(I S:aa)(wr:List aa)(n:Nat)(St:Nat->Array af->aJ->Prop)(Fin:Array af->aJ->Prop):Prop where
 nS:S∉wr
 frame:∀i acc h h',St i acc h->(∀b o,b≠S->h.get? b=some o->h'.get? b=some o)->St i acc h'
 item:∀i acc(s:am)(Q:Option af->am->Prop)(E:af->am->Prop),i<n->(∃o,s.heap.get? S=some o)->St i acc s.heap->
  (∀v h',St (i+1) (acc.push v) h'->(∀b o,b∉wr->s.heap.get? b=some o->h'.get? b=some o)->Q (some v) { s with heap:=h'})->aw (aH prog w) A (e_<|.ref I) Q E s
 done:∀acc(s:am)(Q:Option af->am->Prop)(E:af->am->Prop),St n acc s.heap->
  (∀h',Fin acc h'->(∀b o,b∉wr->s.heap.get? b=some o->h'.get? b=some o)->Q none { s with heap:=h'})->aw (aH prog w) A (e_<|.ref I) Q E s
 kj:∀acc(s:am)(Q:af->am->Prop)(E:af->am->Prop),St 0 acc s.heap->Q (.ref I) s->aw (aH prog w) A (AV (.ref I)) Q E s
def Hd(W:uq p w A.in1 I S T n a d)(hn:n<=bx)(m:af):∀(k i:Nat)(s:am)(g:Array af)(c:Nat),n-i=k->i<=n->g.size=i->a i g s.heap->
 s.heap.get? S=some { cls:=.type "list",dict:=none,data:=.seq g c,slots:=#[]}->
 (∀j h E,d h j->h.size=n->j.get? S=some { cls:=.type "list",dict:=none,data:=.seq h E,slots:=#[]}->(∀b o,b∉T->b≠S->s.heap.get? b=some o->j.get? b=some o)->R (.ok (.ret m)) { s with heap:=j})->
 mU (aH p w) A (.builtin "list.extend.loop" ⟨[.ref S,.ref I,m],[]⟩) R s:=by
 intro k;induction k with
 |zero=>
  intro i s g c e1 e2 N st y q;have Z:i=n:=by omega
  subst Z;refine nV Z_ ?_;rw[nN Ai _];show aw _ A.in1 (e_ (.ref I) >>= _) _ _ s;refine ao<|W.done g s _ _ st λj f kp=>?_;exact a8<|q j g c f N (kp S _ W.nS y) λb o Q _ e=>kp b o Q e
 |succ k U=>
  intro i s g c e1 e2 N st y q;have L:i<n:=by omega
  refine nV Z_ ?_;rw[nN Ai _];show aw _ A.in1 (e_ (.ref I) >>= _) _ _ s;refine ao<|W.item i g s _ _ L ⟨_,y⟩ st λv j B kp=>?_;have t:=kp S _ W.nS y;have r:∀b o,b≠S->j.get? b=some o->(j.update S (cM (·.push v))).get? b=some o:=λb o z e=>(lR _ _<|ci z).trans e;show aw _ A.in1 (rD S (·.push v) >>= _) _ _ _;refine ao ?_;refine je t rfl (a8 ⟨kX Ai _,U (i+1) _ (g.push v) _ (by omega) L (by grind) (W.frame _ _ _ _ B r) (jX _ t rfl) λV h E Y O X C=>?_⟩) (by omega)<|by show(g.push v).size<=bx+1;rw[AB];omega
  exact q V h E Y O X λb o J H e=>C b o J H<|r b o H<|kp b o J e
def PB:qj (.type "zip") "__len__"=pure none:=by rw[u5,uT];kernel_rfl
def Ot:qj (.type "zip") "__length_hint__"=pure none:=by rw[u5,uT];kernel_rfl
def HQ(W:uq r w A.in1.in1 I s.heap.objs.size V n a c)(Z:n<=bx)(X:∀M(s:am),a 0 M s.heap->s.TypeIs (.ref I) "zip")(Y:s.heap.objs.size≠I)(st:a 0 #[] s.heap)(q:∀p h L,c h p->h.size=n->p.get? s.heap.objs.size=some { cls:=.type "list",dict:=none,data:=.seq h L,slots:=#[]}->(∀b o,b∉V->s.heap.get? b=some o->p.get? b=some o)->Q (.ref s.heap.objs.size) { s with heap:=p}):
 aw (aH r w) A (call (.type "list") [.ref I]) Q E s:=by
 refine NG (Q₁:=λt l=>t=.ref s.heap.objs.size/\l={ s with heap:=s.heap.push { cls:=.type "list",data:=.seq #[]}}) aaJ (aai _) aan (code_list_new _ ⟨rfl,rfl⟩) λt l u=>?_;obtain⟨rfl,rfl⟩:=u;have x:(s.heap.push { cls:=.type "list",data:=.seq #[]}).get? s.heap.objs.size=some { cls:=.type "list",data:=.seq #[]}:=dM _ rfl;refine⟨⟨_,x,rfl⟩,aaf _ _,?_⟩;show aw _ A.in1.in1 (do let C <-Eo (.ref s.heap.objs.size);Z2 (.ref s.heap.objs.size) (λ_=>#[]);letGo C.toList.reverse;w4 (.ref s.heap.objs.size) (.ref I) .none) _ _ _;refine ao ?_;unfold Eo;refine ao<|fG x rfl<|a8 ?_;show aw _ A.in1.in1 (rD s.heap.objs.size (λ_=>#[]) >>= λ_=>letGo (#[]:Array af).toList.reverse >>= λ_=>w4 (.ref s.heap.objs.size) (.ref I) .none) _ _ _;refine ao (je x rfl ?_);have J:=jX (cM λ_=>(#[]:Array af)) x rfl;refine ao<|jF ?_;have k:a 0 #[] ((s.heap.push { cls:=.type "list",data:=.seq #[]}).update s.heap.objs.size (cM λ_=>(#[]:Array af))):=W.frame _ _ _ _ st λb o z e=>(lR _ _<|ci z).trans<|bV _ e;have H:∀b o,b≠s.heap.objs.size->s.heap.get? b=some o->((s.heap.push { cls:=.type "list",data:=.seq #[]}).update s.heap.objs.size (cM λ_=>(#[]:Array af))).get? b=some o:=λb o z e=>(lR _ _<|ci z).trans<|bV _ e;generalize a':(s.heap.push { cls:=.type "list",data:=.seq #[]}).update s.heap.objs.size (cM λ_=>(#[]:Array af))=v at J k H;unfold w4;have m:xk { s with heap:=v} (.ref I) "zip":=X #[] { s with heap:=v} k;refine ao<|AM m ?_;have U:El (.ref s.heap.objs.size) (.ref I)=false:=by simp[El,Y]
 have T:(ky "zip"==ky "list")=false:=by decide
 have S:(ky "zip"==ky "tuple")=false:=by decide
 simp only[U,T,S,E2,nP,oi];refine ao (W.kj #[] _ _ _ k ?_);refine ao<|jf ?_;unfold ZV;refine ao<|tq m PB ?_;show aw _ A.in1.in1 (specialOf (c7 I) (jE "__length_hint__") >>= _) _ _ _;refine ao<|tq m Ot<|a8 ?_;show aw _ A.in1.in1 (rH "list.extend.makes-room" >>= λ_=>Builtin.List.listTouch (.ref s.heap.objs.size) >>= λ_=>again<|.builtin "list.extend.loop" ⟨[.ref s.heap.objs.size,.ref I,.none],[]⟩) _ _ _;refine ao<|u9<|ao ?_;show aw _ A.in1.in1 (rD s.heap.objs.size (·.push .none) >>= λ_=>rD s.heap.objs.size (·.pop)) _ _ _;refine ao<|je J rfl ?_;have N:=jX (cM (·.push tD)) J rfl;refine je (hz:=by seq_fits) N rfl ?_;have g4:=jX (cM (·.pop)) N rfl;have D:∀b o,b≠s.heap.objs.size->v.get? b=some o->((v.update s.heap.objs.size (cM (·.push tD))).update s.heap.objs.size (cM (·.pop))).get? b=some o:=λb o z e=>(lR _ _<|ci z).trans<|(lR _ _<|ci z).trans e;refine a8 ⟨kX Ai _,Hd W Z .none n 0 _ _ _ rfl (j0 _) rfl (W.frame _ _ _ _ k D) g4 λp h L f z g kp=>⟨rfl,q p h L f z g λb o y e=>?_⟩⟩;have nb:b≠s.heap.objs.size:=fg<|cq e;grind
structure Zz(z TI TO i1 i2 l1 l2 S:aa)(xs1 xs2:Array af)(X1 X2:Nat->af)(i:Nat)(acc:Array af)(h:aJ):Prop where
 sz:acc.size=i
 gI:h.get? TI=some { cls:=.type "tuple",data:=.seq #[.ref i1,.ref i2]}
 gO:∃a1 a2,h.get? TO=some { cls:=.type "tuple",data:=.seq #[a1,a2]}
 g1:h.IsListIter i1 l1 i
 g2:h.IsListIter i2 l2 i
 m1:h.IsList l1 xs1
 m2:h.IsList l2 xs2
 zz:(i=0/\eQ h z TI TO .none)\/(0<i/\∃T0 f1,jQ h z TI TO T0 f1/\acc[0]?=some (.ref T0))
 e6:∀j,j<i->∃T,acc[j]?=some (.ref T)/\S<T/\h.get? T=some { cls:=.type "tuple",data:=.seq #[X1 j,X2 j]}
def S9{a:Array af}{j:Nat}(h:a[j]?=some x):(a.push v)[j]?=some x:=by grind
def Wd{prog:a0}{w:aT}{A:b8}{z TI v t r l1 Z S:aa}{xs1 xs2:Array af}{X1 X2:Nat->af}{n:Nat}(hh:A.handled=none)(D:oR z TI v t r l1 Z)
 (lz:z<S)(Y:TI<S)(e':v<S)(X:t<S)(V:r<S)(U:l1<S)(R:Z<S)(y1:∀j,j<n->xs1[j]?=some (X1 j))(y2:∀j,j<n->xs2[j]?=some (X2 j))(k:xs1[n]?=none\/xs2[n]?=none):
 uq prog w A z S [z,v,t,r] n (Zz z TI v t r l1 Z S xs1 xs2 X1 X2) (λd h=>∀j,j<n->∃T,d[j]?=some (.ref T)/\S<T/\h.get? T=some { cls:=.type "tuple",data:=.seq #[X1 j,X2 j]}) where
 nS:=by grind
 frame:=λi d h m st kp=>by
  have y:∀{c:aa},c<S->c≠S:=λl=>fg l;obtain⟨a1,a2,B⟩:=st.gO;refine⟨st.sz,kp _ _ (y Y) st.gI,(by grind),st.g1.at λo e=>kp _ o (y X) e,st.g2.at λo e=>kp _ o (y V) e,st.m1.at λo e=>kp _ o (y U) e,st.m2.at λo e=>kp _ o (y R) e,?_,λj a=>?_⟩
  ·rcases st.zz with⟨e,g⟩|⟨e,T0,f1,g,u⟩;·grind
   grind
  ·obtain⟨T,u,lT,gT⟩:=st.e6 j a;grind
 item:=λi d s Q E H hS st q=>by
  obtain⟨oS,hS⟩:=hS;have lS:S<s.heap.objs.size:=cq hS;obtain⟨a1,a2,B⟩:=st.gO;have d':(d.push (.ref s.heap.objs.size))[i]?=some (.ref s.heap.objs.size):=by rw[<-st.sz];grind
  have nz:∀{c:aa},S<c->c≠z:=by grind
  have O:∀{c:aa},S<c->c≠v:=by grind
  have N:∀{c:aa},S<c->c≠t:=by grind
  have M:∀{c:aa},S<c->c≠r:=by grind
  rcases st.zz with⟨e,g⟩|⟨e,T0,f1,g,u⟩
  ·refine WX D g st.gI B st.g1 st.g2 st.m1 st.m2 (y1 i H) (y2 i H) λm gz a' J I gt L kp=>q _ m ⟨by rw[AB,st.sz],kp _ _ D.sB D.zI D.ux D.uw st.gI,⟨X1 i,X2 i,a'⟩,J,I,
    st.m1.at λo e=>kp _ o D.jv D.DQ D.wE D.wC e,st.m2.at λo e=>kp _ o D.kq D.qT D.kg D.wF e,(by grind),λj a=>?_⟩ (by grind)
   rcases Er.mp a with a|a;·omega
   grind
  ·obtain⟨b',f,_,p⟩:=st.e6 0 e;rw[u] at f;cases f;refine Xa D g ⟨_,p⟩ st.gI st.g1 st.g2 st.m1 st.m2 (y1 i H) (y2 i H) λm gz J I gt L kp=>q _ m ⟨by rw[AB,st.sz],kp _ _ D.sB D.ux D.uw st.gI,⟨a1,a2,kp _ _ D.iS D.mB D.kM B⟩,J,I,
    st.m1.at λo e=>kp _ o D.jv D.wE D.wC e,st.m2.at λo e=>kp _ o D.kq D.kg D.wF e,(by grind),λj a=>?_⟩ (by grind)
   rcases Er.mp a with a|a
   ·obtain⟨T,gj,lT,gT⟩:=st.e6 j a;grind
   grind
 done:=λd s Q E st q=>by
  obtain⟨a1,a2,B⟩:=st.gO;have nz:∀{c:aa},S<c->c≠z:=by grind
  have O:∀{c:aa},S<c->c≠v:=by grind
  have N:∀{c:aa},S<c->c≠t:=by grind
  have M:∀{c:aa},S<c->c≠r:=by grind
  rcases st.zz with⟨e,g⟩|⟨e,T0,f1,g,u⟩
  ·refine Q2 hh D g st.gI B st.g1 st.g2 st.m1 st.m2 k λm kp=>q m (λj a=>?_) λb o C eb=>kp b o (λx=>C<|by simp[x]) (λx=>C<|by simp[x]) (λx=>C<|by simp[x]) (λx=>C<|by simp[x]) eb;omega
  ·obtain⟨b',f,_,p⟩:=st.e6 0 e;rw[u] at f;cases f;refine Rj hh D g ⟨_,p⟩ st.gI st.g1 st.g2 st.m1 st.m2 k λm kp=>q m (λj a=>?_)<|by grind
   obtain⟨T,gj,lT,gT⟩:=st.e6 j a;grind
 kj:=λd s Q E st q=>by
  rcases st.zz with⟨e,g⟩|⟨e,T0,f1,g,u⟩;·exact EU g q
  omega
structure ZR(z TI TO i1 i2 i3 l1 l2 l3 S:aa)(xs1 xs2 xs3:Array af)(X1 X2 X3:Nat->af)(i:Nat)(acc:Array af)(h:aJ):Prop where
 sz:acc.size=i
 gI:h.get? TI=some { cls:=.type "tuple",data:=.seq #[.ref i1,.ref i2,.ref i3]}
 gO:∃a1 a2 a3,h.get? TO=some { cls:=.type "tuple",data:=.seq #[a1,a2,a3]}
 g1:h.IsListIter i1 l1 i
 g2:h.IsListIter i2 l2 i
 g3:h.IsListIter i3 l3 i
 m1:h.IsList l1 xs1
 m2:h.IsList l2 xs2
 m3:h.IsList l3 xs3
 zz:(i=0/\eQ h z TI TO .none)\/(0<i/\∃T0 f1,jQ h z TI TO T0 f1/\acc[0]?=some (.ref T0))
 e6:∀j,j<i->∃T,acc[j]?=some (.ref T)/\S<T/\h.get? T=some { cls:=.type "tuple",data:=.seq #[X1 j,X2 j,X3 j]}
def WK{prog:a0}{w:aT}{A:b8}{z TI C y v u l1 l2 l3 S:aa}{xs1 xs2 xs3:Array af}{X1 X2 X3:Nat->af}{n:Nat}(hh:A.handled=none)(D:mJ z TI C y v u l1 l2 l3)
 (lz:z<S)(d':TI<S)(j':C<S)(c':y<S)(b':v<S)(a':u<S)(Z:l1<S)(Y:l2<S)(X:l3<S)(y1:∀j,j<n->xs1[j]?=some (X1 j))(y2:∀j,j<n->xs2[j]?=some (X2 j))(y3:∀j,j<n->xs3[j]?=some (X3 j))(k:xs1[n]?=none\/xs2[n]?=none\/xs3[n]?=none):
 uq prog w A z S [z,C,y,v,u] n (ZR z TI C y v u l1 l2 l3 S xs1 xs2 xs3 X1 X2 X3) (λd h=>∀j,j<n->∃T,d[j]?=some (.ref T)/\S<T/\h.get? T=some { cls:=.type "tuple",data:=.seq #[X1 j,X2 j,X3 j]}) where
 nS:=by grind
 frame:=λi d h m st kp=>by
  have p:∀{c:aa},c<S->c≠S:=λl=>fg l;obtain⟨a1,a2,a3,I⟩:=st.gO;refine⟨st.sz,kp _ _ (p d') st.gI,(by grind),st.g1.at λo e=>kp _ o (p c') e,st.g2.at λo e=>kp _ o (p b') e,st.g3.at λo e=>kp _ o (p a') e,st.m1.at λo e=>kp _ o (p Z) e,st.m2.at λo e=>kp _ o (p Y) e,st.m3.at λo e=>kp _ o (p X) e,?_,λj a=>?_⟩
  ·rcases st.zz with⟨e,g⟩|⟨e,T0,f1,g,B⟩;·grind
   grind
  ·obtain⟨T,B,lT,gT⟩:=st.e6 j a;grind
 item:=λi d s Q E t hS st q=>by
  obtain⟨oS,hS⟩:=hS;have lS:S<s.heap.objs.size:=cq hS;obtain⟨a1,a2,a3,I⟩:=st.gO;have i':(d.push (.ref s.heap.objs.size))[i]?=some (.ref s.heap.objs.size):=by rw[<-st.sz];grind
  have nz:∀{c:aa},S<c->c≠z:=by grind
  have V:∀{c:aa},S<c->c≠C:=by grind
  have U:∀{c:aa},S<c->c≠y:=by grind
  have R:∀{c:aa},S<c->c≠v:=by grind
  have O:∀{c:aa},S<c->c≠u:=by grind
  rcases st.zz with⟨e,g⟩|⟨e,T0,f1,g,B⟩
  ·refine K6 D g st.gI I st.g1 st.g2 st.g3 st.m1 st.m2 st.m3 (y1 i t) (y2 i t) (y3 i t) λm gz e' M L J gt N kp=>q _ m ⟨by rw[AB,st.sz],kp _ _ D.sB D.zI D.ux D.uw D.DM st.gI,⟨X1 i,X2 i,X3 i,e'⟩,M,L,J,
    st.m1.at λo e=>kp _ o D.jv D.DQ D.wE D.wC D.L1 e,st.m2.at λo e=>kp _ o D.kq D.qT D.kg D.wF D.LY e,st.m3.at λo e=>kp _ o D.uO D.wD D.uA D.uE D.L5 e,(by grind),λj a=>?_⟩ (by grind)
   rcases Er.mp a with a|a;·omega
   grind
  ·obtain⟨f',f,_,r⟩:=st.e6 0 e;rw[B] at f;cases f;refine Wu D g ⟨_,r⟩ st.gI st.g1 st.g2 st.g3 st.m1 st.m2 st.m3 (y1 i t) (y2 i t) (y3 i t) λm gz M L J gt N kp=>q _ m ⟨by rw[AB,st.sz],kp _ _ D.sB D.ux D.uw D.DM st.gI,⟨a1,a2,a3,kp _ _ D.iS D.mB D.kM D.su I⟩,M,L,J,
    st.m1.at λo e=>kp _ o D.jv D.wE D.wC D.L1 e,st.m2.at λo e=>kp _ o D.kq D.kg D.wF D.LY e,st.m3.at λo e=>kp _ o D.uO D.uA D.uE D.L5 e,(by grind),λj a=>?_⟩ (by grind)
   rcases Er.mp a with a|a
   ·obtain⟨T,gj,lT,gT⟩:=st.e6 j a;exact⟨T,S9 gj,lT,(by grind)⟩
   grind
 done:=λd s Q E st q=>by
  obtain⟨a1,a2,a3,I⟩:=st.gO;have nz:∀{c:aa},S<c->c≠z:=by grind
  have V:∀{c:aa},S<c->c≠C:=by grind
  have U:∀{c:aa},S<c->c≠y:=by grind
  have R:∀{c:aa},S<c->c≠v:=by grind
  have O:∀{c:aa},S<c->c≠u:=by grind
  rcases st.zz with⟨e,g⟩|⟨e,T0,f1,g,B⟩
  ·refine GS hh D g st.gI I st.g1 st.g2 st.g3 st.m1 st.m2 st.m3 k λm kp=>q m (λj a=>?_) λb o H eb=>kp b o (λx=>H<|by simp[x]) (λx=>H<|by simp[x]) (λx=>H<|by simp[x]) (λx=>H<|by simp[x]) (λx=>H<|by simp[x]) eb;omega
  ·obtain⟨f',f,_,r⟩:=st.e6 0 e;rw[B] at f;cases f;refine Q3 hh D g ⟨_,r⟩ st.gI st.g1 st.g2 st.g3 st.m1 st.m2 st.m3 k λm kp=>q m (λj a=>?_)<|by grind
   obtain⟨T,gj,lT,gT⟩:=st.e6 j a;grind
 kj:=λd s Q E st q=>by
  rcases st.zz with⟨e,g⟩|⟨e,T0,f1,g,B⟩;·exact EU g q
  omega
open PySem.Spec L2
def nt(N H:Hp):Hp:=λb=>match N b with
 |some o=>some o
 |none=>H b
def vp(h:N b=some o):nt N H b=some o:=by unfold nt;rw[h]
def Bj(h:N b=none):nt N H b=H b:=by unfold nt;rw[h]
def SM(I:Inv X a d H s)(c:∀b o,N b=some o->s.heap.objs.size<=b/\eA X.prog X.w (nt N H) f b o)(e:H b=some o):N b=none:=by
 cases q:N b with
 |none=>rfl
 |some u=>exact cy (jA (I.a_.lt e) (c b u q).1)<|qf _
def Bg(I:Inv X a d H s)(c:∀b o,N b=some o->s.heap.objs.size<=b/\eA X.prog X.w (nt N H) f b o):aW H (nt N H):=λb o e=>by rw[Bj<|SM I c e];exact e
def LU(I:Inv X d j H s)(kp:∀b o,s.heap.get? b=some o->i.get? b=some o)(h:∀b o,N b=some o->s.heap.objs.size<=b/\eA X.prog X.w (nt N H) i b o):
 Inv X d j (nt N H) { s with heap:=i,toks:=t'}:=by
 have c:=Bg I h;refine I.un ⟨λb o e _ _ _=>kp b o e,λb o e _ _ _=>⟨o.slots,kp b o e⟩,λb o e n _=>?_,(by grind),λb k e=>c b _ e,λb o u e=>c b _ e,λb l e=>⟨#[],by rw[c b _ e];simp⟩⟩ λa o e=>?_
 ·have:N b=none:=by
   cases q:N b with
   |none=>rfl
   |some u=>exact cy (jA (cq e) (h b u q).1)<|qf _
  rw[Bj this];exact n
 ·cases q:N a with
  |some u=>rw[vp q] at e;grind
  |none=>rw[Bj q] at e;exact(I.a_ a o e).qY (λb u _ z=>kp b u z) (λb z=>c b _ z) λb k z=>c b _ z
noncomputable def rR(S:aa)(a:List aa)(g:Nat->List V):Hp:=λb=>if b=S then some (.aq<|a.map V.ref) else open Classical in if h:∃j:Nat,a[j]?=some b then some (.a9 (g (aaS h))) else none
def GW(S:aa)(a:List aa)(g:Nat->List V):rR S a g S=some (.aq<|a.map V.ref):=aM rfl
def Gy{S:aa}{j:Nat}(h:a[j]?=some T)(n:T≠S):∃m,a[m]?=some T/\rR S a g T=some (.a9 (g m)):=by
 have b:∃j:Nat,a[j]?=some T:=⟨j,h⟩
 refine⟨aaS b,Classical.choose_spec b,?_⟩;unfold rR;grind
def Fx(h:rR S a g b=some o):(b=S/\o=.aq (a.map V.ref))\/∃j,a[j]?=some b/\o=.a9 (g j):=by
 unfold rR at h;by_cases e:b=S;·grind
 ·rw[aL e] at h;by_cases c:∃j:Nat,a[j]?=some b;·grind
  grind
def Jr(g:b.size=n)(h:∀j,j<n->∃T,b[j]?=some (.ref T)):∃a:List aa,b=(a.map c7).toArray/\a.length=n:=by
 have c:∀(l:List af),(∀v∈l,∃T,v=.ref T)->∃a:List aa,l=a.map c7:=by
  intro l;induction l with
  |nil=>simp
  |cons v l d=>
   intro h;obtain⟨T,rfl⟩:=h v cc;obtain⟨a,e⟩:=d<|by grind
   exact⟨T::a,by grind⟩
 obtain⟨a,e⟩:=c b.toList λv f=>by obtain⟨j,i,k⟩:=Eu.mp f;grind
 refine⟨a,by grind,?_⟩;have:=c9 u6 e;grind
def Br:∀a:List aa,bF (a.map V.ref) (a.map c7)
 |[]=>.nil
 |T::a=>.cons rfl<|Br a
def XQ(b:Hp)(g f:List V)(S:aa)(c:Hp):Prop:=aW b c/\b S=none/\∃a:List V,c S=some (.aq a)/\a.length=min g.length f.length/\
 ∀(j:Nat)(e d:V),g[j]?=some e->f[j]?=some d->∃T,a[j]?=some (.ref T)/\b T=none/\c T=some (.a9 [e,d])
def Y_(K:ax)(t:TA):TE:=λg H Q=>t g H λh a=>∃e d c b,h=[.ref e,.ref d]/\bi K a e c/\bi K a d b/\∀S f,XQ a c b S f->Q (.ref S) f
def Wj(r':Gl X "list")(p':X.mg "list"=none)(q':Gl X "zip")(o':X.mg "zip"=none)(hc:X.cX=true)(ha:PA X [e1,M] t)(hs:aB [e1,M] X.ae=(false,aO e1 X.ae)::aB [M] X.ae:=by rfl)(n':(eK i<|aB [M] X.ae).any (·.1)=false:=by rfl)(f':aB [.Call (.Name "zip" p2) [e1,M] [] i] X.ae=(false,aO (.Call (.Name "zip" p2) [e1,M] [] i) X.ae)::aB [] X.ae:=by rfl):
 PE X (.Call (.Name "list" p) [.Call (.Name "zip" p2) [e1,M] [] i] [] G') (Y_ X.K t):=by
 intro c' s σ H Q I h;refine o7<|lu I r' p' Ep<|nL ?_ f' rfl;rw[f'];refine uU ?_;refine o7<|lu I q' o' BE<|nL (bH (ha i c' s σ H _ I h) λus l⟨vs,H1,z,r1,q1⟩=>?_) hs n';obtain⟨a1,a2,J,E,ex,q1,q2,q⟩:=q1;subst ex;obtain⟨u1,u2,rfl,r1,r2⟩:∃u1 u2,us=[u1,u2]/\bM (.ref a1) u1/\bM (.ref a2) u2:=by
  cases r1 with
  |cons r1 rr=>
   cases rr with
   |cons r2 rr=>cases rr;grind
 cases r1;cases r2;obtain⟨d,b',u,D'⟩:=z.list q1;have m':a1<l.heap.objs.size:=u.lt;have A':=b'.length;obtain⟨a,a',r,C'⟩:=z.list q2;have H':a2<l.heap.objs.size:=r.lt;have z':=a'.length;refine call_zip_2 u.isList r.isList λL gz gI gO g1 g2 I' d'=>xf ?_;have D:oR (l.heap.objs.size+4) (l.heap.objs.size+2) (l.heap.objs.size+3) l.heap.objs.size (l.heap.objs.size+1) a1 a2:=by constructor<;>first|exact(by grind)|exact(by grind)|exact(by grind)|exact(by grind)|exact(by grind)|exact fg m'|exact(by grind)|grind
 have W:=Wd (prog:=X.prog) (w:=X.w) (A:=X.A.in1.in1) (S:=L.objs.size) (xs1:=d.toArray) (X1:=(λj=>d.getD j .none)) (xs2:=a.toArray) (X2:=(λj=>a.getD j .none)) (n:=min d.length a.length) (z.ok.hd hc) D (by grind) (by grind) (by grind) (by grind) (by grind) (by grind) (by grind)
  (λj hj=>by grind) (by grind) (by grind)
 refine HQ W (by omega) (λj' s' st=>?_) (by grind) ⟨rfl,gI,⟨_,_,gO⟩,g1,g2,u.isList.at λo e=>d' _ o e,r.isList.at λo e=>d' _ o e,.inl ⟨rfl,gz⟩,(by omega)⟩ λh' j' c f O gS kp=>?_
 ·rcases st.zz with⟨_,g⟩|⟨e,_⟩;·exact⟨_,g,rfl⟩
  omega
 have e':∀b o,l.heap.get? b=some o->h'.get? b=some o:=λb o e=>by have lb:=cq e;grind
 have lS:l.heap.objs.size<=L.objs.size:=by omega
 obtain⟨k,eT,lT⟩:∃k:List aa,j'=(k.map c7).toArray/\k.length=min d.length a.length:=Jr O<|by grind
 have fT:∀(j:Nat)(T:aa),k[j]?=some T->L.objs.size<T/\h'.get? T=some { cls:=.type "tuple",data:=.seq #[d.getD j .none,a.getD j .none]}:=by grind
 have v:∀(j:Nat),j<min d.length a.length->∃C B,J[j]?=some C/\bM C (d.getD j .none)/\E[j]?=some B/\bM B (a.getD j .none):=λj hj=>by
  have h1:j<J.length:=by omega
  obtain⟨w1,y,Z⟩:=b'.get<|d9 h1;have K':d.getD j .none=w1:=by grind
  have h2:j<E.length:=by omega
  obtain⟨w2,x,Y⟩:=a'.get<|d9 h2;have J':a.getD j .none=w2:=by grind
  exact⟨_,_,d9 h1,by grind,d9 h2,by grind⟩
 let N:Hp:=rR L.objs.size k λj=>[J.getD j .aS,E.getD j .aS]
 have hN:∀b o,N b=some o->l.heap.objs.size<=b/\eA X.prog X.w (nt N H1) h' b o:=λb o e=>by
  rcases Fx e with⟨rfl,rfl⟩|⟨j,gj,rfl⟩
  ·refine⟨lS,by grind,k.map c7,c,Br k,?_⟩;grind
  ·obtain⟨l1,t1⟩:=fT j b gj;have hj:j<min d.length a.length:=by grind
   obtain⟨C,B,i',l',g',k'⟩:=v j hj;have x':J.getD j .aS=C:=by grind
   have w':E.getD j .aS=B:=by grind
   refine⟨(by omega),by show 2<=bx;decide,[d.getD j .none,a.getD j .none],?_,⟨_,t1,rfl,_,rfl⟩⟩;rw[x'];rw[w'];exact .cons l'<|.cons k'<|.nil
 have I2:=LU (t':=l.toks) z e' hN;refine⟨.ref L.objs.size,_,I2,rfl,q _ _ ⟨Bg z hN,z.a_.fresh lS,k.map V.ref,?_,by grind,λj C B i' g'=>?_⟩⟩;·exact vp<|GW _ _ _
 ·have hj:j<k.length:=by grind
  have gj:k[j]?=some k[j]:=d9 hj;obtain⟨l1,t1⟩:=fT j _ gj;refine⟨k[j],by grind,z.a_.fresh (by omega),?_⟩;obtain⟨m,gm,em⟩:=Gy (S:=L.objs.size) (g:=λj=>[J.getD j .aS,E.getD j .aS]) gj<|o4 l1;refine vp<|em.trans ?_;obtain⟨_,t2⟩:=fT m _ gm;rw[t1] at t2;have hm:m<min d.length a.length:=by grind
  obtain⟨y1,y2,v',U,u',R⟩:=v m hm;obtain⟨w1,w2,y,Z,x,Y⟩:=v j<|by omega
  have eo:=acw<|ta t2;have ed:=abH eo.2.2.1;have el:=c9 acm ed.1;rw[i'] at y;cases y;rw[g'] at x;cases x;have z1:d.getD j .none=d.getD m .none:=(n0 el).1;have z2:a.getD j .none=a.getD m .none:=by grind
  have f1:J.getD m .aS=C:=by rw[iV,v'];rw[<-z1] at U;exact U.inj Z
  have f2:E.getD m .aS=B:=by rw[iV,u'];rw[<-z2] at R;exact R.inj Y
  grind
def XE(b:Hp)(i h g:List V)(S:aa)(c:Hp):Prop:=aW b c/\b S=none/\∃a:List V,c S=some (.aq a)/\a.length=min i.length (min h.length g.length)/\
 ∀(j:Nat)(f e d:V),i[j]?=some f->h[j]?=some e->g[j]?=some d->∃T,a[j]?=some (.ref T)/\b T=none/\c T=some (.a9 [f,e,d])
def YD(K:ax)(t:TA):TE:=λi H Q=>t i H λj a=>∃g f e d c b,j=[.ref g,.ref f,.ref e]/\bi K a g d/\bi K a f c/\bi K a e b/\∀S h,XE a d c b S h->Q (.ref S) h
def VX(D':Gl X "list")(B':X.mg "list"=none)(C':Gl X "zip")(A':X.mg "zip"=none)(hc:X.cX=true)(ha:PA X [e1,e2,e3] t)(hs:aB [e1,e2,e3] X.ae=(false,aO e1 X.ae)::aB [e2,e3] X.ae:=by rfl)(z':(eK k<|aB [e2,e3] X.ae).any (·.1)=false:=by rfl)(n':aB [.Call (.Name "zip" p2) [e1,e2,e3] [] k] X.ae=(false,aO (.Call (.Name "zip" p2) [e1,e2,e3] [] k) X.ae)::aB [] X.ae:=by rfl):
 PE X (.Call (.Name "list" p) [.Call (.Name "zip" p2) [e1,e2,e3] [] k] [] V') (YD X.K t):=by
 intro l' s σ H Q I h;refine o7<|lu I D' B' Ep<|nL ?_ n' rfl;rw[n'];refine uU ?_;refine o7<|lu I C' A' BE<|nL (bH (ha k l' s σ H _ I h) λus l⟨vs,H1,u,r1,q1⟩=>?_) hs z';obtain⟨a1,a2,a3,Y,U,R,ex,q1,q2,q3,q⟩:=q1;subst ex;obtain⟨u1,u2,u3,rfl,r1,r2,r3⟩:∃u1 u2 u3,us=[u1,u2,u3]/\bM (.ref a1) u1/\bM (.ref a2) u2/\bM (.ref a3) u3:=by
  cases r1 with
  |cons r1 rr=>
   cases rr with
   |cons r2 rr=>
    cases rr with
    |cons r3 rr=>cases rr;grind
 cases r1;cases r2;cases r3;obtain⟨i,k',y,R'⟩:=u.list q1;have y':a1<l.heap.objs.size:=y.lt;have N':=k'.length;obtain⟨d,j',x,Q'⟩:=u.list q2;have x':a2<l.heap.objs.size:=x.lt;have M':=j'.length;obtain⟨a,i',v,P'⟩:=u.list q3;have W':a3<l.heap.objs.size:=v.lt;have L':=i'.length;refine GI y.isList x.isList v.isList λZ gz gI gO g1 g2 g3 X' z=>xf ?_;have D:mJ (l.heap.objs.size+5) (l.heap.objs.size+3) (l.heap.objs.size+4) l.heap.objs.size (l.heap.objs.size+1) (l.heap.objs.size+2) a1 a2 a3:=by constructor<;>first|exact(by grind)|exact(by grind)|exact(by grind)|exact(by grind)|exact(by grind)|exact fg y'|exact(by grind)|exact fg x'|exact(by grind)|grind
 have W:=WK (prog:=X.prog) (w:=X.w) (A:=X.A.in1.in1) (S:=Z.objs.size) (xs1:=i.toArray) (X1:=(λj=>i.getD j .none)) (xs2:=d.toArray) (X2:=(λj=>d.getD j .none)) (xs3:=a.toArray) (X3:=(λj=>a.getD j .none)) (n:=min i.length<|min d.length a.length) (u.ok.hd hc) D (by grind) (by grind) (by grind) (by grind) (by grind) (by grind) (by grind) (by grind) (by grind)
  (λj hj=>by grind) (by grind) (by grind) (by grind)
 refine HQ W (by omega) (λr' s' st=>?_) (by grind) ⟨rfl,gI,⟨_,_,_,gO⟩,g1,g2,g3,y.isList.at λo e=>z _ o e,x.isList.at λo e=>z _ o e,v.isList.at λo e=>z _ o e,.inl ⟨rfl,gz⟩,(by omega)⟩ λh' r' c f a' gS kp=>?_
 ·rcases st.zz with⟨_,g⟩|⟨e,_⟩;·exact⟨_,g,rfl⟩
  omega
 have m':∀b o,l.heap.get? b=some o->h'.get? b=some o:=λb o e=>by have lb:=cq e;grind
 have lS:l.heap.objs.size<=Z.objs.size:=by omega
 obtain⟨r,eT,lT⟩:∃r:List aa,r'=(r.map c7).toArray/\r.length=min i.length (min d.length a.length):=Jr a'<|by grind
 have fT:∀(j:Nat)(T:aa),r[j]?=some T->Z.objs.size<T/\h'.get? T=some { cls:=.type "tuple",data:=.seq #[i.getD j .none,d.getD j .none,a.getD j .none]}:=by grind
 have B:∀(j:Nat),j<min i.length (min d.length a.length)->∃O M L,Y[j]?=some O/\bM O (i.getD j .none)/\U[j]?=some M/\bM M (d.getD j .none)/\R[j]?=some L/\bM L (a.getD j .none):=λj hj=>by
  have h1:j<Y.length:=by omega
  obtain⟨w1,J,g'⟩:=k'.get<|d9 h1;have ew1:i.getD j .none=w1:=by grind
  have h2:j<U.length:=by omega
  obtain⟨w2,E,f'⟩:=j'.get<|d9 h2;have Z':d.getD j .none=w2:=by grind
  have h3:j<R.length:=by omega
  obtain⟨w3,C,e'⟩:=i'.get<|d9 h3;have Y':a.getD j .none=w3:=by grind
  exact⟨_,_,_,d9 h1,by grind,d9 h2,by grind,d9 h3,by grind⟩
 let N:Hp:=rR Z.objs.size r λj=>[Y.getD j .aS,U.getD j .aS,R.getD j .aS]
 have hN:∀b o,N b=some o->l.heap.objs.size<=b/\eA X.prog X.w (nt N H1) h' b o:=λb o e=>by
  rcases Fx e with⟨rfl,rfl⟩|⟨j,gj,rfl⟩
  ·refine⟨lS,by grind,r.map c7,c,Br r,?_⟩;grind
  ·obtain⟨l1,t1⟩:=fT j b gj;have hj:j<min i.length (min d.length a.length):=by grind
   obtain⟨O,M,L,q',w',p',v',o',u'⟩:=B j hj;have J':Y.getD j .aS=O:=by grind
   have I':U.getD j .aS=M:=by grind
   have H':R.getD j .aS=L:=by grind
   refine⟨(by omega),by show 3<=bx;decide,[i.getD j .none,d.getD j .none,a.getD j .none],?_,⟨_,t1,rfl,_,rfl⟩⟩;rw[J'];rw[I'];rw[H'];exact .cons w'<|.cons v'<|.cons u'<|.nil
 have I2:=LU (t':=l.toks) u m' hN;refine⟨.ref Z.objs.size,_,I2,rfl,q _ _ ⟨Bg u hN,u.a_.fresh lS,r.map V.ref,?_,by grind,λj O M L q' p' o'=>?_⟩⟩;·exact vp<|GW _ _ _
 ·have hj:j<r.length:=by grind
  have gj:r[j]?=some r[j]:=d9 hj;obtain⟨l1,t1⟩:=fT j _ gj;refine⟨r[j],by grind,u.a_.fresh (by omega),?_⟩;obtain⟨m,gm,em⟩:=Gy (S:=Z.objs.size) (g:=λj=>[Y.getD j .aS,U.getD j .aS,R.getD j .aS]) gj<|o4 l1;refine vp<|em.trans ?_;obtain⟨_,t2⟩:=fT m _ gm;rw[t1] at t2;have hm:m<min i.length (min d.length a.length):=by grind
  obtain⟨y1,y2,y3,G',d',F',c',E',b'⟩:=B m hm;obtain⟨w1,w2,w3,J,g',E,f',C,e'⟩:=B j<|by omega
  have eo:=acw<|ta t2;have ed:=abH eo.2.2.1;have el:=c9 acm ed.1;rw[q'] at J;cases J;rw[p'] at E;cases E;rw[o'] at C;cases C;have z1:i.getD j .none=i.getD m .none:=(n0 el).1;have z2:d.getD j .none=d.getD m .none:=by grind
  have z3:a.getD j .none=a.getD m .none:=by grind
  have f1:Y.getD m .aS=O:=by rw[iV,G'];rw[<-z1] at d';exact d'.inj g'
  have f2:U.getD m .aS=M:=by rw[iV,F'];rw[<-z2] at c';exact c'.inj f'
  have f3:R.getD m .aS=L:=by rw[iV,E'];rw[<-z3] at b';exact b'.inj e'
  grind
open Sy(Pt before)
def y4:∀{K:ax}{H:Hp}{a:List V}{b:List Dt},a.length=b.length->(∀(i:Nat)(v:V)(d:Dt),a[i]?=some v->b[i]?=some d->Dx K H v d)->bu K H a b
 |K,H,[],[],_,_=>.nil
 |K,H,v::a,d::b,c,h=>.cons (h 0 v d rfl rfl)<|y4 (by grind) λi x y f e=>h (i+1) x y (by grind)<|by grind
 |K,H,[],d::b,c,_=>by grind
 |K,H,v::a,[],c,_=>by grind
def wU(l m:List Dt):List Dt:=acz (λx y=>.a9 [x,y]) l m
def oP(l m n:List Dt):List Dt:=acz (λx(a:Dt×Dt)=>.a9 [x,a.1,a.2]) l<|m.zip n
def J8(x:DE X a z (.aq l))(w:DE X b z (.aq m))(s:X.mg "list"=none)(r:X.mg "zip"=none)(hc:X.cX=true)(u:Gl X "list":=by rfl)(t:Gl X "zip":=by rfl)(E:aB [a,b] X.ae=(false,aO a X.ae)::aB [b] X.ae:=by rfl)(h2:aB [b] X.ae=(false,aO b X.ae)::aB [] X.ae:=by rfl)(n:(eK c<|aB [b] X.ae).any (·.1)=false:=by rfl)(k:aB [.Call (.Name "zip" C) [a,b] [] c] X.ae=(false,aO (.Call (.Name "zip" C) [a,b] [] c) X.ae)::aB [] X.ae:=by rfl):
 DE X (.Call (.Name "list" p) [.Call (.Name "zip" C) [a,b] [] c] [] a') z (.aq<|wU l m):=
 PE.aN (Wj u s t r hc (ah x (ah w au h2) E) E n k) λσ H Q⟨F,M,q⟩=>kH M λxs N A h=>by
  cases h with
  |cons x h=>
   cases h with
   |cons w h=>
    cases h;cases x with
    |aq qa R=>
     cases w with
     |aq qb O=>
      refine⟨_,_,_,_,rfl,bi.of<|bm _ _ qa,bi.of<|bm _ _ qb,λS y⟨j,nS,B,gS,lr,Z⟩=>q _ y (A.trans j) ?_⟩;have f:=jj M.tr A;have hF:∀{b:aa},N b=none->F b=false:=λh=>jJ f h;have D:∀{b:aa}{o:HO},N b=none->y b=some o->aI F y b=some o:=λh g=>by unfold aI;grind
      refine .aq (D nS gS)<|y4 ?_ λi v d gv e=>?_;·rw[lr,R.length,O.length];unfold wU;grind
      ·unfold wU at e;rw[aaQ] at e;cases L:l[i]? with
       |none=>grind
       |some d1=>
        cases J:m[i]? with
        |none=>grind
        |some d2=>rw[L,J] at e;cases e;obtain⟨Y,g1,t1⟩:=R.get L;obtain⟨U,g2,t2⟩:=O.get J;obtain⟨T,I,nT,hT⟩:=Z i Y U g1 g2;rw[gv] at I;cases I;exact .a9 (cV.of<|D nT hT)<|.cons (t1.same<|ca j)<|.cons (t2.same<|ca j) .nil
def WN(C:DE X a k (.aq l))(B:DE X b k (.aq m))(z:DE X c k (.aq n))(w:X.mg "list"=none)(u:X.mg "zip"=none)(A:X.cX=true)(y:Gl X "list":=by rfl)(x:Gl X "zip":=by rfl)(M:aB [a,b,c] X.ae=(false,aO a X.ae)::aB [b,c] X.ae:=by rfl)(h2:aB [b,c] X.ae=(false,aO b X.ae)::aB [c] X.ae:=by rfl)(h3:aB [c] X.ae=(false,aO c X.ae)::aB [] X.ae:=by rfl)(t:(eK e<|aB [b,c] X.ae).any (·.1)=false:=by rfl)(s:aB [.Call (.Name "zip" J) [a,b,c] [] e] X.ae=(false,aO (.Call (.Name "zip" J) [a,b,c] [] e) X.ae)::aB [] X.ae:=by rfl):
 DE X (.Call (.Name "list" p) [.Call (.Name "zip" J) [a,b,c] [] e] [] a') k (.aq<|oP l m n):=
 PE.aN (VX y w x u A (ah C (ah B (ah z au h3) h2) M) M t s) λσ H Q⟨F,R,q⟩=>kH R λxs U E h=>by
  cases h with
  |cons C h=>
   cases h with
   |cons B h=>
    cases h with
    |cons A h=>
     cases h;cases C with
     |aq qa A1=>
      cases B with
      |aq qb Z=>
       cases A with
       |aq qc Y=>
        refine⟨_,_,_,_,_,_,rfl,bi.of<|bm _ _ qa,bi.of<|bm _ _ qb,bi.of<|bm _ _ qc,λS D⟨f,nS,I,gS,lr,tu⟩=>q _ D (E.trans f) ?_⟩;have r:=jj R.tr E;have hF:∀{b:aa},U b=none->F b=false:=λh=>jJ r h;have L:∀{b:aa}{o:HO},U b=none->D b=some o->aI F D b=some o:=λh g=>by unfold aI;grind
        refine .aq (L nS gS)<|y4 ?_ λi v d gv j=>?_;·rw[lr,A1.length,Z.length,Y.length];unfold oP;grind
        ·unfold oP at j;rw[aaQ] at j;cases O:l[i]? with
         |none=>grind
         |some d1=>
          cases e2:m[i]? with
          |none=>grind
          |some d2=>
           cases e3:n[i]? with
           |none=>grind
           |some d3=>
            have:(m.zip n)[i]?=some (d2,d3):=by grind
            rw[O,this] at j;cases j;obtain⟨x1,g1,t1⟩:=A1.get O;obtain⟨x2,g2,t2⟩:=Z.get e2;obtain⟨x3,g3,t3⟩:=Y.get e3;obtain⟨T,N,nT,hT⟩:=tu i x1 x2 x3 g1 g2 g3;rw[gv] at N;cases N;exact .a9 (cV.of<|L nT hT)<|.cons (t1.same<|ca f)<|.cons (t2.same<|ca f)<|.cons (t3.same<|ca f) .nil
def hE(h:bu a H b [d]):∃v,b=[v]/\Dx a H v d:=by
 cases h with
 |cons h r=>cases r;grind
def vH(h:bu a H b [d,e]):∃v u,b=[v,u]/\Dx a H v d/\Dx a H u e:=by
 cases h with
 |cons h r=>
  cases r with
  |cons c r=>cases r;grind
def eH(i:DE X a c (.aq l))(f:X.mg "len"=none)(g:Gl X "len":=by rfl)(b:aB [a] X.ae=(false,aO a X.ae)::aB [] X.ae:=by rfl):DE X (.Call (.Name "len" p) [a] [] d) c (.int l.length):=
 jI xJ (ah i au b) (λF j H Q m h k=>by
  obtain⟨v,rfl,e⟩:=hE h;cases e with
  |aq q A=>exact⟨_,_,rfl,.inl<|bi.of<|bm _ _ q,by rw[A.length];exact k _ H (aW.refl H)<|.int _⟩) f abP g (by decide) (by decide) b rfl
def UV(i:DE X a c (.ip l))(f:X.mg "len"=none)(g:Gl X "len":=by rfl)(b:aB [a] X.ae=(false,aO a X.ae)::aB [] X.ae:=by rfl):DE X (.Call (.Name "len" p) [a] [] d) c (.int l.length):=
 jI xJ (ah i au b) (λF j H Q m h k=>by
  obtain⟨v,rfl,e⟩:=hE h;cases e with
  |ip q=>exact⟨_,_,rfl,.inl<|bm.seq q,by rw[bS];exact k _ H (aW.refl H)<|.int _⟩) f abP g (by decide) (by decide) b rfl
def Xd{l:List Int}(j:DE X a c (.aq<|l.map .int))(f:X.mg "sum"=none)(i:X.cX=true)(g:Gl X "sum":=by rfl)(b:aB [a] X.ae=(false,aO a X.ae)::aB [] X.ae:=by rfl):DE X (.Call (.Name "sum" p) [a] [] d) c (.int l.sum):=
 jI (Ww i) (ah j au b) (λF m H Q n h k=>by
  obtain⟨v,rfl,e⟩:=hE h;cases e with
  |aq q A=>exact⟨_,l,rfl,by rw[<-A.ints];exact bi.of<|bm _ _ q,k _ H (aW.refl H)<|.int _⟩) f PyProof.Rows.boot_sum g (by decide) (by decide) b rfl
def v7{l:List Bool}(j:DE X a c (.aq<|l.map .bl))(f:X.mg "all"=none)(i:X.cX=true)(g:Gl X "all":=by rfl)(b:aB [a] X.ae=(false,aO a X.ae)::aB [] X.ae:=by rfl):DE X (.Call (.Name "all" p) [a] [] d) c (.bl<|l.all id):=
 jI (Wv i) (ah j au b) (λF m H Q n h k=>by
  obtain⟨v,rfl,e⟩:=hE h;cases e with
  |aq q A=>exact⟨_,l,rfl,by rw[<-A.sv];exact bi.of<|bm _ _ q,k _ H (aW.refl H)<|.bl _⟩) f (by decide) g (by decide) (by decide) b rfl
def y9{l:List Bool}(j:DE X a c (.aq<|l.map .bl))(f:X.mg "any"=none)(i:X.cX=true)(g:Gl X "any":=by rfl)(b:aB [a] X.ae=(false,aO a X.ae)::aB [] X.ae:=by rfl):DE X (.Call (.Name "any" p) [a] [] d) c (.bl<|l.any id):=
 jI (W8 i) (ah j au b) (λF m H Q n h k=>by
  obtain⟨v,rfl,e⟩:=hE h;cases e with
  |aq q A=>exact⟨_,l,rfl,by rw[<-A.sv];exact bi.of<|bm _ _ q,k _ H (aW.refl H)<|.bl _⟩) f (by decide) g (by decide) (by decide) b rfl
def IL(t:DE X a g (.int i))(s:DE X b g (.int j))(o:X.mg "min"=none)(r:X.cX=true)(q:Gl X "min":=by rfl)(l:aB [a,b] X.ae=(false,aO a X.ae)::aB [b] X.ae:=by rfl)(f:aB [b] X.ae=(false,aO b X.ae)::aB [] X.ae:=by rfl)(d:(eK c<|aB [b] X.ae).any (·.1)=false:=by rfl):DE X (.Call (.Name "min" p) [a,b] [] c) g (.int<|min i j):=
 jI (QR r) (ah t (ah s au f) l) (λF w H Q x h k=>by
  obtain⟨v,u,rfl,m,n⟩:=vH h;cases m;cases n;have e:(if j<i then j else i)=min i j:=by omega
  exact⟨i,j,rfl,by rw[e];exact k _ H (aW.refl H)<|.int _⟩) o MF q (by decide) (by decide) l d
def CP(t:DE X a g (.int i))(s:DE X b g (.int j))(o:X.mg "max"=none)(r:X.cX=true)(q:Gl X "max":=by rfl)(l:aB [a,b] X.ae=(false,aO a X.ae)::aB [b] X.ae:=by rfl)(f:aB [b] X.ae=(false,aO b X.ae)::aB [] X.ae:=by rfl)(d:(eK c<|aB [b] X.ae).any (·.1)=false:=by rfl):DE X (.Call (.Name "max" p) [a,b] [] c) g (.int<|max i j):=
 jI (Ro r) (ah t (ah s au f) l) (λF w H Q x h k=>by
  obtain⟨v,u,rfl,m,n⟩:=vH h;cases m;cases n;have e:(if j > i then j else i)=max i j:=by omega
  exact⟨i,j,rfl,by rw[e];exact k _ H (aW.refl H)<|.int _⟩) o Z7 q (by decide) (by decide) l d
def Jm(f:Dx d H (.ref a) (dP p))(e:Dx d H (.ref b) (dP q))(c:Bool):Dx d H (.ref<|if c=true then b else a) (dP<|if c=true then q else p):=by grind
def B9(t:DE X a f (dP u))(s:DE X b f (dP v))(o:X.mg "min"=none)(r:X.cX=true)(n:X.A.units+1<cH)(q:Gl X "min":=by rfl)(j:aB [a,b] X.ae=(false,aO a X.ae)::aB [b] X.ae:=by rfl)(e:aB [b] X.ae=(false,aO b X.ae)::aB [] X.ae:=by rfl)(d:(eK c<|aB [b] X.ae).any (·.1)=false:=by rfl):DE X (.Call (.Name "min" p) [a,b] [] c) f (dP<|if aY v u=true then v else u):=jI (S1 r n) (ah t (ah s au e) j) (λF w H Q z h k=>by obtain⟨x,y,rfl,i,g⟩:=vH h;obtain⟨a,rfl,m⟩:=ig i;obtain⟨b,rfl,l⟩:=ig g;exact⟨a,b,u,v,rfl,et bm m,et bm l,k _ H (aW.refl H)<|Jm i g _⟩) o MF q (by decide) (by decide) j d
def B7(t:DE X a f (dP u))(s:DE X b f (dP v))(o:X.mg "max"=none)(r:X.cX=true)(n:X.A.units+1<cH)(q:Gl X "max":=by rfl)(j:aB [a,b] X.ae=(false,aO a X.ae)::aB [b] X.ae:=by rfl)(e:aB [b] X.ae=(false,aO b X.ae)::aB [] X.ae:=by rfl)(d:(eK c<|aB [b] X.ae).any (·.1)=false:=by rfl):DE X (.Call (.Name "max" p) [a,b] [] c) f (dP<|if aY u v=true then v else u):=jI (RF r n) (ah t (ah s au e) j) (λF w H Q z h k=>by obtain⟨x,y,rfl,i,g⟩:=vH h;obtain⟨a,rfl,m⟩:=ig i;obtain⟨b,rfl,l⟩:=ig g;exact⟨a,b,u,v,rfl,et bm m,et bm l,k _ H (aW.refl H)<|Jm i g _⟩) o Z7 q (by decide) (by decide) j d
def JI{e:List Pt}(x:DE X a l (.aq<|e.map dP))(b:m∈e)(lo:∀q∈e,aY q m=false)(s:X.mg "min"=none)(w:X.cX=true)(r:X.A.units+1<cH)(t:Gl X "min":=by rfl)(j:aB [a] X.ae=(false,aO a X.ae)::aB [] X.ae:=by rfl):DE X (.Call (.Name "min" p) [a] [] n) l (dP m):=
 jI (T3 w r) (ah x au j) (λF B H Q D h k=>by
  obtain⟨v,rfl,o⟩:=hE h;cases o with
  |aq q A=>
   refine⟨_,_,e,rfl,bm _ _ q,A.same bm,(by grind),λi g u E y f=>?_⟩;have:g=m:=Ld.Fm (by grind)<|f m b;subst this;obtain⟨C,c,z⟩:=A.get (i:=i) (d:=dP g)<|by grind
   rw[y] at c;cases c;exact k u H (aW.refl H) z) s MF t (by decide) (by decide) j rfl
def HK(m:DE X a d (.a9 l))(i:X.mg "list"=none)(j:Gl X "list":=by rfl)(c:aB [a] X.ae=(false,aO a X.ae)::aB [] X.ae:=by rfl):DE X (.Call (.Name "list" p) [a] [] f) d (.aq l):=
 Rw Ol (ah m au c) (λF n H Q e h k=>by
  obtain⟨v,rfl,g⟩:=hE h;cases g with
  |a9 q A=>refine⟨_,_,rfl,.inr<|et bm q,λl b=>?_⟩;exact k _ _ (gJ b)<|.aq (lh<|jJ e b)<|A.same<|ca<|gJ b) i Ep j (by decide) (by decide) c rfl
end L3
namespace L3
open PySem PySem.Spec PyProof.Rows L2
def qE(lo:Int)(n:Nat):List Dt:=(j4 n).map λi=>Dt.int<|lo+(i:Nat)
def PZ(h:(qE a n)[i]?=some d):i<n/\d=.int (a+(i:Nat)):=by unfold qE at h;grind
def LM:D2 b c (wV a n) k (qE a n):=λm l _ _=>⟨λi d e=>by obtain⟨f,rfl⟩:=PZ e;exact⟨f,λx j⟨h,g⟩=>by subst h g;exact⟨aW.refl _,.int _⟩⟩,by unfold qE;rw[bS,Nc];exact cs n⟩
def Qx(i:DE X a c (.int j))(f:X.mg "range"=none)(l:-(2^62)<=j)(k:j<2^62)(g:Gl X "range":=by rfl)(b:aB [a] X.ae=[(false,aO a X.ae)]:=by rfl):DI X t (.Call (.Name "range" p) [a] [] d) c (qE 0 j.toNat):=PI.aN (Rz g f (ah i au<|by rw[b];rfl) b) λo H R⟨F,m,q⟩=>kH m λr n s h=>by obtain⟨v,rfl,e⟩:=hE h;cases e;exact⟨j,rfl,l,k,q _ n s LM⟩
def QU(o:DE X a d (.int i))(n:DE X b d (.int j))(l:X.mg "range"=none)(r:-(2^62)<=i/\i<2^62/\ -(2^62)<=j/\j<2^62)(m:Gl X "range":=by rfl)(k:aB [a,b] X.ae=[(false,aO a X.ae),(false,aO b X.ae)]:=by rfl)(c:aB [b] X.ae=[(false,aO b X.ae)]:=by rfl):
 DI X z (.Call (.Name "range" p) [a,b] [] e) d (qE i (j-i).toNat):=
 PI.aN (Rp m l (ah o (ah n au<|by rw[c];rfl)<|by grind) k c) λx H R⟨F,t,q⟩=>kH t λy w s h=>by obtain⟨v,u,rfl,f,g⟩:=vH h;cases f;cases g;exact⟨i,j,rfl,r,q _ w s LM⟩
def wh(l:List Dt):List Dt:=l.zipIdx.map λx=>.a9 [.int (x.2:Nat),x.1]
def U7(D:DE X a s (.aq l))(B:X.mg "enumerate"=none)(C:Gl X "enumerate":=by rfl)(n:aB [a] X.ae=[(false,aO a X.ae)]:=by rfl):
 DI X (.Tuple r Q m) (.Call (.Name "enumerate" p) [a] [] u) s (wh l):=
 PI.aN (UQ C B (ah D au<|by rw[n];rfl) n) λM H R⟨F,I,q⟩=>kH I λN J t h=>by
  obtain⟨v,rfl,A⟩:=hE h;cases A with
  |aq c o=>
   have j:=bm _ _ c;refine⟨_,_,rfl,bi.of j,q _ J t λU S f b=>⟨λi d e=>?_,_,bi.of<|bm _ _<|b _ _ c,?_⟩⟩
   ·unfold wh at e;rw[hZ] at e;cases z:l.zipIdx[i]? with
    |none=>grind
    |some x=>
     rw[z] at e;cases e;rw[List.getElem?_zipIdx] at z;cases k:l[i]? with
     |none=>grind
     |some d=>
      rw[k] at z;cases z;obtain⟨w,hw,E⟩:=o.get k;refine⟨⟨_,w,bi.of<|bm _ _<|b _ _ c,hw⟩,λx L y=>?_⟩;obtain⟨T,O,rfl,g,rfl,y⟩:=y;have:=y _<|bi.of<|bm _ _<|b _ _ c;rw[hw] at this;cases this;refine⟨gJ g,.a9 (cV.of<|lh<|jJ f g)<|.cons ?_<|.cons ?_ .nil⟩
      ·have:((0+i:Nat):Int)=((i:Nat):Int):=by omega
       show Dx _ _ (.int (i:Nat)) (.int ((0+i:Nat):Int));rw[this];exact .int _
      ·exact(E.same b).same<|ca<|gJ g
   ·unfold wh;rw[bS,abf,o.length];omega
def fO:aG->aG->Prop
 |[],[]=>True
 |none::a,_::b=>fO a b
 |some d::a,x::b=>x=some d/\fO a b
 |_,_=>False
def fO.aX:∀{a b:aG},fO a b->a.length=b.length
 |[],[],_=>rfl
 |none::a,_::b,h=>by rw[dI,dI,fO.aX (a:=a) (b:=b) h]
 |some d::a,x::b,h=>by rw[dI,dI,fO.aX h.2]
 |[],_::_,h=>h.elim
 |none::_,[],h=>h.elim
 |some _::_,[],h=>h.elim
def fO.get:∀{a b:aG},fO a b->∀(i:Nat)(d:Dt),a[i]?=some (some d)->b[i]?=some (some d)
 |[],[],_,i,d,e=>by simp at e
 |none::a,x::b,h,0,d,e=>by simp at e
 |none::a,x::b,h,i+1,d,e=>by
  have:=fO.get (a:=a) (b:=b) h i d<|by grind
  grind
 |some y::a,x::b,h,0,d,e=>by
  have c:some y=some d:=by grind
  have:=h.1;grind
 |some y::a,x::b,h,i+1,d,e=>by
  have:=fO.get h.2 i d<|by grind
  grind
 |[],_::_,h,_,_,_=>h.elim
 |none::_,[],h,_,_,_=>h.elim
 |some _::_,[],h,_,_,_=>h.elim
def fO.refl:∀a:aG,fO a a
 |[]=>trivial
 |none::a=>fO.refl a
 |some d::a=>⟨rfl,fO.refl a⟩
def Cd.le(c:Cd a b H g f)(l:fO h f):Cd a b H g h:=⟨c.tr,by rw[l.aX];exact c.aX,λi d e=>c.kO i d<|l.get i d e⟩
def bU(h:DE X e a d)(q:d=d'):DE X e a d':=by grind
def cW(h:DT X e a d)(q:d=d'):DT X e a d':=by grind
def K_(h:e7 X a f (.nx d))(l:fO c d):e7 X a f (.nx c):=dr.aN h λD j H⟨F,g,q⟩=>⟨F,g,λb i s e=>q b i s<|e.le l⟩
def eS(e:DT X c b k)(h:k=true->e7 X A b (.rt d))(g:k=false->e7 X a b (.rt d)):e7 X (.If c A [] f::a) b (.rt d):=by
 cases k with
 |true=>exact bb<|md e<|h rfl
 |false=>exact dQ (kI e jK)<|g rfl
def wt(e:DT X c d k)(h:k=true->DE X a d d1)(g:k=false->DE X b d d2):DE X (.IfExp c a b f) d (if k=true then d1 else d2):=by
 cases k with
 |true=>exact Xe e<|h rfl
 |false=>exact WL e<|g rfl
def L_(b:aG)(r:Option Dt):eh->Prop
 |.rt v=>r=some v
 |.nx a=>r=none/\fO b a
def DD(X:Cx)(a:List cv)(c b:aG)(r:Option Dt):Prop:=∃o,e7 X a b o/\L_ c r o
def GZ(f:Dt->Option Dt)(m:DI X l b c e)(t:PG X l g)(j:oN X.K g B)(y:∀d∈e,∃a,B d c=some a/\DD X body c a (f d))(s:o5 (aH X.prog X.w) X.A X.ae X.xe)(u:X.cX=true)(r:∀x,kU b X.ae x=pure x:=by intro _;rfl):
 DS X (.For l b body [] pos) c (match e.findSome? f with|some v=>.rt v|none=>.nx c):=by
 refine Li m t j ?_ s u r;clear m;induction e with
 |nil=>exact .nil
 |cons d e z=>
  obtain⟨a,n,o,h,k⟩:=y d cc;rw[List.findSome?_cons];cases o with
  |rt v=>have k:f d=some v:=k;rw[k];exact .ret ⟨a,n,h⟩
  |nx i=>obtain⟨q,p⟩:f d=none/\fO c i:=k;rw[q];exact .next ⟨a,n,K_ h p⟩<|by grind
def PX(f:Dt->Option Dt)(p:DI X m c j k)(r:PG X m g)(l:oN X.K g B)(t:∀d∈k,∃e,B d j=some e/\DD X b j e (f d))(y:∀v,k.findSome? f=some v->v=d)(u:k.findSome? f=none->e7 X a j (.rt d))(o:o5 (aH X.prog X.w) X.A X.ae X.xe)(s:X.cX=true)(n:∀x,kU c X.ae x=pure x:=by intro _;rfl):
 e7 X (.For m c b [] i::a) j (.rt d):=by
 have h:=GZ (body:=b) (pos:=i) f p r l t o s n;cases q:k.findSome? f with
 |some v=>rw[q] at h;rw[<-y v q];exact bb h
 |none=>rw[q] at h;exact dQ h<|u q
def pb(h:DS X a c o):e7 X [a] c o:=by
 cases o with
 |nx b=>exact dQ h jK
 |rt d=>exact bb h
def BR(h:e7 X a c o)(k:L_ b r o):DD X a b c r:=⟨o,h,k⟩
inductive Mo where
 |pT (o:HO)
 |ob (d:Dt)
abbrev Mh:=aa->Option Mo
def aE(M:Mh):aa->Bool:=λb=>(M b).isSome
inductive Ob(K:ax)(H:Hp)(b:aa):HO->Mo->Prop
 |pT (o:HO):Ob K H b o (.pT o)
 |aq {xs:List V} {ds:List Dt}:bu K H xs ds->Ob K H b (.aq xs) (.ob (.aq ds))
 |cE {kvs:List (bg×V)} {ds:List (Int×Dt)}:di K H kvs ds->Ob K H b (.dK kvs) (.ob (.cE ds))
 |bA {C dx:aa} {fs:List (ak×V)} {ds:List (ak×Dt)}:gV K H fs ds->Ob K H b (.bA C dx fs) (.ob (.bA C ds))
 |ext {f:aa->HO} {xs:List V} {ds:List Dt}:bu K H xs ds->Ob K H b (f b) (.ob (.ext f xs ds))
def Ob.same(e:aW H d)(h:Ob c H b o m):Ob c d b o m:=by
 cases h with
 |pT=>exact .pT _
 |aq a=>exact .aq<|a.same e
 |cE a=>exact .cE<|a.same e
 |bA a=>exact .bA<|a.same e
 |ext a=>exact .ext<|a.same e
def Mm(K:ax)(M:Mh)(H:Hp):Prop:=∀b m,M b=some m->∃o,H b=some o/\Ob K (aI (aE M) H) b o m
structure Cm(K:ax)(M:Mh)(H:Hp)(σ:L2.St)(ρ:aG):Prop where
 mm:Mm K M H
 cd:Cd K (aE M) H σ ρ
def Mm.tr(h:Mm a M H):∀b,aE M b=true->(H b).isSome=true:=λb q=>by
 unfold aE at q;cases e:M b with
 |none=>grind
 |some m=>obtain⟨o,c,_⟩:=h b m e;grind
def Mm.same(h:Mm a M H)(s:aW H d):Mm a M d:=λb m e=>by obtain⟨o,c,r⟩:=h b m e;exact⟨o,s _ _ c,r.same<|ca s⟩
def Cm.same(h:Cm a M H b c)(s:aW H d):Cm a M d b c:=⟨h.mm.same s,h.cd.same s⟩
def Cd.to(c:Cd a (aE M) H g h)(m:Mm a b f)(s:aW (aI (aE M) H) (aI (aE b) f)):Cd a (aE b) f g h:=⟨m.tr,c.aX,λi d e=>let⟨v,k,j⟩:=c.kO i d e;⟨v,k,j.same s⟩⟩
def bo(M:Mh)(p:aa)(m:Mo):Mh:=λb=>if b=p then some m else M b
def lH(M:Mh)(p:aa):Mh:=λb=>if b=p then none else M b
def bL:bo M p m p=some m:=aM rfl
def ba(h:b≠p):bo M p m b=M b:=aL h
def Gv:lH M p p=none:=aM rfl
def Ue(h:b≠p):lH M p b=M b:=aL h
def fi:bo (bo M p m) p a=bo M p a:=by funext b;unfold bo;grind
def o_(h:M p=none):lH (bo M p m) p=M:=by funext b;unfold lH bo;grind
def pi(h:Mm a M H)(e:H p=none):M p=none:=by
 cases q:M p with
 |none=>rfl
 |some m=>obtain⟨o,b,_⟩:=h p m q;grind
def hH(h:aE M p=true\/H p=none):aI (aE<|bo M p m) (bv H p o)=aI (aE M) H:=by
 funext b;unfold aI aE bo;by_cases q:b=p
 ·subst q;rw[aM rfl];rcases h with h|h
  ·rw[aM<|show(M b).isSome=true from h];rfl
  grind
 ·rw[aL q,ew q]
def Mm.eO(h:Mm a M H)(d:aE M p=true\/H p=none)(f:Ob a (aI (aE M) H) p o m):Mm a (bo M p m) (bv H p o):=λb c e=>by
 rw[hH d];by_cases q:b=p
 ·subst q;rw[bL] at e;cases e;exact⟨o,pf,f⟩
 ·rw[ba q] at e;rw[ew q];exact h b c e
def mf:aW (aI (aE M) H) (aI (aE<|lH M p) H):=λb o e=>by unfold aI aE lH at *;grind
def Mm.wX(h:Mm a M H):Mm a (lH M p) H:=λb m e=>by
 by_cases q:b=p;·rw[q,Gv] at e;cases e
 ·rw[Ue q] at e;obtain⟨o,c,r⟩:=h b m e;exact⟨o,c,r.same mf⟩
def Mm.free(h:Mm b M H)(e:M p=some (.ob d)):Dx b (aI (aE<|lH M p) H) (.ref p) d:=by
 obtain⟨o,f,r⟩:=h p _ e;have c:aI (aE (lH M p)) H p=some o:=by unfold aI aE;rw[Gv];exact f
 cases r with
 |aq a=>exact .aq c<|a.same mf
 |cE a=>exact .cE c<|a.same mf
 |bA a=>exact .bA c<|a.same mf
 |ext a=>exact .ext c<|a.same mf
def ZP(K:ax)(M:Mh)(e:aG)(P:Mh->Dt->Prop):TE:=λc H Q=>Cm K M H c e/\∀v b a d,P a d->aW (aI (aE M) H) (aI (aE a) b)->Mm K a b->Dx K (aI (aE a) b) v d->Q v b
def ME(X:Cx)(e:az)(M:Mh)(a:aG)(P:Mh->Dt->Prop):Prop:=PE X e<|ZP X.K M a P
def RE(X:Cx)(e:az)(M:Mh)(a:aG)(d:Dt):Prop:=ME X e M a λc b=>c=M/\b=d
def sK(K:ax)(M:Mh)(g:aG)(P:Mh->eh->Prop):TS:=λD f H=>Cm K M H f g/\
 (∀c b a e,P a (.nx e)->aW (aI (aE M) H) (aI (aE a) b)->Cm K a b c e->D.nx c b)/\
 (∀v b a d,P a (.rt d)->aW (aI (aE M) H) (aI (aE a) b)->Mm K a b->Dx K (aI (aE a) b) v d->D.rt v b)
def MS(X:Cx)(st:cv)(M:Mh)(a:aG)(P:Mh->eh->Prop):Prop:=PS X st<|sK X.K M a P
def cf(X:Cx)(a:List cv)(M:Mh)(b:aG)(P:Mh->eh->Prop):Prop:=dr X a<|sK X.K M b P
def ME.imp(h:ME X e M b R)(k:∀a d,R a d->f a d):ME X e M b f:=PE.aN h λg H Q⟨c,q⟩=>⟨c,(by grind)⟩
def MS.imp(h:MS X a M d b)(k:∀c o,b c o->f c o):MS X a M d f:=PS.aN h λD g H⟨e,j,i⟩=>⟨e,(by grind),(by grind)⟩
def bE(h:DE X e b d):RE X e M b d:=PE.aN h λf H Q⟨a,q⟩=>⟨aE M,a.cd,λv c s h=>q v c M d ⟨rfl,rfl⟩ (ca s) (a.mm.same s) h⟩
def UA(h:DS X a i o):MS X a M i λm l=>m=M/\l=o:=PS.aN h λD n H⟨f,k,j⟩=>⟨aE M,f.cd,by
 cases o with
 |nx e=>exact λb g s c=>k b g M e ⟨rfl,rfl⟩ (ca s) ⟨f.mm.same s,c⟩
 |rt d=>exact λv g s h=>j v g M d ⟨rfl,rfl⟩ (ca s) (f.mm.same s) h⟩
def j9(h:e7 X a j o)(p:b M o):cf X a M j b:=dr.aN h λD m H⟨g,l,k⟩=>⟨aE M,g.cd,by
 cases o with
 |nx f=>exact λe i s c=>l e i M f p (ca s) ⟨g.mm.same s,c⟩
 |rt d=>exact λv i s h=>k v i M d p (ca s) (g.mm.same s) h⟩
def fj(p:a M (.nx b)):cf X [] M b a:=j9 jK p
def qu(z:MS X a M u P1)(o:∀M1 f,P1 M1 (.nx f)->cf X b M1 f e)(E:∀M1 d,P1 M1 (.rt d)->e M1 (.rt d)):cf X (a::b) M u e:=by have n:dr X b (λD h H=>∃M1 f,P1 M1 (.nx f)/\sK X.K M1 f e D h H):=λg s h H D I⟨M1,f,p,t⟩=>o M1 f p g s h H D I t;refine dr.aN (rN z n) λD h H⟨A,x,w⟩=>⟨A,λr J C k p s c=>⟨C,k,p,c,λi q M2 j m l B=>x i q M2 j m (s.trans l) B,λv q M2 d m l y o=>w v q M2 d m (s.trans l) y o⟩,(by grind)⟩
def cZ{P1:Mh->aG->Prop}(g:MS X a M f λh o=>∃e,o=.nx e/\P1 h e)(i:∀M1 d,P1 M1 d->cf X b M1 d c):cf X (a::b) M f c:=qu g (by grind) (by grind)
def gR(f:DS X a e (.nx d))(g:cf X b M d c):cf X (a::b) M e c:=qu (UA f) (by grind) (by grind)
def Co(g:MS X a M f λh o=>∃d,o=.rt d/\c h o):cf X (a::b) M f c:=qu g (by grind) (λM1 d⟨i,e,p⟩=>p)
def J9(c:ME X e M a R):MS X (.Return (some e) b) M a λg o=>∃d,o=.rt d/\R g d:=PS.aN (Dc c) λD h H⟨f,j,i⟩=>⟨f,(by grind)⟩
def j_(l:ME X e M b R)(k:jg e none c.line X.ae=pure false:=by rfl):MS X (.Expr e c) M b λf o=>∃a,o=.nx a/\a=b/\∃d,R f d:=PS.aN (IP l k) λD i H⟨g,j,q⟩=>⟨g,λv n f d p s m h=>j i n f b ⟨b,rfl,rfl,d,p⟩ s ⟨m,g.cd.to m s⟩⟩
def i4(t:ME X e M g R)(u:X.N.Nodup)(q:X.N[i]?=some x:=by rfl)(l:oO X.ae.scope x:=by first|exact cj rfl|exact gF rfl)(n:jg e (some (.Name x b)) c.line X.ae=pure false:=by rfl)(r:X.fn x=true\/X.ae.scope.names.lookup x=some .local:=by first|exact .inl rfl|exact .inr rfl):MS X (.Assign [.Name x b] e c) M g λf o=>∃a,o=.nx a/\∃d,R f d/\a=g.set i (some d):=PS.aN (Db u q l t n r) λD y H⟨j,k,z⟩=>⟨j,λv w f d p s m h=>k _ w f _ ⟨_,rfl,d,p,rfl⟩ s ⟨m,(j.cd.to m s).set h⟩⟩
def CT(q:DT X c j true)(r:cf X A M j a):MS X (.If c A B o) M j a:=PS.aN (uk q r qr) λD t H⟨k,n,l⟩=>⟨aE M,k.cd,λu s=>⟨k.same s,λb i g e p f c=>n b i g e p ((ca s).trans f) c,λv i g d p f m h=>l v i g d p ((ca s).trans f) m h⟩⟩
def Di(q:DT X c j false)(r:cf X B M j a):MS X (.If c A B o) M j a:=PS.aN (uk q qr r) λD t H⟨k,n,l⟩=>⟨aE M,k.cd,λu s=>⟨k.same s,λb i g e p f c=>n b i g e p ((ca s).trans f) c,λv i g d p f m h=>l v i g d p ((ca s).trans f) m h⟩⟩
def pc(x:q[i]?=some (some<|.aD p))(w:M p=some (.ob d))(h:cf X a (lH M p) (q.set i<|some d) b):cf X a M q b:=
 dr.aN h λD o H⟨f,t,r⟩=>by
  have y:=f.mm.free w;obtain⟨v,z,u⟩:=f.cd.kO i _ x;cases u;have e:o.set i (some (.ref p))=o:=by apply ro;grind
  refine⟨⟨f.mm.wX,?_⟩,λg n l j k s c=>t g n l j k (mf.trans s) c,λv n l d k s m h=>r v n l d k (mf.trans s) m h⟩;have:=(f.cd.to (f.mm.wX (p:=p)) mf).set (i:=i) y;grind
def rT(h:DA X l g ds)(k:ds.length<=bx:=by decide):ME X (.List l j) M g λn d=>∃p,M p=none/\n=bo M p (.ob (.aq ds))/\d=.aD p:=PE.aN (CW h) λr H Q⟨f,q⟩=>⟨aE M,f.cd,λi s b e=>⟨by rw[e.length];exact k,λp a=>by have c:=f.mm.same b;have v:=hH (M:=M) (m:=.ob<|.aq ds) (o:=.aq i)<|.inr a;exact q _ _ _ _ ⟨p,pi c a,rfl,rfl⟩ (by rw[v];exact ca b) (c.eO (.inr a)<|.aq e)<|.aD p⟩⟩
def iE(m:Mm b M H)(d:M p=some (.ob<|.aq e)):∃c,H p=some (.aq c)/\bu b (aI (aE M) H) c e:=by
 obtain⟨o,f,r⟩:=m p _ d;cases r with
 |aq a=>grind
def gc(a:M p=some m):aE M p=true:=by unfold aE;grind
def BB(z:DE X o n (.aD p))(C:DE X e n d)(g:M p=some (.ob<|.aq w))(B:w.length<bx)(b:kx o "append" X.ae (aO o X.ae)=aO o X.ae:=by rfl)(a:(f.endLine==j.line)=true:=by rfl)(l:aB [e] X.ae=[(false,aO e X.ae)]:=by rfl):ME X (.Call (.Attribute o "append" f) [e] [] j) M n λJ r=>J=bo M p (.ob<|.aq<|w++[d])/\r=.aS:=
 PE.aN (uj sO MM aae G6 z (ah C au<|by rw[l];rfl) b (by rw[l];rfl) a (by rw[l];rfl) rfl) λL H Q⟨m,q⟩=>
  ⟨aE M,m.cd,λv R i I=>by
   cases I;have u:=m.mm.same i;obtain⟨x,y,_⟩:=iE u g;refine⟨.inl ⟨rfl,x,bi.of y⟩,aE M,m.cd.same i,λN O s E=>?_⟩;have t:=u.same s;obtain⟨h,k,c⟩:=iE t g;cases E with
   |cons D A=>cases A;refine⟨p,h,_,rfl,rfl,k,by rw[c.length];exact B,?_⟩;refine q _ _ _ _ ⟨rfl,rfl⟩ ?_ (t.eO (.inl<|gc g)<|.aq<|c.append<|.one D) .aS;rw[hH<|.inl<|gc g];exact ca<|i.trans s⟩
def Qg(B:DE X o m (.aD p))(E:DE X e m (.aq w))(f:M p=some (.ob<|.aq x))(D:x.length+w.length<=bx)(b:kx o "extend" X.ae (aO o X.ae)=aO o X.ae:=by rfl)(a:(d.endLine==i.line)=true:=by rfl)(k:aB [e] X.ae=[(false,aO e X.ae)]:=by rfl):ME X (.Call (.Attribute o "extend" d) [e] [] i) M m λN r=>N=bo M p (.ob<|.aq<|x++w)/\r=.aS:=
 PE.aN (uj sO Ap MD Hw B (ah E au<|by rw[k];rfl) b (by rw[k];rfl) a (by rw[k];rfl) rfl) λO H Q⟨l,q⟩=>
  ⟨aE M,l.cd,λv T h L=>by
   cases L;have t:=l.mm.same h;obtain⟨y,z,_⟩:=iE t f;refine⟨.inl ⟨rfl,y,bi.of z⟩,aE M,l.cd.same h,λR S n J=>?_⟩;have s:=t.same n;obtain⟨g,j,c⟩:=iE s f;cases J with
   |cons I C=>
    cases C;cases I with
    |aq A u=>refine⟨p,_,g,_,rfl,rfl,j,bm _ _ A,by rw[c.length,u.length];exact D,?_⟩;refine q _ _ _ _ ⟨rfl,rfl⟩ ?_ (s.eO (.inl<|gc f)<|.aq<|c.append u) .aS;rw[hH<|.inl<|gc f];exact ca<|h.trans n⟩
def PV(l:DE X o k (.aD p))(e:M p=some (.ob<|.aq s))(b:kx o "reverse" X.ae (aO o X.ae)=aO o X.ae:=by rfl)(a:(c.endLine==d.line)=true:=by rfl):ME X (.Call (.Attribute o "reverse" c) [] [] d) M k λt r=>t=bo M p (.ob<|.aq s.reverse)/\r=.aS:=
 PE.aN (Km sO aaI PySem.F.type_list_reverse Py l b a) λu H Q⟨j,q⟩=>
  ⟨aE M,j.cd,λv w g m=>by cases m;have h:=j.mm.same g;obtain⟨f,i,n⟩:=iE h e;refine⟨.inl ⟨rfl,f,bi.of i⟩,p,f,rfl,rfl,i,?_⟩;refine q _ _ _ _ ⟨rfl,rfl⟩ ?_ (h.eO (.inl<|gc e)<|.aq n.reverse) .aS;rw[hH<|.inl<|gc e];exact ca g⟩
def uh{X:Cx}{T:az}{l:az}{f:List cv}{M:Mh}{O:aG}{Z:bf}{ds:List Dt}{g:TG}{B:Dt->aG->Option aG}(J:Nat->Mh->aG->Prop)(Pr:Mh->Dt->Prop)(hi:DI X T l O ds)(hg:PG X T g)(S:oN X.K g B)(h0:J 0 M O)
 (hb:∀i d,ds[i]?=some d->∀b a,J i b a->∃k,B d a=some k/\cf X f b k λM2 o=>match o with|.nx c=>J (i+1) M2 c|.rt d=>Pr M2 d)
 (hp:o5 (aH X.prog X.w) X.A X.ae X.xe)(hc:X.cX=true)(hs:∀x,kU l X.ae x=pure x:=by intro _;rfl):
 MS X (.For T l f [] Z) M O λb o=>match o with|.nx a=>J ds.length b a|.rt d=>Pr b d:=by
 let Pb:Nat->Mh->eh->Prop:=λi M2 o=>match o with|.nx c=>J (i+1) M2 c|.rt d=>Pr M2 d
 have b':dr X f (λD N H=>∃i b a,cf X f b a (Pb i)/\sK X.K b a (Pb i) D N H):=λu s N H D I⟨i,b,a,h,t⟩=>h u s N H D I t;refine PS.aN (KQ hp hc hi hg b' hs) λD N H⟨cm,q1,q2⟩=>⟨aE M,cm.cd,λIt H1 Y it=>?_⟩
 refine⟨λi m n L=>m=ds.length-i/\i<=ds.length/\∃b a,J i b a/\Cm X.K b L n a/\aW (aI (aE M) H1) (aI (aE b) L),⟨ds.length,rfl,j0 _,M,O,h0,cm.same Y,aW.refl _⟩,?_⟩;rintro i m n L ⟨rfl,e',b,a,j,q,R⟩;have z:=it (aE b) L q.mm.tr R;by_cases C:i<ds.length
 ·have hd:ds[i]?=some ds[i]:=d9 C;obtain⟨go,yl⟩:=z.1 i _ hd;obtain⟨k,eb,a'⟩:=hb i _ hd b a j;refine .inr ⟨go,λr H2=>∃M2 c,J (i+1) M2 c/\Cm X.K M2 H2 r c/\aW (aI (aE M) H1) (aI (aE M2) H2),λr H2 h=>⟨ds.length-(i+1),by omega,rfl,C,h⟩,λx E y=>?_⟩;obtain⟨Q,dx⟩:=yl x E y;refine S _ a k eb x n E (aE b) _ (q.same Q).cd dx λr c'=>⟨i,b,k,a',⟨q.mm.same Q,c'⟩,λd' H3 M3 c p U c3=>⟨M3,c,p,c3,(R.trans<|ca Q).trans U⟩,λv H3 M3 d p U m3 h3=>?_⟩
  exact q2 v H3 M3 d p ((ca Y).trans<|(R.trans<|ca Q).trans U) m3 h3
 ·have e:i=ds.length:=by omega
  subst e;exact .inl ⟨z.2,q1 n L b a j ((ca Y).trans R) q⟩
def RM{X:Cx}{c:az}{f:List cv}{M:Mh}{C:aG}{N:bf}(J:Nat->Mh->aG->Prop)(S:Mh->Dt->Prop)(U:Mh->aG->Prop){n:Nat}(h0:J n M C)
 (hb:∀m b a,J m b a->∃k,DT X c a k/\(k=true->cf X f b a λM2 o=>match o with|.nx e=>∃l,l<m/\J l M2 e|.rt d=>S M2 d)/\(k=false->U b a))
 (hp:o5 (aH X.prog X.w) X.A X.ae X.xe):MS X (.While c f [] N) M C λb o=>match o with|.nx a=>U b a|.rt d=>S b d:=by
 let Y:Nat->Mh->eh->Prop:=λm M2 o=>match o with|.nx e=>∃l,l<m/\J l M2 e|.rt d=>S M2 d
 have O:PT X c (λq H Q=>∃a k,DT X c a k/\wO X.K a k q H Q):=λg s q H Q I⟨a,k,h,t⟩=>h g s q H Q I t;have R:dr X f (λD q H=>∃m b a,cf X f b a (Y m)/\sK X.K b a (Y m) D q H):=λg s q H D I⟨i,b,a,h,t⟩=>h g s q H D I t;refine PS.aN (Ip hp O R) λD q H⟨cm,q1,Z⟩=>⟨λm u T=>∃b a,J m b a/\Cm X.K b T u a/\aW (aI (aE M) H) (aI (aE b) T),⟨n,M,C,h0,cm,aW.refl _⟩,?_⟩
 rintro m u T ⟨b,a,j,x,L⟩;obtain⟨k,ht,hT,hF⟩:=hb m b a j;refine⟨a,k,ht,aE b,x.cd,λH2 B=>?_⟩;cases k with
 |false=>rw[aL gu];exact q1 u H2 b a (hF rfl) (L.trans<|ca B)<|x.same B
 |true=>
  rw[aM rfl];refine⟨λr z=>∃l,l<m/\∃y e,J l y e/\Cm X.K y z r e/\aW (aI (aE M) H) (aI (aE y) z),λr z h=>h,m,b,a,hT rfl,x.same B,λr z y e p E c3=>?_,λv z y d p E m3 h3=>?_⟩
  ·obtain⟨l,hm,j'⟩:=p;exact⟨l,hm,y,e,j',c3,(L.trans<|ca B).trans E⟩
  ·exact Z v z y d p ((L.trans<|ca B).trans E) m3 h3
def pS(F:bK i x n c f Z)(S:bP N I (bh c))(C:∀u d,R u d->u.length=I.length)(t:∀(l:af)(A:b8)(j:List fA)(s:am)(H:Hp)(E:XK)(u:List Dt)(d:Dt)(M:Mh),dn k (A.deeper (mV n (bh c) s.heap.objs.size f l))->R u d->
 cf (mr bC g w i T B N n (bh c) f l A j s H E).oM (iF c) M (sr N u) λJ o=>J=M/\o=.rt d):bB g w i T B bC (k+1) f Z I (aA i R):=by
 refine F.ok S (aA.aX C) λl A j s H vs Q E U h=>?_;obtain⟨G,u,d,L,a,r,q⟩:=h;let M:Mh:=λb=>if G b=true then(H b).map Mo.pT else none;have D:aE M=G:=by funext b;show(if G b=true then(H b).map Mo.pT else none).isSome=G b;grind
 have O:Mm i M H:=λb m e=>by
  have e:(if G b=true then(H b).map Mo.pT else none)=some m:=e;by_cases z:G b=true
  ·rw[aM z] at e;cases y:H b with
   |none=>grind
   |some o=>rw[y] at e;cases e;exact⟨o,rfl,.pT o⟩
  grind
 refine⟨_,t l A j s H E u d M U r,⟨O,by rw[D];exact vD L a⟩,(by grind),λv H' J d' p s m h=>?_⟩;obtain⟨rfl,e⟩:=p;cases e;refine q v H' (λb o e=>?_)<|by rw[<-D];exact h
 by_cases z:G b=true
 ·have e2:M b=some (.pT o):=by grind
  obtain⟨o',Y,X⟩:=m b _ e2;cases X;exact Y
 ·have:aI (aE M) H b=some o:=by rw[D];unfold aI;grind
  exact bm _ _<|s b o this
def Vm(h:e7 X a c o)(l:fO c b):e7 X a b o:=dr.aN h λD e H⟨F,d,q⟩=>⟨F,d.le l,q⟩
def UF(h:cf X a M ρ b)(l:fO ρ c):cf X a M c b:=dr.aN h λD e H⟨d,q⟩=>⟨⟨d.mm,d.cd.le l⟩,q⟩
def oy{P:Mh->eh->Prop}(h:cf X a M j P)(k:∀f o,P f o->match o with|.nx e=>∃b,fO b e/\i f (.nx b)|.rt d=>i f<|.rt d):cf X a M j i:=dr.aN h λD t H⟨q,m,u⟩=>
 ⟨q,λg r f e p s c=>let⟨b,l,n⟩:=k _ _ p;m g r f b n s ⟨c.mm,c.cd.le l⟩,(by grind)⟩
def ng{c β:Type}(a:c->β->β⊕Dt):List c->β->β⊕Dt
 |[],b=>.inl b
 |x::e,b=>match a x b with
  |.inl f=>ng a e f
  |.inr d=>.inr d
def T6(j:l->aG)(n:t->l->aG)(e:t->l->l⊕Dt)(I:l->Prop)(s:I b)(p:DI X o a (j b) (i.map f))(y:PG X o g)(m:oN X.K g B)(D:∀x∈i,∀b,I b->B (f x) (j b)=some (n x b))(C:∀x∈i,∀b,I b->match e x b with|.inl k=>I k/\∃c,e7 X body (n x b) (.nx c)/\fO (j k) c|.inr d=>e7 X body (n x b)<|.rt d)(v:o5 (aH X.prog X.w) X.A X.ae X.xe)(z:X.cX=true)(u:∀x,kU a X.ae x=pure x:=by intro _;rfl):
 DS X (.For o a body [] pos) (j b) (match ng e i b with|.inl k=>.nx (j k)|.inr d=>.rt d):=by
 refine Li p y m ?_ v z u;clear p;induction i generalizing b with
 |nil=>exact .nil
 |cons x i J=>
  have r:=D x cc b s;have h:=C x cc b s;show sk _ (f x::i.map f) _ _;unfold ng;cases q:e x b with
  |inr d=>rw[q] at h;exact .ret ⟨_,r,h⟩
  |inl k=>rw[q] at h;obtain⟨L,c,H,E⟩:=h;exact .next ⟨_,r,K_ H E⟩<|by grind
def yA(j:β->aG)(m:r->β->aG)(e:r->β->β⊕Dt)(I:β->Prop)(L:I b)(z:fO (j b) p)(C:DI X o f (j b) (xs.map enc))(D:PG X o g)(n:oN X.K g B)(J:∀x∈xs,∀b,I b->B (enc x) (j b)=some (m x b))(H:∀x∈xs,∀b,I b->match e x b with|.inl i=>I i/\∃k,e7 X c (m x b) (.nx k)/\fO (j i) k|.inr d=>e7 X c (m x b)<|.rt d)(y:∀i,ng e xs b=.inl i->e7 X a (j i) (.rt d))(t:∀v,ng e xs b=.inr v->v=d)(u:o5 (aH X.prog X.w) X.A X.ae X.xe)(E:X.cX=true)(s:∀x,kU f X.ae x=pure x:=by intro _;rfl):
 e7 X (.For o f c [] l::a) p (.rt d):=by
 refine Vm ?_ z;have h:=T6 (body:=c) (pos:=l) j m e I L C D n J H u E s;cases q:ng e xs b with
 |inl i=>rw[q] at h;exact dQ h<|y i q
 |inr v=>rw[q] at h;rw[<-t v q];exact bb h
open Sy(Pt before)
def QP:∀{b a:List af},a.Perm b->∀{L:List (V×Pt)},bF (L.map (·.1)) b->∃c:List (V×Pt),c.Perm L/\bF (c.map (·.1)) a:=by
 intro b a h;induction h with
 |nil=>grind
 |@cons u k j h i=>
  intro L v;cases L with
  |nil=>cases v
  |cons x L=>
   cases v with
   |cons r v=>obtain⟨c,p,d⟩:=i v;exact⟨x::c,p.cons x,.cons r d⟩
 |swap u w l=>
  intro L v;cases L with
  |nil=>cases v
  |cons x L=>
   cases v with
   |cons r v=>
    cases L with
    |nil=>cases v
    |cons y L=>
     cases v with
     |cons e v=>exact⟨y::x::L,List.Perm.swap x y L,.cons e<|.cons r v⟩
 |trans n m g f=>grind
def wz(K:ax)(H:Hp)(x:V×Pt):Prop:=∃b,x.1=.ref b/\cV K H b [.int x.2.1,.int x.2.2]
def TJ(K:ax):List V->Hp->VK->Prop:=λc H Q=>∃(a:aa)(L:List (V×Pt)),c=[V.ref a]/\bi K H a (L.map (·.1))/\(∀x∈L,wz K H x)/\
 ∀(b:List (V×Pt))(p:aa),b.Perm L->(b.map (·.2)).Pairwise (λp q=>aY q p=false)->H p=none->Q (.ref p) (bv H p (.aq (b.map (·.1))))
def kp(p:Pt):List (Int⊕List Nat):=[.inl p.1,.inl p.2]
def CV(I:Inv X c q H s)(h:wz X.K H x)(r:bM x.1 u):G.tupKeyC s.heap (λ_=>false) u=some (kp x.2)/\∃f,TupOf s.heap (λ_=>false) u f:=by
 obtain⟨b,e,p⟩:=h;rw[e] at r;cases r;obtain⟨l,a,m,_⟩:=I.tuple p;obtain⟨o,d,i,n,g⟩:=m;cases a with
 |cons k a=>
  cases a with
  |cons j a=>cases a;obtain⟨v,rfl⟩:=k;obtain⟨t,rfl⟩:=j;refine⟨?_,_,b,o,_,n,rfl,d,i,g,rfl,λ_=>⟨_,_,rfl⟩,λz=>by cases z⟩;unfold G.tupKeyC G.isTupObj tupKey;simp only[d,i,g];rfl
def WY(p q:Pt):ib itemOrd (kp q) (kp p)=aY q p:=by unfold kp aY;simp only[ib,itemLt];grind
def yE:∀{a:List V}{b:List af}{i:Nat}{x:V}{u:af},bF a b->a[i]?=some x->b[i]?=some u->bM x u
 |_,_,_,_,_,.nil,e,_=>by simp at e
 |_,_,0,_,_,.cons r _,d,c=>by grind
 |_,_,i+1,_,_,.cons _ t,d,c=>yE (i:=i) t (by grind)<|by grind
def Ii:∀a:List af,a.zip a=a.map λu=>(u,u)
 |[]=>rfl
 |u::a=>by rw[xc,Ii a,dB]
def PP:gU X (.builtin "sorted") (TJ X.K):=by
 intro O s σ H vs us Q I r h;obtain⟨a,L,rfl,hs,C,q⟩:=h;obtain⟨c,v,hl,hz⟩:=I.list hs;rw[bF.nA r];have T:∀u∈c,∃x∈L,bM x.1 u:=λu l=>by
  obtain⟨i,M,e⟩:=aa8 l;have J:i<L.length:=by have:=v.length;grind
  have Z:(L.map (·.1))[i]?=some L[i].1:=by grind
  exact⟨L[i],xg J,yE v Z<|by grind⟩
 have ht:∀d:List af,(∀u∈d,u∈c)->∃w,TupsOf s.heap (λ_=>false) d w:=by
  intro d;induction d with
  |nil=>intro _;exact⟨[],.nil⟩
  |cons u d ih=>
   intro l;obtain⟨w,N⟩:=ih<|by grind
   obtain⟨x,o,z⟩:=T u<|l u cc;obtain⟨f,t⟩:=(CV I (C x o) z).2;exact⟨f::w,.cons t N⟩
 obtain⟨w,N⟩:=ht c λu h=>h;have S:=v.length;refine acL hl.isList N (λu l=>?_) ?_ λb Y h2 _=>?_
 ·obtain⟨x,o,z⟩:=T u l;exact⟨_,(CV I (C x o) z).1⟩
 ·omega
 ·have pd:(pairsOf c).toList=c.map λu=>(u,u):=by unfold pairsOf;rw[Array.toList_zip];exact Ii c
  have p1:(mW b).toList.Perm (c.map λu=>(u,u)):=by rw[<-pd];exact Array.perm_iff_toList_perm.mp Y
  have po:((mW b).map (·.2)).toList.Perm c:=by have:=p1.map λx:Keyed=>x.2;rw[d_] at this;rw[Array.toList_map];have e:c.map ((λx:Keyed=>x.2)∘λu=>(u,u))=c:=Fa c;grind
  obtain⟨g,A,y⟩:=QP po v;obtain⟨ep,a'⟩:=ZZ s.heap c ((mW b).map (·.2));have k:(g.map (·.1)).length<=bx:=by rw[bS,A.length_eq];grind
  refine⟨.ref _,bv H (s.heap.objs.size+1) (.aq (g.map (·.1))),I.ij (t':=s.toks) (λ_ _=>ZX) (AN _) ⟨k,_,ep,y,by omega⟩,rfl,q g _ A ?_<|I.a_.fresh<|AN _⟩;rw[MH];intro i j M U E;rw[bS] at M U;rw[abM,abM];have B:=y.length;have B:g.length=(mW b).size:=by grind
  have n:∀m(R:m<g.length),KK (G.tupKindC s.heap (λ_=>false)) (mW b) m=kp g[m].2:=by
   intro m R;have D:m<(mW b).size:=by omega
   have Z:(mW b)[m]?=some (mW b)[m]:=Array.getElem?_eq_getElem D;have p:(mW b)[m]∈c.map (λu=>(u,u)):=by grind
   obtain⟨u,l,eu⟩:=cY.mp p;have e2:((mW b).map (·.2)).toList[m]?=some (mW b)[m].2:=by grind
   have e3:(g.map (·.1))[m]?=some g[m].1:=by grind
   have r3:=yE y e3 e2;have o:=A.mem_iff.mp<|xg R;have k3:=(CV I (C _ o) r3).1;have b':(mW b)[m].1=(mW b)[m].2:=by grind
   unfold KK;grind
  have:=h2 i j (AK E) (by have:=Y.size_eq;omega)
  rw[n i M,n j U] at this;have this:ib itemOrd (kp g[j].2) (kp g[i].2)=false:=this;rw[WY] at this;omega
def Cw:∀{c:List V}{b:List Pt},bu a H c (b.map dP)->∃L:List (V×Pt),L.map (·.1)=c/\L.map (·.2)=b/\∀x∈L,Dx a H x.1 (dP x.2)
 |_,[],h=>by cases h;simp
 |_,q::b,h=>by
  cases h with
  |cons g d=>obtain⟨L,e,i,h⟩:=Cw d;refine⟨(_,q)::L,by rw[dB,e],by grind,λx f=>?_⟩;grind
def bu.Le:∀{L:List (V×Pt)},(∀x∈L,Dx a H x.1 (dP x.2))->bu a H (L.map (·.1)) ((L.map (·.2)).map dP)
 |[],_=>.nil
 |x::L,h=>.cons (h x cc)<|bu.Le<|by grind
def O8(y:DE X a g (.aq<|i.map dP))(t:X.mg "sorted"=none)(u:Gl X "sorted":=by rfl)(f:aB [a] X.ae=(false,aO a X.ae)::aB [] X.ae:=by rfl):
 PE X (.Call (.Name "sorted" p) [a] [] j) (λe H Q=>∃F,Cd X.K F H e g/\∀(S:List Pt)d l c,aW H c->S.Perm i->S.Pairwise (λp q=>aY q p=false)->c l=none->bu X.K (aI F c) d (S.map dP)->Q (.ref l) (bv c l<|.aq d)):=
 PE.aN (B_ PP u t (by rfl) (ah y au f) (by decide) (by decide) f rfl) λe H Q⟨F,D,q⟩=>kH D λd I s h=>by
  obtain⟨v,rfl,m⟩:=hE h;cases m with
  |aq o A=>
   obtain⟨L,C,M,z⟩:=Cw A;refine⟨_,L,rfl,by rw[C];exact bi.of<|bm _ _ o,λx k=>?_,λE p J n r=>?_⟩
   ·obtain⟨b,B,w⟩:=ig<|z x k;exact⟨b,B,et bm w⟩
   ·refine q (E.map (·.2)) _ p I s ?_ n r<|bu.Le<|by grind
    grind
def nD(p:Pt):ql:=.tuple [.int p.1,.int p.2]
def Up(K:ax):V->List V->Hp->VK->Prop:=λx b H Q=>∃(a:aa)(L:List (V×Pt))(y:V)(q:Pt),x=V.ref a/\b=[y]/\bi K H a (L.map (·.1))/\(∀x∈L,wz K H x)/\wz K H (y,q)/\q∈L.map (·.2)/\Q (.int ((L.map (·.2)).idxOf q:Nat)) H
def HJ(I:Inv X a g H s)(h:wz X.K H x)(r:bM x.1 u):∃f,xC s.heap u (nD x.2) f:=by
 obtain⟨b,e,c⟩:=h;have d:Dp X.K H x.1 (nD x.2):=by rw[e];exact .a9 c<|.cons (.int _)<|.cons (.int _) .nil
 exact Dp.nj I _ _ _ d r
def Qj(hu:X.A.units+64<cH):Ee X "list.index" (Up X.K):=by
 intro E s σ H x xs v us Q I Y j h;obtain⟨a,L,y,q,rfl,rfl,hs,hL,hy,hq,k⟩:=h;cases Y;cases j with
 |cons U Z=>
  rename_i B ut;cases Z;obtain⟨b,D,⟨⟨e',dd,R,T⟩,n,J,N,d',M⟩,g⟩:=I.list hs;simp only at N M;subst N M;have o:=D.length;rw[bS] at o g;obtain⟨S,l⟩:=HJ I hy U;let e:af->Bool:=λu=>@decide (∃d,xC s.heap u (nD q) d)<|aad _;have w:∀m(c:m<L.length)(f:m<b.length),(∃d,xC s.heap b[m] (nD L[m].2) d)/\e b[m]=decide (L[m].2=q):=by
   intro m c f;have e1:(L.map (·.1))[m]?=some L[m].1:=by grind
   obtain⟨d,i⟩:=HJ I (hL _<|xg c)<|yE D e1<|d9 f;refine⟨⟨d,i⟩,?_⟩;by_cases z:L[m].2=q;·grind
   ·rw[mX z];refine@mX _ (aad _) λ⟨bs,hb⟩=>z ?_;have:=(acf i _ _ hb).1;unfold nD at this;grind
  have hj:(L.map (·.2)).idxOf q<(L.map (·.2)).length:=aah hq;have t:(L.map (·.2)).idxOf q<L.length:=by grind
  have b':=fu;refine u_ aak ⟨_,J,rfl⟩ PySem.F.entry_list_index (PySem.F.args_list_index_2 _ _)
   (SeqAt.list_indexAt a b.toArray n dd T B e ((L.map (·.2)).idxOf q) (by grind) (by omega) ?_ ?_) ⟨J,λC a'=>?_,?_⟩
  ·have:=(w _ t<|by omega).2;rw[aa0,this];refine kC ?_;have:=abg hj;grind
  ·intro m c r;rw[Au] at c;have:=(w m (by omega) c).2;rw[aa0,this];refine mX λz=>?_;have c':m<(L.map (·.2)).length:=by omega
   have:=List.not_of_lt_findIdx (p:=(·==q)) r;grind
  ·obtain⟨m,c,em⟩:=aa8<|show C∈b by grind
   obtain⟨⟨d,i⟩,O⟩:=w m (by omega) c;rw[em] at i O;rw[O];have:=abq (nD (L[m]'(by omega)).2) (nD q) X.A.in1 s C B d S i l (by rfl) (by rfl) (by
    have:E4 (nD q)<=8:=by show _<=8;simp[nD,E4,abr]
    grind)
   have e4:tA (nD (L[m]'(by omega)).2) (nD q)=decide ((L[m]'(by omega)).2=q):=vW _ _;grind
  ·exact⟨.int _,H,I.jb _,⟨_,rfl⟩,k⟩
def BV{h:List Pt}(y:DE X o p (.aq<|h.map dP))(z:DE X e p (dP q))(R:q∈h)(w:X.A.units+64<cH)(c:kx o "index" X.ae (aO o X.ae)=aO o X.ae:=by rfl)(a:(f.endLine==i.line)=true:=by rfl)(l:aB [e] X.ae=[(false,aO e X.ae)]:=by rfl):DE X (.Call (.Attribute o "index" f) [e] [] i) p (.int (h.idxOf q:Nat)):=
 PE.aN (uj sO aak PySem.F.type_list_index (Qj w) y (ah z au<|by rw[l];rfl) c (by rw[l];rfl) a (by rw[l];rfl) rfl) λN H Q⟨F,s,k⟩=>
  ⟨F,s,λv S r E=>by
   cases E with
   |aq d C=>
    refine⟨.inl ⟨rfl,_,bi.of<|bm _ _ d⟩,F,s.same r,λO M g D=>?_⟩;obtain⟨t,rfl,j⟩:=hE D;obtain⟨L,J,I,B⟩:=Cw<|C.same<|ca g;obtain⟨b,n,m⟩:=ig j;refine⟨_,L,t,q,rfl,rfl,by rw[J];exact bi.of<|g _ _<|bm _ _ d,λx u=>?_,⟨b,n,et bm m⟩,by grind,?_⟩
    ·obtain⟨b,n,m⟩:=ig<|B x u;exact⟨b,n,et bm m⟩
    ·rw[I];exact k _ M (r.trans g)<|.int _⟩
end L3
namespace HT
open PySem PyProof.Rows
section
open PySem.SeqAt
open PySem.AutoSeq1(wpAny_loadPart')
open PySem.MeetsSeq PySem.MeetsSeq2 PySem.MeetsSeq3
def OO(l b:aa)(c a:Array af)(n r:Nat)(k:Option aa)(j:Array (Option af))(B:¬(!c.isEmpty&&Ah (c.size+a.size))=true)(z:c.size+a.size<=bx+1):
 Meets (Builtin.«list.extend» ⟨[.ref l,.ref b],[]⟩)
  (λ_ R s=>s.heap.get? l=some { cls:=.type "list",data:=.seq c n}/\s.heap.get? b=some { cls:=.type "tuple",dict:=k,data:=.seq a r,slots:=j}/\
   R (.ok<|.ret .none) { s with heap:=s.heap.update l (cM λx=>x++a)}):=
 .of_wp λm w A R s h=>by
  obtain⟨y,g,d,v,os⟩:=s;obtain⟨t,u,h⟩:=h;have q:(cM (λx=>x++a) { cls:=ky "list",data:=Data.seq c n}).data.pastItsLine=none:=by show abI (.seq (c++a) _)=none;unfold abI;grind
  wp_walk using p_ t,p_ u
  rw[q]
  wp_walk
  grind
end
end HT
namespace L3
open PySem PySem.Spec PyProof.Rows L2
open Sy(Pt before)
def SW(K:ax):V->List V->Hp->VK->Prop:=λx d H Q=>∃l b c a,x=.ref l/\d=[.ref b]/\H l=some (.aq c)/\cV K H b a/\c.length+a.length<=bx/\Q .aS (bv H l (.aq (c++a)))
def P8:wL X "list.extend" (SW X.K):=by
 intro o s N H x S v T Q I y A h;obtain⟨l,b,R,O,rfl,rfl,t,L,U,q⟩:=h;cases y;obtain⟨u,rfl,B⟩:=A.one;cases B;obtain⟨z,c,n,r,Y,e⟩:=I.q7 t;obtain⟨a,m,E,D⟩:=I.tuple L;obtain⟨⟨w,k,data2,i⟩,M,g,C,f⟩:=E;simp only at g f;subst g f;have J:=m.length;have j:c.toArray.size+a.toArray.size<=bx:=by grind
 have d:¬(!c.toArray.isEmpty&&Ah (c.toArray.size+a.toArray.size))=true:=by rw[Ig j,AH];grind
 refine u_ Ap ⟨_,e,rfl⟩ abG (abt _ _) (HT.OO l b c.toArray a.toArray n C k i d<|by omega) ⟨e,M,?_⟩;refine⟨.aS,_,I.wG (its':=c++a) t e (by simp) (r.append m) ?_,rfl,q⟩;grind
def Gc(B:DE X o m (.aD p))(E:DE X e m (.a9 w))(f:M p=some (.ob<|.aq x))(D:x.length+w.length<=bx)(b:kx o "extend" X.ae (aO o X.ae)=aO o X.ae:=by rfl)(a:(d.endLine==i.line)=true:=by rfl)(k:aB [e] X.ae=[(false,aO e X.ae)]:=by rfl):ME X (.Call (.Attribute o "extend" d) [e] [] i) M m λN r=>N=bo M p (.ob<|.aq<|x++w)/\r=.aS:=
 PE.aN (uj sO Ap MD P8 B (ah E au<|by rw[k];rfl) b (by rw[k];rfl) a (by rw[k];rfl) rfl) λO H Q⟨l,q⟩=>
  ⟨aE M,l.cd,λv T h L=>by
   cases L;have t:=l.mm.same h;obtain⟨y,z,_⟩:=iE t f;refine⟨.inl ⟨rfl,y,bi.of z⟩,aE M,l.cd.same h,λR S n J=>?_⟩;have s:=t.same n;obtain⟨g,j,c⟩:=iE s f;cases J with
   |cons I C=>
    cases C;cases I with
    |a9 A u=>refine⟨p,_,g,_,rfl,rfl,j,et bm A,by rw[c.length,u.length];exact D,?_⟩;refine q _ _ _ _ ⟨rfl,rfl⟩ ?_ (s.eO (.inl<|gc f)<|.aq<|c.append u) .aS;rw[hH<|.inl<|gc f];exact ca<|h.trans n⟩
def zd(lo c:Int)(n:Nat):List Dt:=(j4 n).map λi=>Dt.int<|lo+(i:Nat)*c
def XH:D2 b f (Ef a c n) o (zd a c n):=λr p _ _=>⟨λi d e=>by
 unfold zd at e;rw[hZ] at e;cases q:(j4 n)[i]? with
 |none=>grind
 |some j=>rw[q] at e;obtain⟨h,g⟩:=gD.mp q;rw[List.getElem_range] at g;rw[Nc] at h;subst g;cases e;exact⟨h,λx m⟨l,k⟩=>by subst l k;exact⟨aW.refl _,.int _⟩⟩,by unfold zd;rw[bS,Nc];exact cs n⟩
def Re(v:DE X a d (.int i))(u:DE X b d (.int j))(t:DE X c d (.int k))(o:X.mg "range"=none)(z:D5 i j k n)(r:Gl X "range":=by rfl)(m:aB [a,b,c] X.ae=(false,aO a X.ae)::aB [b,c] X.ae:=by rfl)(g:aB [b,c] X.ae=(false,aO b X.ae)::aB [c] X.ae:=by rfl)(f:aB [c] X.ae=(false,aO c X.ae)::aB [] X.ae:=by rfl)(l:(eK e<|aB [b,c] X.ae).any (·.1)=false:=by rfl):
 DI X E (.Call (.Name "range" p) [a,b,c] [] e) d (zd i k n):=
 PI.aN (Qb r o (ah v (ah u (ah t au f) g) m) m l) λC H R⟨F,A,q⟩=>kH A λD B s h=>by
  cases h with
  |cons y h=>
   cases h with
   |cons x h=>
    cases h with
    |cons w h=>cases h;cases y;cases x;cases w;exact⟨i,j,k,n,rfl,z,q _ B s XH⟩
def SG(K:ax):List V->Hp->VK->Prop:=λd H Q=>∃(a:aa)(c:List Int),d=[V.ref a]/\bi K H a (c.map V.int)/\
 ∀(b:List Int)(p:aa),b.Perm c->b.Pairwise (·<=·)->H p=none->Q (.ref p) (bv H p (.aq (b.map V.int)))
def PM:gU X (.builtin "sorted") (SG X.K):=by
 intro i s u H v w Q I r h;obtain⟨a,y,rfl,k,q⟩:=h;obtain⟨e,g,m,z⟩:=I.list k;rw[bF.nA r];have n:=g.ints;have l:=g.length;refine PyProof.Rows.sorted_intsAny m.isList n (by omega) λc b p j o=>?_;obtain⟨t,f⟩:=ZZ s.heap e c;have d:(b.map V.int).length<=bx:=by rw[bS,j.length_eq];grind
 exact⟨.ref _,bv H (s.heap.objs.size+1)<|.aq<|b.map V.int,I.ij (t':=s.toks) (λ_ _=>ZX) (AN _) ⟨d,c.toList,t,A2 p,f⟩,rfl,q b _ j o<|I.a_.fresh<|AN _⟩
def F4(o:DE X a e (.aq<|ns.map .int))(q:∀b:List Int,b.Perm ns->b.Pairwise (·<=·)->b=S)(m:X.mg "sorted"=none)(n:Gl X "sorted":=by rfl)(d:aB [a] X.ae=(false,aO a X.ae)::aB [] X.ae:=by rfl):
 DE X (.Call (.Name "sorted" p) [a] [] g) e (.aq<|S.map .int):=
 jI PM (ah o au d) (λF u H Q f h k=>by
  obtain⟨v,rfl,i⟩:=hE h;cases i with
  |aq j r=>refine⟨_,ns,rfl,by rw[<-r.ints];exact bi.of<|bm _ _ j,λb l t s c=>?_⟩;rw[q b t s];exact k _ _ (gJ c)<|.aq (lh<|jJ f c)<|bu.ub _) m (by rfl) n (by decide) (by decide) d rfl
end L3
namespace L3
open PySem PySem.Spec PyProof.Rows L2
def P_:qj (.type "list_reverseiterator") "__len__"=pure none:=by rw[u5,uT];kernel_rfl
def Tp:qj (.type "list_reverseiterator") "__length_hint__"=pure (some<|.builtin "list_reverseiterator.__length_hint__"):=by rw[u5,uT];rfl
def RR(W:uq r w A.in1.in1 I s.heap.objs.size X n a c)(hn:n<=bx)(Y:∀J(s:am),a 0 J s.heap->s.TypeIs (.ref I) "list_reverseiterator")(nI:s.heap.objs.size≠I)(st:a 0 #[] s.heap)(q:∀p h H,c h p->h.size=n->p.get? s.heap.objs.size=some { cls:=.type "list",dict:=none,data:=.seq h H,slots:=#[]}->(∀b o,b∉X->s.heap.get? b=some o->p.get? b=some o)->Q (.ref s.heap.objs.size) { s with heap:=p}):
 aw (aH r w) A (call (.type "list") [.ref I]) Q E s:=by
 refine NG (Q₁:=λt m=>t=.ref s.heap.objs.size/\m={ s with heap:=s.heap.push { cls:=.type "list",data:=.seq #[]}}) aaJ (aai _) aan (code_list_new _ ⟨rfl,rfl⟩) λt m u=>?_;obtain⟨rfl,rfl⟩:=u;have v:(s.heap.push { cls:=.type "list",data:=.seq #[]}).get? s.heap.objs.size=some { cls:=.type "list",data:=.seq #[]}:=dM _ rfl;refine⟨⟨_,v,rfl⟩,aaf _ _,?_⟩;show aw _ A.in1.in1 (do let C <-Eo (.ref s.heap.objs.size);Z2 (.ref s.heap.objs.size) (λ_=>#[]);letGo C.toList.reverse;w4 (.ref s.heap.objs.size) (.ref I) .none) _ _ _;refine ao ?_;unfold Eo;refine ao<|fG v rfl<|a8 ?_;show aw _ A.in1.in1 (rD s.heap.objs.size (λ_=>#[]) >>= λ_=>letGo (#[]:Array af).toList.reverse >>= λ_=>w4 (.ref s.heap.objs.size) (.ref I) .none) _ _ _;refine ao (je v rfl ?_);have M:=jX (cM λ_=>(#[]:Array af)) v rfl;refine ao<|jF ?_;have l:a 0 #[] ((s.heap.push { cls:=.type "list",data:=.seq #[]}).update s.heap.objs.size (cM λ_=>(#[]:Array af))):=W.frame _ _ _ _ st λb o z e=>(lR _ _<|ci z).trans<|bV _ e;have D:∀b o,b≠s.heap.objs.size->s.heap.get? b=some o->((s.heap.push { cls:=.type "list",data:=.seq #[]}).update s.heap.objs.size (cM λ_=>(#[]:Array af))).get? b=some o:=λb o z e=>(lR _ _<|ci z).trans<|bV _ e;generalize a':(s.heap.push { cls:=.type "list",data:=.seq #[]}).update s.heap.objs.size (cM λ_=>(#[]:Array af))=L at M l D;unfold w4;have k:xk { s with heap:=L} (.ref I) "list_reverseiterator":=Y #[] { s with heap:=L} l;refine ao<|AM k ?_;have U:El (.ref s.heap.objs.size) (.ref I)=false:=by simp[El,nI]
 have S:(ky "list_reverseiterator"==ky "list")=false:=by decide
 have R:(ky "list_reverseiterator"==ky "tuple")=false:=by decide
 simp only[U,S,R,E2,nP,oi];refine ao (W.kj #[] _ _ _ l ?_);refine ao<|jf ?_;unfold ZV;refine ao<|tq k P_ ?_;show aw _ A.in1.in1 (specialOf (c7 I) (jE "__length_hint__") >>= _) _ _ _;refine ao<|tq k Tp ?_;have Z:splitId "list_reverseiterator.__length_hint__"=some ("list_reverseiterator","__length_hint__"):=by rfl
 have x:isSubtype (.type "list_reverseiterator") (.type "list_reverseiterator")=pure true:=by kernel_rfl
 dsimp only;rw[Z];dsimp only;refine ao<|tp (T:="list_reverseiterator") (b:=true) k x ?_;show aw _ A.in1.in1 (pure false) _ _ _;refine a8 ?_;show aw _ A.in1.in1 (again<|.builtin "list.extend.loop" ⟨[.ref s.heap.objs.size,.ref I,.none],[]⟩) _ _ _;refine a8 ⟨kX Ai _,Hd W hn .none n 0 _ _ _ rfl (j0 _) rfl l M λp h H f z g kp=>⟨rfl,q p h H f z g λb o y e=>?_⟩⟩;have nb:b≠s.heap.objs.size:=fg<|cq e;grind
def Q1{prog:a0}{w:aT}{A:b8}{I S l:aa}{xs:List af}(B:A.handled=none)(t:l≠I)(nS:S≠I)(u:S≠l):
 uq prog w A I S [I] xs.length (λi a h=>i<=xs.length/\a=(xs.reverse.take i).toArray/\h.IsRevIter I l ((xs.length:Int)-1-(i:Nat))/\h.IsList l xs.toArray) (λa _=>a=xs.reverse.toArray) where
 nS:=λm=>nS<|by grind
 frame:=λi a h d st k=>⟨st.1,st.2.1,st.2.2.1.at λo e=>k _ o (ci nS) e,st.2.2.2.at<|by grind⟩
 item:=λi a s Q E y H st q=>by
  obtain⟨C,r,c,j⟩:=st;have n:(xs.length:Int)-1-(i:Nat)=((xs.length-1-i:Nat):Int):=by omega
  rw[n] at c;have v:xs.toArray[xs.length-1-i]?=some xs[xs.length-1-i]:=by simp
  refine wpAny_pyNext_rev_item c j v λd g p=>q _ d ⟨y,?_,?_,?_⟩ λb o f e=>(p.2 b λz=>f<|by simp[z]).trans e
  ·rw[r];have x:i<xs.reverse.length:=by grind
   rw[nJ x,List.getElem_reverse];simp
  ·grind
  ·exact j.at λo e=>(p.2 _ t).trans e
 done:=λa s Q E st q=>by
  obtain⟨C,r,c,j⟩:=st;have n:(xs.length:Int)-1-(xs.length:Nat)=-1:=by omega
  rw[n] at c;refine wpAny_pyNext_rev_end B c λd D=>q d ?_ λb o f e=>D b o (λz=>f<|by simp[z]) e;grind
 kj:=λa s Q E st q=>wpAny_pyIter_revIter st.2.2.1 q
def Yx(K:ax)(t:TA):TE:=λd H Q=>t d H λe b=>∃a c,e=[V.ref a]/\bi K b a c/\∀p,b p=none->Q (.ref p) (bv b p (.aq c.reverse))
def Vs(D:Gl X "list")(B:X.mg "list"=none)(C:Gl X "reversed")(z:X.mg "reversed"=none)(hc:X.cX=true)(ha:PA X [e] t)(hs:aB [e] X.ae=(false,aO e X.ae)::aB [] X.ae:=by rfl)(r:aB [.Call (.Name "reversed" O) [e] [] i] X.ae=(false,aO (.Call (.Name "reversed" O) [e] [] i) X.ae)::aB [] X.ae:=by rfl):
 PE X (.Call (.Name "list" p) [.Call (.Name "reversed" O) [e] [] i] [] a') (Yx X.K t):=by
 intro k s U H Q I h;refine o7<|lu I D B Ep<|nL ?_ r rfl;rw[r];refine uU ?_;refine o7<|lu I C z boot_reversed<|nL (bH (ha i k s U H _ I h) λus g⟨vs,H1,v,Y,Z⟩=>?_) hs rfl;obtain⟨a,L,rfl,hq,q⟩:=Z;rw[bF.nA Y];obtain⟨d,M,x,hz⟩:=v.list hq;have la:a<g.heap.objs.size:=x.lt;have b':=M.length;refine call_reversed_list x.isList<|xf ?_;have T:(g.heap.push (xA a ((d.toArray.size:Int)-1))).get? g.heap.objs.size=some (xA a ((d.toArray.size:Int)-1)):=dM _ rfl;have j:∀b o,g.heap.get? b=some o->(g.heap.push (xA a ((d.toArray.size:Int)-1))).get? b=some o:=λb o e=>bV _ e;have y:(g.heap.push (xA a ((d.toArray.size:Int)-1))).objs.size=g.heap.objs.size+1:=iw _ _;generalize c':g.heap.push (xA a<|(d.toArray.size:Int)-1)=u at T j y;have W:=Q1 (prog:=X.prog) (w:=X.w) (A:=X.A.in1.in1) (I:=g.heap.objs.size) (S:=u.objs.size) (l:=a) (xs:=d) (v.ok.hd hc) (fg la) (by grind)<|by grind
 refine RR (s:={ g with heap:=u}) W (by omega) (λE s' st=>st.2.2.1.typeIs) (by grind) ⟨j0 _,by simp,⟨_,T,rfl,by simp[xA]⟩,x.isList.at λo e=>j _ o e⟩ λh' E c f J gS kp=>?_;have n:∀b o,g.heap.get? b=some o->h'.get? b=some o:=λb o e=>kp b o (λm=>by
  have:b=g.heap.objs.size:=by grind
  have lb:=cq e;grind) (j b o e)
 refine⟨.ref u.objs.size,bv H1 u.objs.size<|.aq L.reverse,v.ij (t':=g.toks) n (by omega) ⟨by grind,d.reverse,c,M.reverse,by grind⟩,rfl,q _<|v.a_.fresh<|by omega⟩
def UN(w:DE X a n (.aq l))(f:X.mg "list"=none)(e:X.mg "reversed"=none)(u:X.cX=true)(i:Gl X "list":=by rfl)(g:Gl X "reversed":=by rfl)(k:aB [a] X.ae=(false,aO a X.ae)::aB [] X.ae:=by rfl)(c:aB [.Call (.Name "reversed" j) [a] [] b] X.ae=(false,aO (.Call (.Name "reversed" j) [a] [] b) X.ae)::aB [] X.ae:=by rfl):DE X (.Call (.Name "list" p) [.Call (.Name "reversed" j) [a] [] b] [] o) n (.aq l.reverse):=
 PE.aN (Vs i f g e u (ah w au k) k c) λy H Q⟨F,m,q⟩=>kH m λz A s h=>by
  obtain⟨v,rfl,r⟩:=hE h;cases r with
  |aq t x=>refine⟨_,_,rfl,bi.of<|bm _ _ t,λp d=>?_⟩;exact q _ _ (s.trans<|gJ d)<|.aq (lh<|jJ (jj m.tr s) d)<|(x.reverse).same<|ca<|gJ d
def Mt(K:ax)(a b c:aa):It:=
 ⟨λi H=>∃(f e d:List V)(x y z:V),bi K H a f/\bi K H b e/\bi K H c d/\f[i]?=some x/\e[i]?=some y/\d[i]?=some z,
  λi H v g=>∃T x y z,v=.ref T/\H T=none/\g=bv H T (.a9 [x,y,z])/\(∀f,bi K H a f->f[i]?=some x)/\(∀e,bi K H b e->e[i]?=some y)/\∀d,bi K H c d->d[i]?=some z,
  λi H=>∃f e d:List V,bi K H a f/\bi K H b e/\bi K H c d/\(f.length<=i\/e.length<=i\/d.length<=i)⟩
def Ry{P:a0}{w:aT}{K:ax}{c':List az}{kk:Nat}{Y:bf}{a b c z TI TO C B v:aa}(D:mJ z TI TO C B v a b c):
 qU P w K (.Tuple c' kk Y) (Mt K a b c) [z,TI,TO,C,B,v] z (λi h=>eQ h z TI TO .none/\h.get? TI=some { cls:=.type "tuple",data:=.seq #[.ref C,.ref B,.ref v]}/\(∃x y u,h.get? TO=some { cls:=.type "tuple",data:=.seq #[x,y,u]})/\h.IsListIter C a i/\h.IsListIter B b i/\h.IsListIter v c i) where
 mem:=by simp
 obj:=λi h st d hd=>by obtain⟨O,e,⟨x,y,u,f⟩,⟨o1,e1,_,d1⟩,⟨o2,e2,_,d2⟩,⟨o3,e3,_,d3⟩⟩:=st;grind
 keep:=λi h h' st k=>by obtain⟨O,e,⟨x,y,u,f⟩,U,T,S⟩:=st;exact⟨k z (by simp) _ O,k TI (by simp) _ e,(by grind),U.at λo q=>k C (by simp) o q,T.at λo q=>k B (by simp) o q,S.at λo q=>k v (by simp) o q⟩
 item:=by
  intro X hP hw hK hc i n s σ H E I hf st hg;subst hP hw hK;obtain⟨O,e,⟨x0,y0,u0,f⟩,U,T,S⟩:=st;obtain⟨xs,ys,zs,x,y,v3,m,j,g,hx,hy,a'⟩:=hg;obtain⟨Z,rv,p,_⟩:=I.list m;obtain⟨t,N,p2,_⟩:=I.list j;obtain⟨r,M,p3,_⟩:=I.list g;obtain⟨u,hu,ru⟩:=rv.get hx;obtain⟨u2,w',i'⟩:=N.get hy;obtain⟨u3,v',g'⟩:=M.get a';have k':z<s.heap.objs.size:=cq O;refine K6 D O e f U T S p.isList p2.isList p3.isList (x1:=u) (x2:=u2) (x3:=u3) (by grind) (by grind) (by grind) λh' z' s' r' p' o' hT x' hk=>?_;refine⟨_,rfl,wpAny_letOwnedTupleGo_zip (s:={ s with heap:=h'}) z' λR f' L=>?_⟩;have n':R.get? s.heap.objs.size=some { cls:=.type "tuple",data:=.seq #[u,u2,u3]}:=(L.2 _<|o4 k').trans hT;have j':eA X.prog X.w (bv H s.heap.objs.size (.a9 [x,y,v3])) R s.heap.objs.size (.a9 [x,y,v3]):=⟨by show 3<=bx;decide,[u,u2,u3],.cons ru<|.cons i'<|.cons g' .nil,⟨_,n',rfl,_,rfl⟩⟩
  have I1:Inv X n σ (bv H s.heap.objs.size (.a9 [x,y,v3])) { s with heap:=R}:=I.Hr (t':=s.toks) (ch:=[z,TI,TO,C,B,v]) (λd o hb q=>(L.2 d λq'=>hb<|by simp[q']).trans<|by grind) hf (cs _) j'
  refine⟨.ref s.heap.objs.size,_,I1,rfl,⟨_,x,y,v3,rfl,I.a_.fresh<|cs _,rfl,λl hl=>by rw[I.vx hl m];exact hx,λl hl=>by rw[I.vx hl j];exact hy,λl hl=>by rw[I.vx hl g];exact a'⟩,⟨f',?_,⟨u,u2,u3,?_⟩,?_,?_,?_⟩,λd m'=>?_⟩;·exact(L.2 _ D.sB).trans<|hk _ _ D.sB D.zI D.ux D.uw D.DM e
  ·exact(L.2 _ D.iS).trans s'
  ·exact r'.at λo q=>(L.2 _ D.fZ).trans q
  ·exact p'.at λo q=>(L.2 _ D.hX).trans q
  ·exact o'.at λo q=>(L.2 _ D.pP).trans q
  ·have l':d<s.heap.objs.size:=by
    have e':d=z\/d=TI\/d=TO\/d=C\/d=B\/d=v:=by grind
    rcases e' with q|q|q|q|q|q;·grind
    ·rw[q];exact cq e
    ·rw[q];exact cq f
    ·rw[q];obtain⟨_,e1,_⟩:=U;exact cq e1
    ·rw[q];obtain⟨_,e2,_⟩:=T;exact cq e2
    ·rw[q];obtain⟨_,e3,_⟩:=S;exact cq e3
   rw[ew<|fg l'];exact(hf d m').1
 done:=by
  intro X hP hw hK hc i n s σ H E I hf st hg;subst hP hw hK;obtain⟨O,e,⟨x0,y0,u0,f⟩,U,T,S⟩:=st;obtain⟨xs,ys,zs,m,j,g,u'⟩:=hg;obtain⟨Z,rv,p,_⟩:=I.list m;obtain⟨t,N,p2,_⟩:=I.list j;obtain⟨r,M,p3,_⟩:=I.list g;have l1:=rv.length;have l2:=N.length;have l3:=M.length;have he:Z.toArray[i]?=none\/t.toArray[i]?=none\/r.toArray[i]?=none:=by grind
  exact GS (I.ok.hd hc) D O e f U T S p.isList p2.isList p3.isList he λh' hk=>⟨rfl,I.T4 (t':=s.toks) (ch:=[z,TI,TO,C,B,v]) (by grind) hf⟩
 kj:=λA i s Q E st h=>EU st.1 h
def Yp(K:ax)(j:TA):TI:=λe H R=>j e H λi d=>∃a b c h g f,i=[.ref a,.ref b,.ref c]/\bi K d a h/\bi K d b g/\bi K d c f/\R (Mt K a b c) d
def T7(hg:Gl X "zip")(hm:X.mg "zip"=none)(ha:PA X [e,n,m] O)(hs:aB [e,n,m] X.ae=(false,aO e X.ae)::aB [n,m] X.ae:=by rfl)(w:(eK k<|aB [n,m] X.ae).any (·.1)=false:=by rfl):
 PI X (.Tuple M kk z) (.Call (.Name "zip" p) [e,n,m] [] k) (Yp X.K O):=by
 intro g s y H R I h;refine o7<|lu I hg hm BE<|nL (bH (ha k g s y H _ I h) λus f⟨vs,N,i,T,Y⟩=>?_) hs w;obtain⟨a,b,c,xs,ys,zs,ex,v,u,t,q⟩:=Y;subst ex;cases T with
 |cons r j=>
  cases j with
  |cons U j=>
   cases j with
   |cons o j=>
    cases j;cases r;cases U;cases o;obtain⟨a',rv,C,_⟩:=i.list v;obtain⟨J,S,B,_⟩:=i.list u;obtain⟨E,Q,A,_⟩:=i.list t;have la:a<f.heap.objs.size:=C.lt;have Z:b<f.heap.objs.size:=B.lt;have lc:c<f.heap.objs.size:=A.lt;refine GI C.isList B.isList A.isList λh' hz d' c' h1 h2 h3 b' hk=>EU hz ?_;have I2:Inv X g y N { f with heap:=h'}:=i.eN (t':=f.toks) hk;have D:mJ (f.heap.objs.size+5) (f.heap.objs.size+3) (f.heap.objs.size+4) f.heap.objs.size (f.heap.objs.size+1) (f.heap.objs.size+2) a b c:=by constructor<;>first|exact(by grind)|exact(by grind)|exact(by grind)|exact(by grind)|exact(by grind)|exact fg la|exact(by grind)|exact fg Z|exact(by grind)|grind
    refine⟨f.heap.objs.size+5,[f.heap.objs.size+5,f.heap.objs.size+3,f.heap.objs.size+4,f.heap.objs.size,f.heap.objs.size+1,f.heap.objs.size+2],_,_,N,rfl,I2,Ry D,(by grind),λd x=>?_,q⟩;have e':d=f.heap.objs.size+5\/d=f.heap.objs.size+3\/d=f.heap.objs.size+4\/d=f.heap.objs.size\/d=f.heap.objs.size+1\/d=f.heap.objs.size+2:=by simpa using x
    have l:f.heap.objs.size<=d:=by grind
    exact i.ss l<|i.a_.fresh l
def UH{i:Nat}(h:(oP l m n)[i]?=some d):∃x y z,l[i]?=some x/\m[i]?=some y/\n[i]?=some z/\d=.a9 [x,y,z]:=by unfold oP at h;grind
def Vn(ha:DE X a o (.aq l))(hb:DE X b o (.aq m))(hc:DE X c o (.aq n))(hm:X.mg "zip"=none)(hg:Gl X "zip":=by rfl)(L:aB [a,b,c] X.ae=(false,aO a X.ae)::aB [b,c] X.ae:=by rfl)(B:aB [b,c] X.ae=(false,aO b X.ae)::aB [c] X.ae:=by rfl)(A:aB [c] X.ae=(false,aO c X.ae)::aB [] X.ae:=by rfl)(C:(eK t<|aB [b,c] X.ae).any (·.1)=false:=by rfl):
 DI X (.Tuple Q kk D) (.Call (.Name "zip" p) [a,b,c] [] t) o (oP l m n):=
 PI.aN (T7 hg hm (ah ha (ah hb (ah hc au A) B) L) L C) λσ H R⟨F,cd,q⟩=>kH cd λxs H1 s1 h=>by
  cases h with
  |cons h1 h=>
   cases h with
   |cons h2 h=>
    cases h with
    |cons h3 h=>
     cases h;cases h1 with
     |aq k A1=>
      cases h2 with
      |aq j Z=>
       cases h3 with
       |aq g Y=>
        refine⟨_,_,_,_,_,_,rfl,bi.of<|bm _ _ k,bi.of<|bm _ _ j,bi.of<|bm _ _ g,q _ H1 s1 λU S s f=>⟨λi d e=>?_,_,_,_,bi.of<|bm _ _<|f _ _ k,bi.of<|bm _ _<|f _ _ j,bi.of<|bm _ _<|f _ _ g,?_⟩⟩
        ·obtain⟨x,y,z,e1,e2,e3,rfl⟩:=UH e;obtain⟨w1,O,g1⟩:=A1.get e1;obtain⟨w2,N,g2⟩:=Z.get e2;obtain⟨w3,M,g3⟩:=Y.get e3;refine⟨⟨_,_,_,w1,w2,w3,bi.of<|bm _ _<|f _ _ k,bi.of<|bm _ _<|f _ _ j,bi.of<|bm _ _<|f _ _ g,O,N,M⟩,λv a' yl=>?_⟩;obtain⟨T,x',y',z',rfl,w,rfl,k1,k2,k3⟩:=yl;have J:=k1 _<|bi.of<|bm _ _<|f _ _ k;have I:=k2 _<|bi.of<|bm _ _<|f _ _ j;have E:=k3 _<|bi.of<|bm _ _<|f _ _ g;rw[O] at J;rw[N] at I;rw[M] at E;cases J;cases I;cases E;have r:∀u:HO,aW (aI U S) (aI U (bv S T u)):=λu=>ca<|gJ w;exact⟨gJ w,.a9 (cV.of<|lh<|jJ s w)<|.cons ((g1.same f).same<|r _)<|.cons ((g2.same f).same<|r _)<|.cons ((g3.same f).same<|r _) .nil⟩
        ·unfold oP;rw[List.length_zipWith,List.length_zip,A1.length,Z.length,Y.length];omega
def Fk:qj (.type "tuple") "__hash__"=pure (some<|.builtin "tuple.__hash__"):=by rw[u5,uT];rfl
section
open PySem.AutoSeq1(wpAny_loadPart')
open PySem.SeqAt PySem.MeetsSeq PySem.MeetsSeq2 PySem.MeetsSeq3
def Q5(I:A.units+8<cH)(r:s.heap.get? a=some o)(z:o.cls=.type "tuple")(y:o.data=.seq e n)(v:e=#[.ref b,.ref c])(B:qk (cF d w) s.heap i b)(l:qk (cF d w) s.heap g c)(q:Q (NZ<|Ek [oe (cF d w) i,oe (cF d w) g]) { s with toks:=s.toks+(i.length+1)+(g.length+1)+1}):aw (aH d w) A (AW<|.ref a) Q E s:=by
 have k:s.TypeIs (.ref a) "tuple":=⟨o,r,z⟩
 show aw _ A (pyHashByItsType<|.ref a) _ _ _;unfold pyHashByItsType;refine ao<|wpAny_cRoomFor (by omega) ?_;refine ao<|tq k Fk ?_;have u:((some (Value.builtin "tuple.__hash__"))==some tD)=false:=by decide
 simp only[u,nP,oi];refine ao<|tq k Fk ?_;show aw _ A (callSpecialIfBoundUnlessNone? (.ref a) (jE "__hash__") _ >>= _) _ _ _;refine ao<|wpAny_callSpecialIfBoundUnlessNone?_slot k aaj<|p9 aaj k PySem.F.entry_tuple_hash ?_<|PySem.F.args_tuple_hash_1 _;unfold Builtin.«tuple.__hash__»;subst v;have m:aw (aH d w) A.in1 (forIn #[c7 b,c7 c] (#[]:Array Int) λx f=>do
  let h <-AW x
  pure (tj<|f.push h)) (λf p=>f=#[oe (cF d w) i,oe (cF d w) g]/\p={ s with toks:=s.toks+(i.length+1)+(g.length+1)}) E s:=by
  rw[<-aa_];show aw _ A.in1 (forIn [c7 b,c7 c] _ _) _ _ _;rw[nU];refine ao<|ao<|aca (by grind) B<|a8 ?_;dsimp only;rw[nU];refine ao<|ao<|aca (by grind) l<|a8 ?_;dsimp only;rw[oY];exact a8 ⟨rfl,rfl⟩
 show aw _ A.in1 (acV (.ref a) >>= λe=>(forIn e (#[]:Array Int) λx f=>AW x >>= λh=>pure<|tj<|f.push h) >>= λf=>retInt<|Ek f.toList) _ _ _;refine ao<|wpAny_tupleItemsOf r y<|ao<|bH m λf p⟨H,D⟩=>?_;subst H D
 wp_walk
 refine⟨_,rfl,?_⟩;show aw _ A (ZW _) _ _ _;have C:(#[oe (cF d w) i,oe (cF d w) g]:Array Int).toList=[oe (cF d w) i,oe (cF d w) g]:=rfl;rw[C];generalize Ek [oe (cF d w) i,oe (cF d w) g]=t at q ⊢;unfold ZW;unfold NZ at q;by_cases h:(decide (-2^63<=t)&&decide (t<2^63))=true
 ·rw[aM h] at q ⊢;exact a8 q
 ·rw[aL h] at q ⊢;refine ao<|u9 ?_;exact a8 q
end
abbrev EK:=(Int×Int)×(Int×Int)
def kP(p:Int×Int):List bg:=[.inl p.1,.inl p.2]
def K1(h:kP p=kP q):p=q:=by unfold kP at h;grind
def uL(d:a0)(w:aT)(h:aJ)(k:EK)(a:aa):Prop:=∃o n b c,h.get? a=some o/\o.cls=.type "tuple"/\o.data=.seq #[.ref b,.ref c] n/\qk (cF d w) h (kP k.1) b/\qk (cF d w) h (kP k.2) c
def KY(h:(cF a w).is (.inl i) v=true):∃t,v=.int i t:=by
 rcases mY (k:=.inl i) (v:=v) h with⟨j,t,e,rfl⟩|⟨x,t,e,rfl⟩;·grind
 grind
def GN(k:qk (cF c w) h (kP p) a):∃m,xC h (.ref a) (.tuple [.int p.1,.int p.2]) m:=by
 obtain⟨o,b,n,j,i,g,d⟩:=k;obtain⟨l⟩:=b;have d:ItemsAre (cF c w) (kP p) l:=d;unfold kP at d;match l,d with
 |[r,q],.cons f (.cons e .nil)=>obtain⟨t,rfl⟩:=KY f;obtain⟨s,rfl⟩:=KY e;exact⟨_,NH j i g<|AD (NV _ _)<|AD (NV _ _) Nu⟩
def pM(k:EK):ql:=.tuple [.tuple [.int k.1.1,.int k.1.2],.tuple [.int k.2.1,.int k.2.2]]
def Vd(k l:EK):tA (pM k) (pM l)=decide (k=l):=by rw[mM];simp[pM,tA,abS,acy]
def x8(i:uL d w h k a):∃e,xC h (.ref a) (pM k) e:=by obtain⟨o,n,b,c,q,p,m,l,j⟩:=i;obtain⟨e,g⟩:=GN l;obtain⟨r,f⟩:=GN j;exact⟨_,NH q p m<|AD g<|AD f Nu⟩
def N5:qj (.type "tuple") "__eq__"=pure (some<|.builtin "tuple.__eq__"):=by rw[u5,uT];rfl
def UI(j:A.units+16<cH)(g:uL c w s.heap k a)(f:uL c w s.heap l b)(q:Q (decide<|k=l) s):aw (aH c w) A (eqBool (.ref a)<|.ref b) Q E s:=by
 obtain⟨i,e⟩:=x8 g;obtain⟨h,d⟩:=x8 f;have:=abq (pM k) (pM l) A s (.ref a) (.ref b) i h e d (by rfl) (by rfl) (by
  have:E4 (pM l)<=8:=by simp[pM,E4,abr]
  omega)
 rw[Vd] at this;exact this c w E Q q
def He{l:List af}(i:s.heap.get? a=some o)(m:o.cls=.type "tuple")(k:o.data=.seq l.toArray n)(j:∀v∈l,∀(E:af->am->Prop)(Q:Bool->am->Prop),Q true s->aw (aH c w) A (vb d v) Q E s)(q:Q true s):aw (aH c w) A (vb (d+1) (.ref a)) Q E s:=by
 have f:s.TypeIs (.ref a) "tuple":=⟨o,i,m⟩
 rw[eqIsQuiet.eq_2];refine ao<|tq f N5 ?_;refine ao<|tp (T:="tuple") (b:=true) f isSubtype_tuple_tuple ?_;show aw _ A (va (.ref a) >>= _) _ _ _;refine ao<|fG i k ?_;have e:∀l:List af,(∀v∈l,∀(E:af->am->Prop)(Q:Bool->am->Prop),Q true s->aw (aH c w) A (vb d v) Q E s)->aw (aH c w) A (forIn l ((none:Option Bool),()) λy z=>do
  let b <-vb d y
  if(!b)=true then pure (aa9 (some false,())) else pure (tj (none,()))) (λr g=>r=(none,())/\g=s) E s:=by
  intro l;induction l with
  |nil=>intro _;rw[oY];exact a8 ⟨rfl,rfl⟩
  |cons v l u=>intro h;rw[nU];refine ao<|ao<|h v cc _ _<|a8 ?_;grind
 show aw _ A (forIn l.toArray ((none:Option Bool),()) (λy z=>do
  let b <-vb d y
  if(!b)=true then pure (aa9 (some false,())) else pure (tj (none,()))) >>= _) _ _ _
 rw[<-aa_];refine ao<|bH (e l j) λr g⟨t,p⟩=>?_;subst t p;exact a8 q
def Px(h:uL e w s.heap k a)(q:Q true s):aw (aH e w) A (vb 8<|.ref a) Q E s:=by
 obtain⟨o,n,b,c,j,u,r,z,t⟩:=h;have g:∀(p:Int×Int)(b:aa),qk (cF e w) s.heap (kP p) b->∀(E:af->am->Prop)(Q:Bool->am->Prop),Q true s->aw (aH e w) A (vb 7 (.ref b)) Q E s:=λp b m E Q q=>by obtain⟨o,f,n,h,y,B,x⟩:=m;refine He (d:=6) (l:=f.toList) h y (by omega) (λv i E Q q=>?_) q;rw[eqIsQuiet_byValue 6<|x.byValue v i];exact a8 q
 refine He (d:=7) (l:=[.ref b,.ref c]) j u r (λv i E Q q=>?_) q;grind
def yD(e:a0)(w:aT):HeapKind e w EK where
 is:=uL e w
 hash:=λk=>NZ<|Ek [oe (cF e w)<|kP k.1,oe (cF e w)<|kP k.2]
 draws:=λ_=>7
 room:=λA=>A.units+16<cH
 inj:=λ{h a x y}f g=>by obtain⟨L,z⟩:=x8 f;obtain⟨J,v⟩:=x8 g;have:=(acf z _ _ v).1;unfold pM at this;grind
 keeps:=λ{h D k a d o H I}j u t i=>by
  obtain⟨B,n,b,c,f,g,p,m,l⟩:=j;have C:a≠d:=by grind
  exact⟨B,n,b,c,(i.2 a C).trans f,g,p,m.keeps u t i,l.keeps u t i⟩
 pyHash:=λ{A E s k a Q}r j q=>by obtain⟨o,n,b,c,f,g,p,m,l⟩:=j;exact Q5 (by omega) f g p rfl m l q
 eqBool:=λ{A E s x y a b Q}r f g q=>UI r f g q
 quiet:=λ{A E s k a Q}f q=>Px f q
end L3
namespace L3
open PySem PySem.Spec PyProof.Rows L2
def kR(P:a0)(w:aT)(a:List (EK×aa))(d:aa):HO:=.ext λh=>a.length<=bx/\(d==kz)=false/\(a.map (·.1)).Nodup/\∃o b c,h.get? d=some o/\o.ExactDict/\o.data=.dict b c/\b.toList=a.map λx=>N0 (yD P w) (x.1,x.2,.bool true)
def re(k:EK):Dt:=.a9 [dP k.1,dP k.2]
def lK(P:a0)(w:aT)(a:List (EK×aa)):Dt:=.ext (kR P w a) (a.map λx=>V.ref x.2)<|a.map λx=>re x.1
def i9(b:List (EK×aa))(k:EK)(a:aa):List (EK×aa):=if b.any (λx=>decide<|x.1=k)=true then b else b++[(k,a)]
def ls(K:ax)(H:Hp)(k:EK)(a:aa):Prop:=∃b c,cV K H a [.ref b,.ref c]/\cV K H b [.int k.1.1,.int k.1.2]/\cV K H c [.int k.2.1,.int k.2.2]
def qD(h:Dx d H v (re k)):∃a,v=.ref a/\ls d H k a:=by
 cases h with
 |a9 f e=>
  cases e with
  |cons l e=>
   cases e with
   |cons j e=>cases e;obtain⟨b,rfl,i⟩:=ig l;obtain⟨c,rfl,g⟩:=ig j;exact⟨_,rfl,b,c,f,i,g⟩
def ls.same(s:aW H i)(h:ls d H k a):ls d i k a:=by obtain⟨b,c,g,f,e⟩:=h;exact⟨b,c,et s g,et s f,et s e⟩
def wc(I:Inv X c i H s)(h:cV X.K H a [.int p.1,.int p.2]):qk (cF X.prog X.w) s.heap (kP p) a:=by obtain⟨b,d,⟨o,e,g,n,f⟩,_⟩:=I.tuple h;exact⟨o,b.toArray,n,e,g,f,by simpa using BN (ks:=kP p) d⟩
def CZ(I:Inv X e t H s)(h:ls X.K H k a):uL X.prog X.w s.heap k a:=by
 obtain⟨b,c,r,q,p⟩:=h;obtain⟨i,d,⟨o,j,m,n,l⟩,_⟩:=I.tuple r;cases d with
 |cons g d=>
  cases d with
  |cons f d=>cases d;cases g;cases f;exact⟨o,n,b,c,j,m,l,wc I q,wc I p⟩
def Lo(I:Inv X b q H s)(h:H d=some (kR X.prog X.w a d))(e:∀x∈a,ls X.K H x.1 x.2):
 a.length<=bx/\(d==kz)=false/\s.heap.DictOfH (yD X.prog X.w) d (a.map λx=>(x.1,x.2,.bool true)):=by
 obtain⟨⟨l,k,r,o,n,p,g,m,j,i⟩,_,_⟩:=(show eA X.prog X.w H s.heap d (kR X.prog X.w a d) from I.a_ d _ h)
 refine⟨l,k,o,n,p,g,m,j,by rw[i,d_];rfl,λx f=>?_,by grind⟩;obtain⟨y,c,rfl⟩:=cY.mp f;exact CZ I<|e y c
def Kw{a:List (EK×aa)}:(atKey (a.map λx=>(x.1,x.2,lY true)) k).isSome=a.any λx=>decide (x.1=k):=by
 rw[atKey.eq_1,M_,mM,aby,lV];constructor;·grind
 ·rintro⟨x,b,h⟩;exact⟨_,cY.mpr ⟨x,b,rfl⟩,h⟩
def US(X:Cx):R2:=λx y H Q=>∃a d k b,x=.ref a/\y=.ref d/\H d=some (kR X.prog X.w b d)/\ls X.K H k a/\(∀z∈b,ls X.K H z.1 z.2)/\Q (.bl (!(b.any λx=>decide<|x.1=k))) H
def QF(r:X.A.units+64<cH):eP X (gw .NotIn) (US X):=by intro b s o H x y v u Q I e c ⟨a,d,k,p,m,l,i,j,g,q⟩;subst m l;cases e;cases c;obtain⟨z,h,n⟩:=Lo I i g;refine wpAny_notIn_heap (knd:=yD X.prog X.w) (show X.A.in1.units+16<cH by grind) (CZ I j) h n ?_;rw[Kw];exact⟨.bl _,H,I.jb _,rfl,q⟩
def RQ:PE X (.Dict [] [] c) (λ_ H Q=>∀p,H p=none->Q (.ref p) (bv H p (kR X.prog X.w [] p))):=λb s d H Q I h=>
 wpAny_Dict_empty ⟨.ref s.heap.objs.size,_,I.ij (a:=s.heap.objs.size) (o:=kR X.prog X.w [] s.heap.objs.size) (t':=s.toks) (λ_ _ q=>bV _ q) (cs _)
  ⟨⟨j0 _,beq_eq_false_iff_ne.mpr<|ci<|fg I.jS,Nw,_,#[],0,dM _ rfl,⟨rfl,rfl,rfl⟩,rfl,rfl⟩,⟨_,dM _ rfl⟩,(by grind)⟩,rfl,h _<|I.a_.fresh<|cs _⟩
def Qy(L:A.units+64<cH)(I:Inv X c m H s)(l:H d=some (kR X.prog X.w b d))(u:ls X.K H k a)(p:∀z∈b,ls X.K H z.1 z.2)(M:b.length<bx)(h:∀j,Inv X c m (bv H d (kR X.prog X.w (i9 b k a) d)) j->Q () j):aw (aH X.prog X.w) A (setItem (.ref d) (.ref a) (.bool true)) Q E s:=by
 obtain⟨z,t,J⟩:=Lo I l p;have i:storedH (b.map λx=>(x.1,x.2,lY true)) k a (.bool true)=(i9 b k a).map λx=>(x.1,x.2,lY true):=by
  rw[storedH.eq_1,Kw];unfold i9;by_cases q:(b.any λx=>decide<|x.1=k)=true
  ·rw[aM q,aM q,d_];apply xa;intro x _;show ve k (.bool true) (x.1,x.2,.bool true)=_;unfold ve;grind
  grind
 refine ab9 (knd:=yD X.prog X.w) (hsz:=by grind) (show A.in1.units+16<cH by grind) (CZ I u) J λN e f=>h _ ?_;rw[i] at e;obtain⟨o,y,B,g,v,D,C,R,O⟩:=e;refine vQ I (by rw[l];exact qi) f ⟨o,g⟩ ⟨⟨?_,t,by grind,o,y,B,g,v,D,by rw[C,d_];rfl⟩,⟨o,g⟩,(by grind)⟩;unfold i9;grind
def XF(X:Cx)(h f g:TE):TS:=λD b H=>g b H λv j=>h b j λx i=>f b i λy e=>∃d a k c,v=.bl true/\x=.ref d/\y=.ref a/\e d=some (kR X.prog X.w c d)/\ls X.K e k a/\(∀z∈c,ls X.K e z.1 z.2)/\c.length<bx/\D.nx b (bv e d (kR X.prog X.w (i9 c k a) d))
def Vk(L:X.A.units+64<cH)(N:PE X o m)(Q:PE X i j)(J:PE X b l)(M:jg b (some<|.Subscript o i e) g.line X.ae=pure false):PS X (.Assign [.Subscript o i e] b g) (XF X m j l):=by intro c s f H D I h;refine abn (bH (J c s f H _ I h) λr p⟨v,H1,I1,w,C⟩=>bH (N c p f H1 _ I1 C) λu n⟨x,H2,I2,t,B⟩=>bH (Q c n f H2 _ I2 B) λiv s3⟨y,H3,I3,q,d,a,k,xs,Y,U,T,R,S,E,O,z⟩=>?_) M;subst Y U T;cases t;cases q;cases w;exact Qy L I3 R S E O λs4 Z=>⟨f,_,Z,z⟩
def Sw:ME X (.Dict [] [] c) M g λe d=>∃p,M p=none/\e=bo M p (.ob (lK X.prog X.w []))/\d=.aD p:=PE.aN RQ λf H Q⟨b,q⟩=>λp a=>by have v:=hH (M:=M) (m:=.ob<|lK X.prog X.w []) (o:=kR X.prog X.w [] p)<|.inr a;exact q _ _ _ _ ⟨p,pi b.mm a,rfl,rfl⟩ (by rw[v];exact aW.refl _) (b.mm.eO (.inr a)<|.ext .nil)<|.aD p
def CK:∀{d:List (EK×aa)},bu b H (d.map λx=>V.ref x.2) (d.map λx=>re x.1)->∀x∈d,ls b H x.1 x.2
 |[],_,x,c=>by cases c
 |y::d,h,x,c=>by
  cases h with
  |cons g f=>
   rcases cO.mp c with rfl|c
   ·obtain⟨a,e,i⟩:=qD g;grind
   ·exact CK f x c
def VP(Z:DE X o c (.aD q))(hi:DE X i c (re k))(s:M q=some (.ob<|lK X.prog X.w b))(hl:b.length<bx)(U:X.A.units+64<cH)(Y:jg (.Constant (.bool true) j S) (some<|.Subscript o i e) l.line X.ae=pure false:=by rfl):
 MS X (.Assign [.Subscript o i e] (.Constant (.bool true) j S) l) M c λM' n=>∃d,n=.nx d/\d=c/\∃a,M'=bo M q (.ob (lK X.prog X.w (i9 b k a))):=
 PS.aN (Vk U Z hi (fm (X:=X) (ρ:=c)) Y) λD O H⟨f,R,q2⟩=>⟨aE M,f.cd,λv H1 g h1=>by
  cases h1;refine⟨aE M,f.cd.same g,λx H2 h h2=>?_⟩;cases h2;refine⟨aE M,f.cd.same<|g.trans h,λy C I N=>?_⟩;obtain⟨a,rfl,ha⟩:=qD N;have L:=f.mm.same<|g.trans<|h.trans I;obtain⟨ob,t,r⟩:=L q _ s;unfold lK at r;cases r with
  |ext B=>
   refine⟨q,a,k,b,rfl,rfl,rfl,t,ha.same bm,λz T=>(CK B z T).same bm,hl,?_⟩;have u:bu X.K (aI (aE M) C) ((i9 b k a).map λx=>V.ref x.2) ((i9 b k a).map λx=>re x.1):=by
    unfold i9;split;·exact B
    ·rw[dw,dw];exact B.append<|.one N
   have J:=L.eO (p:=q) (m:=.ob<|lK X.prog X.w<|i9 b k a) (o:=kR X.prog X.w (i9 b k a) q) (.inl<|gc s)<|.ext u;have Q:=hH (M:=M) (H:=C) (m:=.ob<|lK X.prog X.w<|i9 b k a) (o:=kR X.prog X.w (i9 b k a) q)<|.inl<|gc s;have E:aW (aI (aE M) H) (aI (aE (bo M q (.ob (lK X.prog X.w (i9 b k a))))) (bv C q (kR X.prog X.w (i9 b k a) q))):=by rw[Q];exact ca<|g.trans<|h.trans I
   exact R O _ _ c ⟨c,rfl,rfl,a,rfl⟩ E ⟨J,f.cd.to J E⟩⟩
def Rt(n:DE X a d (re k))(m:DE X b d (lK X.prog X.w e))(i:X.A.units+64<cH)(l:mN .NotIn b=false:=by rfl):DT X (.Compare a [.NotIn] [b] f) d (!(e.any λx=>decide<|x.1=k)):=
 qA (QF i) n m l λF x y H Q q p g=>by
  obtain⟨a,rfl,c⟩:=qD q;cases p with
  |ext j o=>exact⟨a,_,k,e,rfl,rfl,bm _ _ j,c.same bm,λz h=>(CK o z h).same bm,g _ H (aW.refl H)<|.bl _⟩
def Rk:qj (.type "list") (jE "keys")=pure none:=by rw[u5,uT];rfl
def GP:entryFor table "dict.update.loop"=some Builtin.«dict.update.loop»:=by kernel_rfl
def yh:plainId "dict.update.loop"=true:=by kernel_rfl
def Dn(a:a0)(w:aT)(h:aJ)(z:aa×(Int×Int)×aa×aa):Prop:=(∃o n,h.get? z.1=some o/\o.cls=.type "tuple"/\o.data=.seq #[.ref z.2.2.1,.ref z.2.2.2] n)/\qk (cF a w) h (kP z.2.1) z.2.2.1
def kf(a:List (List bg×aa×af))(z:aa×(Int×Int)×aa×aa):List (List bg×aa×af):=storedH a (kP z.2.1) z.2.2.1<|.ref z.2.2.2
def OP(c:s.heap.get? a=some o)(f:o.cls=.type "tuple")(e:o.data=.seq #[x,y] n)(q:Q [x,y] s):aw (aH b w) A (Z4<|.ref a) Q E s:=by
 unfold Z4;refine ao<|AM (T:="tuple") ⟨o,c,f⟩ ?_;have d:(ky "tuple"==ky "list"||ky "tuple"==ky "tuple")=true:=by decide
 rw[aM d];exact ao<|fG c e<|a8 q
def lA(a:a0)(w:aT)(h:aJ)(d:aa)(b:List (List bg×aa×af)):Prop:=∃o c e,h.get? d=some o/\o.ExactDict/\o.data=.dict c e/\c.toList=b.map (N0 (og (cF a w)))/\(b.map (·.1)).Nodup
def Ht(k:qk (cF d w) h f a)(e:a<N)(kp:∀b o,b<N->h.get? b=some o->j.get? b=some o):qk (cF d w) j f a:=by obtain⟨o,c,n,i,g⟩:=k;exact⟨o,c,n,kp a o e i,g⟩
def vU(b:List (aa×(Int×Int)×aa×aa))(a:List (List bg×aa×af)):Prop:=∀x∈a,∃z∈b,x.1=kP z.2.1/\x.2.1=z.2.2.1
def vU.step{c:List (aa×(Int×Int)×aa×aa)}{b:List (List bg×aa×af)}(h:vU c b){z:aa×(Int×Int)×aa×aa}(g:z∈c):vU c (kf b z):=by
 unfold kf;rw[storedH.eq_1];split
 ·intro x a;obtain⟨y,e,rfl⟩:=cY.mp a;obtain⟨f,d,j,i⟩:=h y e;unfold ve;grind
 ·intro x a;rcases eI.mp a with a|a;·exact h x a
  grind
def Rb(a:List (List bg×aa×af))(z:aa×(Int×Int)×aa×aa):(kf a z).length<=a.length+1:=by unfold kf;rw[storedH.eq_1];grind
def lA.up(p:lA a w g d c)(m:vU i c)(j:∀z∈i,Dn a w h z)(q:∀b o,h.get? b=some o->b<N)(kp:∀b o,b<N->h.get? b=some o->g.get? b=some o):g.DictOfH (og (cF a w)) d c:=by obtain⟨o,A,B,y,v,u,t,s⟩:=p;refine⟨o,A,B,y,v,u,t,λx l=>?_,s⟩;obtain⟨z,f,D,C⟩:=m x l;have k:=(j z f).2;rw[D,C];obtain⟨E,e,n,r,_⟩:=id k;exact Ht k (q _ _ r) kp
def lA.of(c:h.DictOfH (og<|cF a w) d b):lA a w h d b:=by obtain⟨o,k,l,j,i,g,f,m,e⟩:=c;exact⟨o,k,l,j,i,g,f,e⟩
def lA.keep(c:lA a w h d b)(kp:∀o,h.get? d=some o->e.get? d=some o):lA a w e d b:=by obtain⟨o,i,j,f,g⟩:=c;exact⟨o,i,j,kp o f,g⟩
def S2{R:vd->am->Prop}(hh:A.in1.handled=none)(hu:A.units+8<cH)(c:List (aa×(Int×Int)×aa×aa))(S:its=c.map λz=>.ref z.1)(O:∀z∈c,Dn prog w s0 z)(v:s0.IsList l its.toArray)(hl:c.length<=bx)(nd:d=s0.objs.size)(Z:s0.objs.size<it):
 ∀(k i:Nat)(s:am)(a:List (List bg×aa×af)),c.length-i=k->i<=c.length->s.heap.IsListIter it l i->lA prog w s.heap d a->vU c a->a.length<=i->
  (∀b o,b<s0.objs.size->s0.get? b=some o->s.heap.get? b=some o)->
  (∀h M,lA prog w h d ((c.drop i).foldl kf a)->(∀b o,b<s0.objs.size->s0.get? b=some o->h.get? b=some o)->R (.ok (.ret .none)) { s with heap:=h,toks:=M})->
  mU (aH prog w) A (.builtin "dict.update.loop" ⟨[.ref d,.ref it,oh (i:Nat),.none],[]⟩) R s:=by
 have f:d≠it:=by grind
 have B:∀b o,s0.get? b=some o->b<s0.objs.size:=λb o e=>cq e;intro k;induction k with
 |zero=>
  intro i s a e1 e2 p J H ha kp q;have en:i=c.length:=by omega
  subst en;have m:s.heap.IsList l its.toArray:=v.at λo e=>kp _ o (B _ _ e) e;refine nV GP ?_;rw[nN yh _];show aw _ A.in1 (e_ (.ref it) >>= _) _ _ s;refine ao<|abD hh p m (by grind) λh Y=>?_;show aw _ A.in1 (Z0 d [] >>= _) _ _ _;unfold Z0;refine ao<|ao<|a8<|a8 ?_;refine a8 ?_;have e:(c.drop c.length).foldl kf a=a:=by grind
  have q:=q h s.toks;rw[e] at q;exact q (J.keep λo e=>Y d o f e) λb o t e=>Y b o (by grind)<|kp b o t e
 |succ k ih=>
  intro i s a e1 e2 p J H ha kp q;have C:i<c.length:=by omega
  have m:s.heap.IsList l its.toArray:=v.at λo e=>kp _ o (B _ _ e) e;refine nV GP ?_;rw[nN yh _];show aw _ A.in1 (e_ (.ref it) >>= _) _ _ s;refine ao<|abl p m (x:=.ref c[i].1) (by grind) λh y N=>?_;have g:∀b o,b<s0.objs.size->s0.get? b=some o->h.get? b=some o:=λb o t e=>(N.2 b<|by grind).trans<|kp b o t e;have I:lA prog w h d a:=J.keep λo e=>(N.2 d f).trans e;have Q:=xg C;obtain⟨⟨o,n,X,g2,g3⟩,U⟩:=O _ Q;have L:=g _ _ (B _ _ X) X;dsimp only;refine ao<|jf<|ao<|rz<|OP (s:={ s with heap:=h}) L g2 g3 ?_;dsimp only;refine jf ?_;obtain⟨ob,E,n',gg,_⟩:=id U;refine wpAny_dictSet_heap (knd:=og<|cF prog w) (hsz:=by omega) (show A.in1.units<cH by grind) (Ht U (B _ _ gg) g) (I.up H O B g) λT dd u=>?_;refine a8 ⟨kX yh _,?_⟩;have D:∀b o,b<s0.objs.size->s0.get? b=some o->T.get? b=some o:=λb o t e=>(u.2 b<|by grind).trans<|g b o t e;have:=ih (i+1) { s with heap:=T,toks:=s.toks+(og<|cF prog w).draws (kP c[i].2.1)} (kf a c[i]) (by omega) C (y.at λo e=>(u.2 it<|ci f).trans e) (lA.of dd) (H.step Q) (by have:=Rb a c[i];omega) D λh3 M d3 k3=>by
   have e:(c.drop i).foldl kf a=(c.drop (i+1)).foldl kf (kf a c[i]):=by rw[w6 C,kv]
   grind
  grind
def Qm(v:A.handled=none)(m:s.heap.get? a=some { cls:=.type "list",data:=.seq p k,slots:=u})(q:∀(g:aJ)(h:Nat),(∀b o,s.heap.get? b=some o->g.get? b=some o)->Q none { s with heap:=g,toks:=h}):aw (aH j w) A (getAttr? (.ref a)<|jE "keys") Q E s:=by
 have r:∀t,xk { s with toks:=t} (.ref a) "list":=λt=>⟨_,m,rfl⟩
 have C:=list_getattribute;unfold getAttr?
 wp_walk
 rw[ZY.bind];refine a8 ?_;show aw _ A (call (.builtin "list.__getattribute__") [.ref a,.str (jE "keys") s.toks]) _ _ _;refine u_ ZY (r _) am_entry_list_getattribute (PySem.F.args_list_getattribute_2 _ _) (meets_getattribute_miss_list a p k u (jE "keys") s.toks Rk<|by decide) ⟨m,v,λg h e l=>?_⟩;have kp:=l.keeps;obtain⟨B,z,x⟩:=l.there;show aw _ A (ace (.ref a) (.str (jE "keys") s.toks) (.type "list") (.ref e) none false false) _ _ _;unfold ace;have d:xk { s with heap:=g,toks:=h} (.ref e) "AttributeError":=⟨_,x,rfl⟩
 refine ao<|tp (T:="AttributeError") (b:=true) d acd ?_;simp only[k6];show aw _ A (hookBehind (.type "list") none >>= _) _ _ _;unfold hookBehind;show aw _ A (qj (.type "list") (jE "__getattr__") >>= _) _ _ _;rw[list_getattr_none];refine ao<|a8 ?_;unfold hookOrError;show aw _ A (abQ (.ref a) (.str (jE "keys") s.toks) (.ref e) false false) _ _ _;unfold abQ;simp only[ab8,k6];refine ao<|wpAny_throw ?_;refine ao<|tp (T:="AttributeError") (b:=true) d acd ?_;simp only[k6];exact a8<|q g h kp
def N6(hh:A.handled=none)(hu:A.units+64<cH)(Z:s.heap.get? l=some { cls:=.type "list",data:=.seq m.toArray n,slots:=sl})(p:List (aa×(Int×Int)×aa×aa))(B:m=p.map λz=>.ref z.1)(hz:∀z∈p,Dn g w s.heap z)(hl:p.length<=bx)(q:∀C H,lA g w C s.heap.objs.size (p.foldl kf [])->(∀b o,s.heap.get? b=some o->C.get? b=some o)->Q (.ref s.heap.objs.size) { s with heap:=C,toks:=H}):aw (aH g w) A (call (.type "dict") [.ref l]) Q E s:=by
 refine NG (Q₁:=λv j=>v=.ref s.heap.objs.size/\j={ s with heap:=s.heap.push { cls:=.type "dict",data:=.dict #[]}}) PySem.F.kt_called_dict (PySem.F.kt_typeCall_dict_1 _) PySem.F.entry_dict_init (kt_code_dict_new _ ⟨rfl,rfl⟩) λv j y=>?_;obtain⟨rfl,rfl⟩:=y;have Y:(s.heap.push { cls:=.type "dict",data:=.dict #[]}).get? s.heap.objs.size=some { cls:=.type "dict",data:=.dict #[]}:=dM _ rfl;have k:∀b o,s.heap.get? b=some o->(s.heap.push { cls:=.type "dict",data:=.dict #[]}).get? b=some o:=λb o e=>bV _ e;have L:(s.heap.push { cls:=.type "dict",data:=.dict #[]}).objs.size=s.heap.objs.size+1:=iw _ _;generalize s.heap.push { cls:=.type "dict",data:=.dict #[]}=X at Y k L;have t:xk { s with heap:=X} (.ref s.heap.objs.size) "dict":=⟨_,Y,rfl⟩
 refine⟨t,PySem.F.args_dict_init_2 _ _,?_⟩;unfold Builtin.«dict.__init__» Builtin.Dict.selfAndRest Builtin.Dict.notOrdered;refine ao<|ao ?_;rw[aM<|by decide];refine ao<|AM t ?_;rw[aL<|by decide];refine a8 ?_;show aw _ A.in1.in1 (pure (s.heap.objs.size,[c7 l])) _ _ _;refine a8 ?_;show aw _ A.in1.in1 (Z3 "dict.__init__" s.heap.objs.size (.ref l) [] .none) _ _ _;unfold Z3;have O:=k _ _ Z;have I:xk { s with heap:=X} (.ref l) "list":=⟨_,O,rfl⟩
 refine ao<|AM I ?_;rw[aM<|by decide];refine ao<|Qm (s:={ s with heap:=X}) hh O λh H U=>?_;rw[aM<|by grind];refine ao<|u9 ?_;have N:=U _ _ O;refine ao<|uW (s:={ s with heap:=h,toks:=H}) ⟨_,N,rfl,n,rfl⟩ ?_;have b':∀b o,s.heap.get? b=some o->h.get? b=some o:=λb o e=>U b o<|k b o e;have D:=U _ _ Y;have S:s.heap.objs.size<h.objs.size:=cq D;refine a8 ⟨kX yh _,?_⟩;have T:∀b o,h.get? b=some o->(h.push { cls:=.type "list_iterator",data:=.fields #[.ref l,.int 0 0]}).get? b=some o:=λb o e=>bV _ e;have gi:(h.push { cls:=.type "list_iterator",data:=.fields #[.ref l,.int 0 0]}).get? h.objs.size=some { cls:=.type "list_iterator",data:=.fields #[.ref l,.int 0 0]}:=dM _ rfl;have:=S2 (A:=A.in1) (prog:=g) (w:=w) (R:=wants (λr u=>r=tD/\Q (c7 s.heap.objs.size) u) E) (s0:=s.heap) (d:=s.heap.objs.size) (it:=h.objs.size) (l:=l) (its:=m) hh (by grind) p B hz ⟨_,Z,rfl,n,rfl⟩ hl rfl S
  p.length 0 { s with heap:=h.push { cls:=.type "list_iterator",data:=.fields #[.ref l,.int 0 0]},toks:=H} [] rfl (j0 _) ⟨_,gi,rfl,rfl⟩ ⟨_,#[],0,T _ _ D,⟨rfl,rfl,rfl⟩,rfl,rfl,Nw⟩ (λx hx=>by cases hx) (cs _) (by grind)
  λC J d' k'=>⟨rfl,q C J d' λb o e=>k' b o (cq e) e⟩
 omega
open Sy(Pt)
def Og(d:aa)(e:(d==kz)=false)(o:bD)(c:Array Fe)(i:Nat)(f:o.data=.dict c i):Meets (Builtin.«dict.__len__» ⟨[.ref d],[]⟩) (λ_ R s=>s.heap.get? d=some o/\R (.ok<|.ret<|.int c.size s.toks) { s with toks:=s.toks+1}):=
 .of_wp λb w A R s h=>by
  obtain⟨k,g,m,j,os⟩:=s;obtain⟨l,h⟩:=h
  wp_walk
  rw[f];refine a8<|a8 ?_;unfold Builtin.Dict.pendingCount;rw[e]
  wp_walk
  grind
abbrev dq:=(Pt×Pt)×aa×aa
def conv(x:dq):List bg×aa×af:=(kP x.1.1,x.2.1,.ref x.2.2)
def pY(P:a0)(w:aT)(a:List dq)(d:aa):HO:=.ext λh=>a.length<=bx/\(d==kz)=false/\lA P w h d (a.map conv)
def sN(P:a0)(w:aT)(a:List dq):Dt:=.ext (pY P w a) (a.map (λx=>V.ref x.2.1)++a.map λx=>V.ref x.2.2)<|a.map (λx=>dP x.1.1)++a.map λx=>dP x.1.2
def iL(a:List dq)(z:dq):List dq:=if a.any (λx=>decide<|x.1.1=z.1.1)=true then a.map (λx=>if x.1.1=z.1.1 then((x.1.1,z.1.2),x.2.1,z.2.2) else x) else a++[z]
def kh(a:List (Pt×Pt))(z:Pt×Pt):List (Pt×Pt):=if a.any (λx=>decide<|x.1=z.1)=true then a.map (λx=>if x.1=z.1 then(x.1,z.2) else x) else a++[z]
def S8(a:List dq)(z:dq):(iL a z).map (·.1)=kh (a.map (·.1)) z.1:=by
 unfold iL kh;rw[E8];by_cases h:a.any (λx=>decide<|x.1.1=z.1.1)=true
 ·rw[aM h,aM (by exact h),d_,d_];apply xa;grind
 grind
def Sb(b:List dq)(p:Pt):(atKey (b.map conv)<|kP p).isSome=b.any λx=>decide (x.1.1=p):=by
 rw[atKey.eq_1,M_,mM,aby,lV];constructor
 ·rintro⟨y,c,h⟩;obtain⟨x,a,rfl⟩:=cY.mp c;exact⟨x,a,kC<|K1<|fB h⟩
 ·rintro⟨x,a,h⟩;exact⟨_,cY.mpr ⟨x,a,rfl⟩,kC<|by show kP x.1.1=kP p;grind⟩
def Su(a:List dq)(z:dq)(t:aa):(iL a z).map conv=kf (a.map conv) (t,z.1.1,z.2.1,z.2.2):=by
 unfold kf;rw[storedH.eq_1,Sb];unfold iL;by_cases h:a.any (λx=>decide<|x.1.1=z.1.1)=true
 ·rw[aM h,aM (by exact h),d_,d_];apply xa;intro x _;show conv (if x.1.1=z.1.1 then((x.1.1,z.1.2),x.2.1,z.2.2) else x)=ve (kP z.1.1) (.ref z.2.2) (conv x);unfold ve;by_cases q:x.1.1=z.1.1
  ·rw[aM q,aM<|show(conv x).1=kP z.1.1 by show kP x.1.1=_;rw[q]];rfl
  ·rw[aL q,aL<|show ¬(conv x).1=kP z.1.1 from λe=>q<|K1 e]
 ·rw[aL h,aL (by exact h),dw];rfl
def RP(a:List dq)(z:dq):(iL a z).length<=a.length+1:=by unfold iL;grind
def Gz:∀(b a:List dq),(b.foldl iL a).length<=a.length+b.length
 |[],a=>cs _
 |z::b,a=>by rw[kv,dI];have:=Gz b<|iL a z;have:=RP a z;omega
def Hv:∀(a b:List dq),(a.foldl iL b).map (·.1)=(a.map (·.1)).foldl kh (b.map (·.1))
 |[],b=>rfl
 |z::a,b=>by rw[kv,dB,kv,Hv a,S8]
def F3:∀(b:List (aa×dq))(a:List dq),((b.map (·.2)).foldl iL a).map conv=(b.map λt=>(t.1,t.2.1.1,t.2.2.1,t.2.2.2)).foldl kf (a.map conv)
 |[],a=>rfl
 |t::b,a=>by rw[dB,kv,dB,kv,F3 b,Su a t.2 t.1]
def i5(K:ax)(H:Hp)(a:List dq):Prop:=∀x∈a,Dx K H (.ref x.2.1) (dP x.1.1)/\Dx K H (.ref x.2.2) (dP x.1.2)
def i5.eO(h:i5 c H e)(i:Dx c H (.ref z.2.1) (dP z.1.1))(g:Dx c H (.ref z.2.2) (dP z.1.2)):i5 c H (iL e z):=by
 unfold iL;split
 ·intro x d;obtain⟨y,f,rfl⟩:=cY.mp d;obtain⟨a,b⟩:=h y f;grind
 ·intro x d;rcases eI.mp d with d|d;·exact h x d
  grind
def i5.LZ:∀{c b:List dq},i5 a H b->i5 a H c->i5 a H (c.foldl iL b)
 |[],b,h,_=>h
 |z::c,b,h,d=>by rw[kv];exact i5.LZ (h.eO (d z cc).1 (d z cc).2) λx e=>d x<|e8 _ e
def JC{b:List dq}(f:dq->aa)(g:dq->Pt)(h:∀x∈b,Dx a H (.ref (f x)) (dP (g x))):bu a H (b.map λx=>V.ref<|f x) (b.map λx=>dP<|g x):=by
 induction b with
 |nil=>exact .nil
 |cons x b c=>exact .cons (h x cc)<|by grind
def HA{b:List dq}(f:dq->aa)(g:dq->Pt)(h:bu a H (b.map λx=>V.ref<|f x) (b.map λx=>dP<|g x)):∀x∈b,Dx a H (.ref (f x)) (dP (g x)):=by
 induction b with
 |nil=>grind
 |cons y b c=>
  cases h with
  |cons e d=>grind
def bu.split:∀{f i:List V}{g j:List Dt},f.length=g.length->bu c H (f++i) (g++j)->bu c H f g/\bu c H i j
 |[],_,[],_,_,h=>⟨.nil,h⟩
 |x::f,_,d::g,_,e,h=>by
  cases h with
  |cons l k=>obtain⟨a,b⟩:=bu.split (by grind) k;exact⟨.cons l a,b⟩
def i5.to(h:i5 a H b):bu a H (b.map (λx=>V.ref x.2.1)++b.map λx=>V.ref x.2.2) (b.map (λx=>dP x.1.1)++b.map λx=>dP x.1.2):=(JC (λx=>x.2.1) (λx=>x.1.1) λx c=>(h x c).1).append (JC (λx=>x.2.2) (λx=>x.1.2) λx c=>(h x c).2)
def i5.of(h:bu c H (d.map (λx=>V.ref x.2.1)++d.map λx=>V.ref x.2.2) (d.map (λx=>dP x.1.1)++d.map λx=>dP x.1.2)):i5 c H d:=by obtain⟨a,b⟩:=bu.split (by grind) h;exact λx e=>⟨HA (λx=>x.2.1) (λx=>x.1.1) a x e,HA (λx=>x.2.2) (λx=>x.1.2) b x e⟩
def Ia:∀{j:List V}{i:List (Pt×Pt)},bu d H j (i.map re)->∃f:List (aa×dq),j=f.map (λt=>V.ref t.1)/\f.map (λt=>t.2.1)=i/\∀t∈f,cV d H t.1 [.ref t.2.2.1,.ref t.2.2.2]/\Dx d H (.ref t.2.2.1) (dP t.2.1.1)/\Dx d H (.ref t.2.2.2) (dP t.2.1.2)
 |_,[],h=>by cases h;simp
 |_,e::i,h=>by
  cases h with
  |cons l k=>
   obtain⟨f,v,u,s⟩:=Ia k;cases l with
   |@a9 a _ _ p g=>
    cases g with
    |cons n g=>
     cases g with
     |cons m g=>cases g;obtain⟨b,rfl,r⟩:=ig n;obtain⟨c,rfl,q⟩:=ig m;refine⟨(a,e,b,c)::f,by grind,by grind,λt o=>?_⟩;grind
def WF(X:Cx):List V->Hp->VK->Prop:=λb H Q=>∃(l:aa)(a:List (aa×dq)),b=[V.ref l]/\bi X.K H l (a.map λt=>V.ref t.1)/\(∀t∈a,cV X.K H t.1 [.ref t.2.2.1,.ref t.2.2.2]/\cV X.K H t.2.2.1 [.int t.2.1.1.1,.int t.2.1.1.2])/\
 ∀p,H p=none->Q (.ref p) (bv H p (pY X.prog X.w ((a.map (·.2)).foldl iL []) p))
def Ib:∀{c:List (aa×dq)}{b:List af},bF (c.map λt=>V.ref t.1) b->b=c.map λt=>c7 t.1
 |[],_,a=>by cases a;rfl
 |t::c,_,a=>by
  cases a with
  |cons d a=>cases d;rw[Ib a];rfl
def GL:∀{b:List dq}{z:dq},z∈b->((b.map conv).map (·.1)).Nodup->(b.map conv).find? (λx=>decide<|x.1=kP z.1.1)=some (conv z)
 |[],z,a,_=>by cases a
 |y::b,z,a,c=>by
  rw[dB,dB,kW] at c;rw[dB,rs];by_cases q:(conv y).1=kP z.1.1
  ·rw[kC q];rcases cO.mp a with rfl|a;·rfl
   ·exact cy (by rw[q];exact cY.mpr ⟨conv z,(by grind),rfl⟩) c.1
  ·rw[mX q];rcases cO.mp a with rfl|a;·exact cy rfl q
   ·exact GL a c.2
def RN(hc:X.cX=true)(R:X.A.units+64<cH):gU X (.type "dict") (WF X):=by
 intro x s σ H vs us Q I r h;obtain⟨l,c,rfl,T,S,q⟩:=h;rw[bF.nA r];obtain⟨m,v,⟨⟨b',dd,E,sl⟩,n,Y,j,i,B⟩,e⟩:=I.list T;simp only at j B i;subst j B i;have p:=v.length;rw[bS] at p e;have f:m=(c.map λt=>(t.1,t.2.1.1,t.2.2.1,t.2.2.2)).map λz=>c7 z.1:=by rw[d_];exact Ib v
 refine N6 (I.ok.hd hc) R Y _ f (λz O=>?_) (by grind) λh' J d kp=>?_
 ·obtain⟨t,u,rfl⟩:=cY.mp O;obtain⟨D,C⟩:=S t u;refine⟨?_,wc I C⟩;obtain⟨y,b,⟨o,U,a',n2,Z⟩,_⟩:=I.tuple D;cases b with
  |cons M b=>
   cases b with
   |cons L b=>cases b;cases M;cases L;grind
 ·have ec:((c.map (·.2)).foldl iL []).map conv=(c.map λt=>(t.1,t.2.1.1,t.2.2.1,t.2.2.2)).foldl kf []:=F3 c [];rw[<-ec] at d;have N:=Gz (c.map (·.2)) [];rw[bS] at N;refine⟨.ref s.heap.objs.size,_,I.ij (a:=s.heap.objs.size) (o:=pY X.prog X.w ((c.map (·.2)).foldl iL []) s.heap.objs.size) (t':=J) kp (cs _) ⟨⟨?_,beq_eq_false_iff_ne.mpr<|ci<|fg I.jS,d⟩,?_,?_⟩,rfl,q _<|I.a_.fresh<|cs _⟩;·grind
  ·obtain⟨o,_,_,g,_⟩:=d;grind
  ·exact λD C⟨a1,a2,a3⟩k=>⟨a1,a2,a3.keep k⟩
def Tn(I:Inv X c v H s)(h:H d=some (pY X.prog X.w a d))(i:i5 X.K H a):
 a.length<=bx/\(d==kz)=false/\s.heap.DictOfH (og<|cF X.prog X.w) d (a.map conv):=by
 obtain⟨⟨q,p,o,t,u,g,r,m,l,j⟩,_,_⟩:=(show eA X.prog X.w H s.heap d (pY X.prog X.w a d) from I.a_ d _ h)
 refine⟨q,p,o,t,u,g,r,m,l,λx k=>?_,j⟩;obtain⟨y,f,rfl⟩:=cY.mp k;obtain⟨b,e,n⟩:=ig (i y f).1;cases e;exact wc I n
def X9(X:Cx):List V->Hp->VK->Prop:=λb H Q=>∃(d:aa)(a:List dq),b=[V.ref d]/\H d=some (pY X.prog X.w a d)/\Q (.int a.length) H
def Uj:gU X (.builtin "len") (X9 X):=by
 intro f s u H v x Q I r h;obtain⟨d,e,rfl,l,q⟩:=h;rw[bF.nA r];obtain⟨⟨z,m,o,c,t,g,p,b,k,y⟩,_,_⟩:=(show eA X.prog X.w H s.heap d (pY X.prog X.w e d) from I.a_ d _ l)
 have a:c.size=e.length:=by have:=c9 u6 k;grind
 have j:=fu;refine call_len_meets (T:="dict") (n:=c.size) ⟨o,g,p.1⟩ PySem.F.slot_dict_len PySem.F.entry_dict_len (PySem.F.args_dict_len_1 _) (Og d m o c t b) (by omega) (by omega) (λA i=>⟨g,i⟩) ?_;rw[a];exact⟨.int _,H,I.jb _,⟨_,rfl⟩,q⟩
def Ys(X:Cx)(g f:TE):TE:=λe H Q=>g e H λx h=>f e h λy a=>∃(d b:aa)(c:List dq)(z:dq),x=.ref d/\y=.ref b/\a d=some (pY X.prog X.w c d)/\i5 X.K a c/\z∈c/\cV X.K a b [.int z.1.1.1,.int z.1.1.2]/\Q (.ref z.2.2) a
def Vr(B:X.A.units+1<cH)(E:PE X o l)(L:PE X i k)(D:uB i):PE X (.Subscript o i t) (Ys X l k):=by
 intro a s g H Q I h;refine CF MC.lookup D<|bH (E a s g H _ I h) λu m⟨x,U,S,p,r⟩=>bH (L a m g U _ S r) λZ Y⟨y,T,f,n,d,b,j,z,R,O,M,w,v,N,q⟩=>?_;subst R O;cases p;cases n;obtain⟨hl,C,e⟩:=Tn f M w;have c:atKey (j.map conv) (kP z.1.1)=some (z.2.1,.ref z.2.2):=by obtain⟨o,es,ep,_,_,_,_,_,J⟩:=e;rw[atKey.eq_1];rw[GL v J];rfl
 exact⟨e.typeIs,acb (EI B) (wc f N) e c ⟨.ref z.2.2,T,f.jb _,rfl,q⟩⟩
def wR(K:ax)(M:Mh)(c:aG)(d:Dt):TE:=λb H Q=>Cm K M H b c/\∀v a,aW (aI (aE M) H) (aI (aE M) a)->Mm K M a->Dx K (aI (aE M) a) v d->Q v a
def Mg(K:ax)(M:Mh)(d:aG)(b:Bool):TT:=λc H Q=>Cm K M H c d/\∀a,aW (aI (aE M) H) (aI (aE M) a)->Mm K M a->Q b a
def RT(X:Cx)(e:az)(M:Mh)(a:aG)(b:Bool):Prop:=PT X e<|Mg X.K M a b
def RE.to(h:RE X e M a d):PE X e (wR X.K M a d):=PE.aN h λc H Q⟨b,q⟩=>⟨b,(by grind)⟩
def RE.mk(h:PE X e (wR X.K M a d)):RE X e M a d:=PE.aN h λc H Q⟨b,q⟩=>⟨b,(by grind)⟩
def Cm.go(c:Cm a M H d e)(s:aW (aI (aE M) H) (aI (aE M) b))(m:Mm a M b):Cm a M b d e:=⟨m,c.cd.to m s⟩
def zL{R:V->V->Hp->Prop}(c:Cm a M H d e)(k:∀x y b,aW (aI (aE M) H) (aI (aE M) b)->Mm a M b->Dx a (aI (aE M) b) x o->Dx a (aI (aE M) b) y n->R x y b):wR a M e o d H λx h=>wR a M e n d h λy b=>R x y b:=⟨c,λx h g j m=>⟨c.go g j,λy b f i l=>k x y b (g.trans f) i (m.same f) l⟩⟩
def gK(h:DT X e b k):RT X e M b k:=PT.aN h λd H Q⟨a,q⟩=>⟨aE M,a.cd,λc s=>q c (ca s)<|a.mm.same s⟩
def Wb(g:RE X a M c (dP p))(f:RE X b M c (dP q))(e:X.A.units+64<cH):RT X (.Compare a [.NotEq] [b] d) M c (!decide (p=q)):=PT.aN (IT (KZ e) g.to f.to<|qK b) λl H Q⟨j,k⟩=>zL j λx y n s m i h=>⟨_,_,qQ<|i.same bm,qQ<|h.same bm,by rfl,by rfl,by rw[vW];grind⟩
def Kz(n:DE X o a (.aD q))(p:DE X i a (.int j))(m:M q=some (.ob<|.aq z))(r:e5 z j=some d)(l:t_ i:=by intro _ _;rfl):RE X (.Subscript o i f) M a d:=RE.mk (PE.aN (wf yO n p l) λB H Q⟨c,k⟩=>nG c.cd λu w A s x t=>by cases x;cases t;have b:=c.mm.same s;obtain⟨C,g,y⟩:=iE b m;obtain⟨v,e,h⟩:=wb y r;exact⟨_,_,j,v,rfl,rfl,bi.of g,e,k v A (ca s) b h⟩)
def Ji(n:RE X o M c (sN X.prog X.w d))(p:RE X i M c (dP z.1.1))(e:z∈d)(h:X.A.units+1<cH)(j:uB i:=by intro _ _;rfl):RE X (.Subscript o i g) M c (dP z.1.2):=
 RE.mk (PE.aN (Vr h n.to p.to j) λC H Q⟨y,k⟩=>zL y λu w B s m v t=>by
  cases v with
  |ext l r=>obtain⟨b,rfl,q⟩:=ig t;have a:=i5.of r;exact⟨_,b,d,z,rfl,rfl,bm _ _ l,λx f=>⟨(a x f).1.same bm,(a x f).2.same bm⟩,e,et bm q,k _ B s m (a z e).2⟩)
def Jv(l:DE X a d (sN X.prog X.w b))(i:X.mg "len"=none)(j:Gl X "len":=by rfl)(c:aB [a] X.ae=(false,aO a X.ae)::aB [] X.ae:=by rfl):DE X (.Call (.Name "len" p) [a] [] e) d (.int b.length):=
 jI Uj (ah l au c) (λF m H Q n h k=>by
  obtain⟨v,rfl,f⟩:=hE h;cases f with
  |ext g o=>exact⟨_,b,rfl,bm _ _ g,k _ H (aW.refl H)<|.int _⟩) i (by rfl) j (by decide) (by decide) c rfl
def Sa{es:List (Pt×Pt)}(O:DE X a u (.aq<|es.map re))(i:X.mg "dict"=none)(L:X.cX=true)(D:X.A.units+64<cH)(J:Gl X "dict":=by rfl)(n:aB [a] X.ae=(false,aO a X.ae)::aB [] X.ae:=by rfl):
 ME X (.Call (.Name "dict" p) [a] [] y) M u λM' d=>M'=M/\∃f:List dq,d=sN X.prog X.w f/\f.map (·.1)=es.foldl kh []:=
 PE.aN (BL (RN L D) J i (by rfl) (ah O au n) (by decide) (by decide) n rfl) λσ H Q⟨j,q⟩=>kH j.cd λf r s h=>by
  obtain⟨v,rfl,C⟩:=hE h;cases C with
  |aq I S=>
   obtain⟨c,Z,Y,E⟩:=Ia S;refine⟨_,c,rfl,by rw[<-Z];exact bi.of<|bm _ _ I,λt i=>?_,λl m=>?_⟩
   ·obtain⟨U,T,_⟩:=E t i;obtain⟨b,e,N⟩:=ig T;cases e;exact⟨et bm U,et bm N⟩
   ·have R:=jJ (jj j.mm.tr s) m;have g:=gJ (o:=pY X.prog X.w ((c.map (·.2)).foldl iL []) l) m;have B:i5 X.K (aI (aE M) r) (c.map (·.2)):=λx k=>by grind
    have z:i5 X.K (aI (aE M) r) ((c.map (·.2)).foldl iL []):=i5.LZ (λx k=>by cases k) B;refine q _ _ M _ ⟨rfl,(c.map (·.2)).foldl iL [],rfl,?_⟩ (ca<|s.trans g) (j.mm.same<|s.trans g)<|.ext (lh R)<|z.to.same<|ca g;rw[Hv,<-Y,d_];rfl
def C0(q:RT X c M l k)(w:k=true->cf X A M l a)(u:k=false->cf X B M l a):MS X (.If c A B t) M l a:=by
 cases k with
 |true=>exact PS.aN (uk q (w rfl) qr) λD r H⟨j,o,n⟩=>⟨j,λx s m=>⟨j.go s m,λb i g e p f c=>o b i g e p (s.trans f) c,λv i g d p f m h=>n v i g d p (s.trans f) m h⟩⟩
 |false=>exact PS.aN (uk q qr<|u rfl) λD r H⟨j,o,n⟩=>⟨j,λx s m=>⟨j.go s m,λb i g e p f c=>o b i g e p (s.trans f) c,λv i g d p f m h=>n v i g d p (s.trans f) m h⟩⟩
def GK{X:Cx}{c:az}{f:List cv}{M:Mh}{C:aG}{N:bf}(J:Nat->Mh->aG->Prop)(S:Mh->Dt->Prop)(Y:Mh->aG->Prop){n:Nat}(h0:J n M C)
 (hb:∀m b a,J m b a->∃k,RT X c b a k/\(k=true->cf X f b a λM2 o=>match o with|.nx e=>∃l,l<m/\J l M2 e|.rt d=>S M2 d)/\(k=false->Y b a))
 (hp:o5 (aH X.prog X.w) X.A X.ae X.xe):MS X (.While c f [] N) M C λb o=>match o with|.nx a=>Y b a|.rt d=>S b d:=by
 let Z:Nat->Mh->eh->Prop:=λm M2 o=>match o with|.nx e=>∃l,l<m/\J l M2 e|.rt d=>S M2 d
 have O:PT X c (λq H Q=>∃b a k,RT X c b a k/\Mg X.K b a k q H Q):=λg s q H Q I⟨b,a,k,h,t⟩=>h g s q H Q I t;have R:dr X f (λD q H=>∃m b a,cf X f b a (Z m)/\sK X.K b a (Z m) D q H):=λg s q H D I⟨i,b,a,h,t⟩=>h g s q H D I t;refine PS.aN (Ip hp O R) λD q H⟨cm,q1,q2⟩=>⟨λm u T=>∃b a,J m b a/\Cm X.K b T u a/\aW (aI (aE M) H) (aI (aE b) T),⟨n,M,C,h0,cm,aW.refl _⟩,?_⟩
 rintro m u T ⟨b,a,j,z,L⟩;obtain⟨k,ht,hT,hF⟩:=hb m b a j;refine⟨b,a,k,ht,z,λH2 B m2=>?_⟩;have U:=z.go B m2;cases k with
 |false=>dsimp only;rw[aL gu];exact q1 u H2 b a (hF rfl) (L.trans B) U
 |true=>
  dsimp only;rw[aM rfl];refine⟨λr y=>∃l,l<m/\∃x e,J l x e/\Cm X.K x y r e/\aW (aI (aE M) H) (aI (aE x) y),λr y h=>h,m,b,a,hT rfl,U,λr y x e p E c3=>?_,λv y x d p E m3 h3=>?_⟩
  ·obtain⟨l,hm,j'⟩:=p;exact⟨l,hm,x,e,j',c3,(L.trans B).trans E⟩
  ·exact q2 v y x d p ((L.trans B).trans E) m3 h3
def iJ(l:List (Int×Dt))(i:Int):Option Dt:=(l.find? λx=>decide<|x.1=i).map (·.2)
def sf(l:List (Int×Dt))(i:Int)(d:Dt):List (Int×Dt):=if(l.any λx=>decide<|x.1=i)=true then l.map (λx=>if x.1=i then(x.1,d) else x) else l++[(i,d)]
def uu(l:List (Int×Dt))(i:Int):List (Int×Dt):=l.filter λx=>decide<|x.1≠i
def Kp:((eX i:bg)=eX j)↔i=j:=by grind
def di.length:∀{b:List (bg×V)}{l:List (Int×Dt)},di a H b l->b.length=l.length
 |_,_,.nil=>rfl
 |_,_,.cons _ r=>by rw[dI,dI,di.length r]
def di.val:∀{b:List (bg×V)}{l:List (Int×Dt)}(i:Int),di a H b l->(∀d,iJ l i=some d->∃v,iN b (.inl i)=some v/\Dx a H v d)/\(iJ l i=none->iN b (.inl i)=none)
 |_,_,i,.nil=>⟨λd h=>(by cases h),λ_=>rfl⟩
 |_,_,i,.cons (i:=j) (v:=v) (d:=e) (r:=r) (ds:=c) h t=>by
  obtain⟨m,k⟩:=di.val i t;by_cases q:j=i
  ·have g:iJ ((j,e)::c) i=some e:=by unfold iJ;grind
   have f:iN ((eX j,v)::r) (eX i:bg)=some v:=yo<|by grind
   grind
  ·have g:iJ ((j,e)::c) i=iJ c i:=by unfold iJ;grind
   have f:iN ((eX j,v)::r) (eX i:bg)=iN r (eX i):=yF λz=>q<|Kp.mp z;grind
def di.any:∀{b:List (bg×V)}{l:List (Int×Dt)}(i:Int),di a H b l->(b.any λc=>decide<|c.1=(.inl i:bg))=l.any λx=>decide (x.1=i)
 |_,_,i,.nil=>rfl
 |_,_,i,.cons (i:=j) h t=>by rw[rA,rA,di.any i t];grind
def di.sj:∀{b:List (bg×V)}{l:List (Int×Dt)}{i:Int}{v:V}{d:Dt},di a H b l->Dx a H v d->di a H (b.map λc=>if c.1=(.inl i:bg) then(c.1,v) else c) (l.map λx=>if x.1=i then(x.1,d) else x)
 |_,_,_,_,_,.nil,_=>.nil
 |_,_,i,v,d,.cons (i:=j) (v:=w) (d:=e) (r:=r) (ds:=m) h t,f=>by
  rw[dB,dB];by_cases q:j=i
  ·have k:(if((eX j,w):bg×V).1=(eX i:bg) then(((eX j,w):bg×V).1,v) else(eX j,w))=(eX j,v):=aM<|Kp.mpr q;have g:(if((j,e):Int×Dt).1=i then(((j,e):Int×Dt).1,d) else(j,e))=(j,d):=aM q;rw[k,g];exact .cons f<|di.sj t f
  ·have k:(if((eX j,w):bg×V).1=(eX i:bg) then(((eX j,w):bg×V).1,v) else(eX j,w))=(eX j,w):=by grind
   have g:(if((j,e):Int×Dt).1=i then(((j,e):Int×Dt).1,d) else(j,e))=(j,e):=aL q;rw[k,g];exact .cons h<|di.sj t f
def di.app:∀{b:List (bg×V)}{l:List (Int×Dt)}{i:Int}{v:V}{d:Dt},di a H b l->Dx a H v d->di a H (b++[(.inl i,v)]) (l++[(i,d)])
 |_,_,_,_,_,.nil,c=>.cons c .nil
 |_,_,_,_,_,.cons h t,c=>.cons h<|di.app t c
def di.eO(h:di a H b l)(c:Dx a H v d):di a H (i_ b (.inl i) v) (sf l i d):=by
 unfold i_ sf;rw[h.any i];split;·exact h.sj c
 ·exact h.app c
def di.drop:∀{b:List (bg×V)}{l:List (Int×Dt)}(i:Int),di a H b l->di a H (qR b (.inl i)) (uu l i)
 |_,_,_,.nil=>.nil
 |_,_,i,.cons (i:=j) (v:=w) (d:=e) (r:=r) (ds:=f) h t=>by
  have c:=di.drop i t;unfold qR uu at c ⊢;by_cases q:j=i;·grind
  ·rw[aaG (by simp[q]),aaG<|by simp[q]];exact .cons h c
def SK(D:DE X o n (.cE l))(I:DE X e n (.int j))(E:DE X f n d)(C:X.A.units+1<cH)(m:M2 X o "get" g e f p:=by constructor<;>rfl):DE X (.Call (.Attribute o "get" g) [e,f] [] p) n ((iJ l j).getD d):=
 PE.aN (TM C D I E m) λR H Q⟨F,s,k⟩=>⟨F,s,λv Y i M=>by
  cases M with
  |@cE a b _ u J=>
   refine⟨a,rfl,.inl ⟨b,.inl<|bm _ _ u⟩,F,s.same i,λy U c L=>?_⟩;cases L;refine⟨F,s.same<|i.trans c,λz t h T=>?_⟩;have q:t a=some (.dK b):=h _ _<|c _ _<|bm _ _ u;have r:=J.same<|ca<|c.trans h;refine⟨iN b<|.inl j,pJ.k (k:=.inl j) q,?_⟩;obtain⟨B,x⟩:=r.val j;cases w:iJ l j with
   |none=>rw[x w];exact k _ t (i.trans<|c.trans h)<|by grind
   |some O=>obtain⟨v,N,S⟩:=B O w;rw[N];exact k _ t (i.trans<|c.trans h)<|by grind⟩
def WI(n:DE X o b (.cE l))(p:DE X i b (.int j))(q:iJ l j=some d)(g:X.A.units+1<cH)(h:uB i:=by intro _ _;rfl):DE X (.Subscript o i c) b d:=
 PE.aN (Ui g n p h) λC H Q⟨F,z,k⟩=>nG z λu w B s x t=>by
  cases x with
  |@cE a e _ m r=>cases t;obtain⟨v,y,f⟩:=(r.val j).1 d q;exact⟨a,v,rfl,by rw[<-y];exact pJ.k (k:=.inl j)<|bm _ _ m,k v B s f⟩
def Qd(j:DE X a c (.cE l))(g:X.mg "len"=none)(i:Gl X "len":=by rfl)(b:aB [a] X.ae=(false,aO a X.ae)::aB [] X.ae:=by rfl):DE X (.Call (.Name "len" p) [a] [] d) c (.int l.length):=
 jI QT (ah j au b) (λF n H Q o h k=>by
  obtain⟨v,rfl,e⟩:=hE h;cases e with
  |cE f m=>exact⟨_,_,rfl,bm _ _ f,by rw[m.length];exact k _ H (aW.refl H)<|.int _⟩) g (by rfl) i (by decide) (by decide) b rfl
def VM:gU X (.type "dict") (λc H Q=>∃a b,c=[V.ref a]/\H a=some (.dK b)/\∀p,H p=none->Q (.ref p) (bv H p (.dK b))):=by intro d s i H c j Q I r h;obtain⟨a,b,rfl,f,q⟩:=h;rw[bF.nA r];exact R6 I (.inl f) λp k e g=>⟨.ref p,_,g,rfl,q p e⟩
def TB(w:DE X a j (.cE l))(t:X.mg "dict"=none)(u:Gl X "dict":=by rfl)(g:aB [a] X.ae=(false,aO a X.ae)::aB [] X.ae:=by rfl):
 ME X (.Call (.Name "dict" p) [a] [] k) M j λy d=>∃q,M q=none/\y=bo M q (.ob (.cE l))/\d=.aD q:=
 PE.aN (BL VM u t (by rfl) (ah w au g) (by decide) (by decide) g rfl) λz H Q⟨i,q⟩=>kH i.cd λA B s h=>by
  obtain⟨v,rfl,n⟩:=hE h;cases n with
  |@cE a b _ r x=>refine⟨_,b,rfl,bm _ _ r,λf c=>?_⟩;have e:=i.mm.same s;have v:=hH (M:=M) (m:=.ob<|.cE l) (o:=.dK b)<|.inr c;exact q _ _ _ _ ⟨f,pi e c,rfl,rfl⟩ (by rw[v];exact ca s) (e.eO (.inr c)<|.cE x)<|.aD f
def JD(m:Mm b M H)(d:M q=some (.ob<|.cE l)):∃c,H q=some (.dK c)/\di b (aI (aE M) H) c l:=by
 obtain⟨o,e,r⟩:=m q _ d;cases r with
 |cE a=>grind
def Je(Q:DE X o a (.aD q))(T:DE X i a (.int j))(L:DE X e a d)(u:M q=some (.ob<|.cE l))(R:l.length<bx)(N:X.A.units+1<cH)(O:jg e (some<|.Subscript o i c) r.line X.ae=pure false:=by rfl):
 MS X (.Assign [.Subscript o i c] e r) M a λM' s=>∃b,s=.nx b/\b=a/\M'=bo M q (.ob (.cE (sf l j d))):=
 PS.aN (VL N Q T L O) λD I H⟨f,J,q2⟩=>⟨aE M,f.cd,λv H1 h Z=>⟨aE M,f.cd.same h,λx H2 g Y=>by
  cases Y;refine⟨aE M,f.cd.same<|h.trans g,λy H3 n U=>?_⟩;cases U;have C:=f.mm.same<|h.trans<|g.trans n;obtain⟨t,S,E⟩:=JD C u;have w:=E.eO (i:=j)<|Z.same<|ca<|g.trans n;refine⟨q,_,rfl,wI.k (k:=.inl j) S (by rw[E.length];exact R),?_⟩;have B:=C.eO (p:=q) (m:=.ob<|.cE<|sf l j d) (.inl<|gc u)<|.cE w;have z:aW (aI (aE M) H) (aI (aE (bo M q (.ob (.cE (sf l j d))))) (bv H3 q (.dK (i_ t (.inl j) v)))):=by rw[hH<|.inl<|gc u];exact ca<|h.trans<|g.trans n
  exact J I _ _ a ⟨a,rfl,rfl,rfl⟩ z ⟨B,f.cd.to B z⟩⟩⟩
def U0(A:DE X o s (.aD q))(B:DE X e s (.int j))(i:M q=some (.ob<|.cE l))(C:iJ l j=some d)(m:M1 X o "pop" c e h:=by constructor<;>rfl):
 ME X (.Call (.Attribute o "pop" c) [e] [] h) M s λL r=>L=bo M q (.ob<|.cE<|uu l j)/\r=d:=
 PE.aN (SJ A B m) λO H Q⟨p,k⟩=>⟨aE M,p.cd,λx S g E=>by
  cases E;have t:=p.mm.same g;obtain⟨a,u,J⟩:=JD t i;refine⟨q,rfl,.inl ⟨a,.inl u⟩,aE M,p.cd.same g,λy N f D=>?_⟩;cases D;have z:=t.same f;have n:=f _ _ u;have b:=J.same<|ca f;obtain⟨v,I,R⟩:=(b.val j).1 d C;have w:=hH (M:=M) (H:=N) (m:=.ob<|.cE<|uu l j) (o:=.dK<|qR a<|.inl j)<|.inl<|gc i;refine⟨a,.inl j,v,n,rfl,I,k _ _ _ _ ⟨rfl,rfl⟩ ?_ (z.eO (.inl<|gc i)<|.cE<|b.drop j) ?_⟩;·rw[w];exact ca<|g.trans f
  grind⟩
end L3
namespace L3
open PySem PySem.Spec PyProof.Rows L2
def xY:∀{l:List af}{ns:List Int},l.length=ns.length->(∀(j:Nat)(v:af),l[j]?=some v->∃n t,ns[j]?=some n/\v=.int n t)->iB l ns
 |[],[],_,_=>.nil
 |[],_::_,h,_=>by cases h
 |_::_,[],h,_=>by cases h
 |v::l,n::ns,h,k=>by obtain⟨m,t,b,a⟩:=k 0 v rfl;cases b;subst a;exact .cons _ _<|xY (by grind) λj u e=>by simpa using k (j+1) u (by grind)
def OD(K:PySem.W.KdlSrc i w T r d n f J)(H:A.handled=none)(j:J s.heap)(C:n<=bx)(h:∀(p:aJ)(t:Nat)(g:Array af),s.heap.objs.size<=p.objs.size->(∀b o,s.heap.get? b=some o->p.get? b=some o)->ItemsOf f g n->R g.toList { s with heap:=p,toks:=t}):aw (aH i w) A (collect<|.ref r) R E s:=by
 have k:=K.there s.heap j;unfold collect;refine ao<|wpAny_runValue<|nV entry_proto_collect' ?_;rw[nN PySem.F.plain_proto_collect];show aw _ _ (newList [] >>= _) _ _ _;refine ao<|uX<|a8 ⟨kX aal _,nV entry_list_iadd' ?_⟩;rw[nN aal];have I:(s.heap.push { cls:=.type "list",data:=.seq #[]}).get? s.heap.objs.size=some { cls:=.type "list",data:=.seq #[]}:=dM s.heap rfl;refine PySem.W.kdl_extend (R:=λr y=>match r with
  |.ok (.ret v)=>aw (aH i w) A (match v with
   |.ref a=>do
    let o <-load a;match o.data with
    |.seq B _=>pure B.toList
    |_=>unsupported "internal:collect"
   |_=>unsupported "internal:collect") R E y
  |.ok _=>False
  |.error e=>E e y) K H (K.keep s.heap _ j λb _ o e=>bV _ e) s.heap.objs.size (o4 k.1) (o4 k.2) (.ref s.heap.objs.size) 0 I (λp t g c D m l=>?_) C
 refine ao<|wpAny_load m<|a8 ?_;exact h p t g (AK<|cq m) (λb o e=>D b o (fg<|cq e)<|bV _ e) l
def Oq(hh:A.handled=none)(Y:(d==kz)=false)(hd:s.heap.DictAt (cF l w) d c ep)(R:c.map (·.1)=u.map eX)(X:c.length<=bx)(hQ:∀(a:aa)(I:aJ)(z:Nat)(y:Array af)(g:List Int)(ep:Nat),s.heap.objs.size<=a->(∀b o,s.heap.get? b=some o->I.get? b=some o)->I.get? a=some (seqObj "list" y ep)->iB y.toList g->g.Perm u->g.Pairwise (·<=·)->Q (.ref a) { s with heap:=I,toks:=z}):
 aw (aH l w) A (call (.builtin "sorted") [.ref d]) Q E s:=by
 refine call_function_any kind_sorted plain_sorted entry_sorted (args_sorted1 _) ?_;unfold Builtin.sorted;refine ao<|a8 ?_;refine ao<|OD (PySem.W.kdl_dict (knd:=cF l w) (kvs:=c) (ep:=ep) Y) hh hd X λr z h D U N=>?_;have O:h.size=c.length:=N.1;have Z:c.length=u.length:=by rw[<-bS (f:=(·.1)),R,bS]
 have p:iB h.toList u:=xY (by grind) λj v e=>by
  obtain⟨k,x,e1,e2⟩:=N.2 j v<|by grind
  have L:(c.map (·.1))[j]?=some k:=by grind
  rw[R,hZ] at L;cases e4:u[j]? with
  |none=>grind
  |some n=>
   rw[e4] at L;cases L;rcases mY (show se (eX n) v=true from e2) with⟨i,t,r,h2⟩|⟨i,t,r,h2⟩;·grind
   grind
 refine ao<|wpAny_newList ?_<|by grind
 refine ao<|jf ?_;have H:(r.push (seqObj "list" h.toList.toArray 0)).get? r.objs.size=some (seqObj "list" h.toList.toArray 0):=dM _ rfl;refine p9 PySem.F.slot_list_sort ⟨_,H,rfl⟩ PySem.F.entry_list_sort ?_<|PySem.F.args_list_sort_1 _;refine list_sort_treeAny (vs:=h.toList) (ns:=u) H p (by grind) λm g g1 g2 g3=>?_;obtain⟨J,he⟩:=sortedHeap_at (out:=m) H;refine⟨_,rfl,a8 ?_⟩;refine hQ r.objs.size _ z m g J D (λb o hb=>?_) he g1 g2 g3;have q:=U b o hb;have C:b<r.objs.size:=cq q;have B:b≠r.objs.size:=fg C;rw[sortedHeap_old B<|cq<|bV _ q];exact bV _ q
def Ph(e:X.cX=true):gU X (.builtin "sorted") (λx H Q=>∃(a:aa)(d:List (bg×V))(i:List Int),x=[V.ref a]/\H a=some (.dK d)/\d.map (·.1)=i.map eX/\
 ∀(c:List Int)(p:aa),c.Perm i->c.Pairwise (·<=·)->H p=none->Q (.ref p) (bv H p (.aq (c.map V.int)))):=by
 intro A s U H x Y Q I r h;obtain⟨a,d,i,rfl,D,v,q⟩:=h;rw[bF.nA r];obtain⟨z,N,L,g,o,T,J,C,B,m,y⟩:=oE I.a_<|.inl D;have u:L.map (·.1)=i.map eX:=by
  rw[<-v];clear v C B m y z D;induction g with
  |nil=>rfl
  |cons h _ ih=>grind
 have t:d.length=i.length:=by rw[<-bS (f:=(·.1)),v,bS]
 refine Oq (I.ok.hd e) N (ep:=J) ⟨o,T,C,B,m,y⟩ u (by rw[<-g.length];exact z) λb h' M n c w l k O S E R=>?_;have j:(c.map V.int).length<=bx:=by rw[bS,E.length_eq,<-t];exact z
 exact⟨.ref b,bv H b<|.aq<|c.map V.int,I.ij (t':=M) k l ⟨j,n.toList,w,A2 S,O⟩,rfl,q c _ E R<|I.a_.fresh l⟩
def HV:∀{b:List (bg×V)}{l:List (Int×Dt)},di a H b l->b.map (·.1)=(l.map (·.1)).map eX
 |_,_,.nil=>rfl
 |_,_,.cons _ r=>by rw[dB,dB,dB,HV r]
def Pa{S:List Int}(r:DE X a f (.cE l))(s:∀c:List Int,c.Perm (l.map (·.1))->c.Pairwise (·<=·)->c=S)(n:X.mg "sorted"=none)(q:X.cX=true)(o:Gl X "sorted":=by rfl)(e:aB [a] X.ae=(false,aO a X.ae)::aB [] X.ae:=by rfl):
 DE X (.Call (.Name "sorted" p) [a] [] i) f (.aq<|S.map .int):=
 jI (Ph q) (ah r au e) (λF x H Q g h k=>by
  obtain⟨v,rfl,j⟩:=hE h;cases j with
  |cE m t=>refine⟨_,_,l.map (·.1),rfl,bm _ _ m,HV t,λc b w u d=>?_⟩;rw[s c w u];exact k _ _ (gJ d)<|.aq (lh<|jJ g d)<|bu.ub _) n (by rfl) o (by decide) (by decide) e rfl
def ny(f:ak)(d:Dt):List (ak×Dt)->List (ak×Dt)
 |[]=>[(f,d)]
 |(g,x)::r=>if g=f then(g,d)::r else(g,x)::ny f d r
def gV.eO(b:Dx a H v d):∀{c:List (ak×V)}{e:List (ak×Dt)},gV a H c e->gV a H (il f v c) (ny f d e)
 |_,_,.nil=>.cons b .nil
 |_,_,.cons (f:=g) h r=>by
  unfold il ny;by_cases q:g=f
  ·rw[aM q,aM q];exact .cons b r
  ·rw[aL q,aL q];exact .cons h<|gV.eO b r
def gV.length:∀{b:List (ak×V)}{c:List (ak×Dt)},gV a H b c->b.length=c.length
 |_,_,.nil=>rfl
 |_,_,.cons _ r=>by rw[dI,dI,gV.length r]
def ZK(K:ax)(M:Mh)(d:aG)(e:List Dt):TA:=λc H Q=>Cm K M H c d/\∀b a,aW (aI (aE M) H) (aI (aE M) a)->Mm K M a->bu K (aI (aE M) a) b e->Q b a
def RA(X:Cx)(b:List az)(M:Mh)(a:aG)(c:List Dt):Prop:=PA X b<|ZK X.K M a c
def dS(K:ax)(T:Mh->List Dt->(Mh->Dt->Prop)->Prop):Sp:=λe H Q _=>∃M c P,bu K (aI (aE M) H) e c/\Mm K M H/\T M c P/\
 ∀v b a d,P a d->aW (aI (aE M) H) (aI (aE a) b)->Mm K a b->Dx K (aI (aE a) b) v d->Q v b
def yX:RA X [] M c []:=PA.aN wa λb H Q⟨a,q⟩=>q [] H (aW.refl _) a.mm .nil
def ot(m:RE X e M b d)(l:RA X a M b p)(k:aB (e::a) X.ae=(false,aO e X.ae)::aB a X.ae:=by rfl):RA X (e::a) M b (d::p):=PA.aN (vL m.to l k) λs H Q⟨g,q⟩=>⟨g,λv t f j o=>⟨g.go f j,λh r c i n=>q (v::h) r (f.trans c) i<|.cons (o.same c) n⟩⟩
def jk(h:DA X d b e):RA X d M b e:=PA.aN h λg H Q⟨a,q⟩=>⟨aE M,a.cd,λc f s h=>q c f (ca s) (a.mm.same s) h⟩
def vO(m:Mm b M H)(d:M q=some (.ob<|.bA C f)):∃e c,H q=some (.bA C e c)/\gV b (aI (aE M) H) c f:=by
 obtain⟨o,g,r⟩:=m q _ d;cases r with
 |bA a=>grind
def gM(e:RE X o M a (.aD q))(c:M q=some (.ob<|.bA C j))(y:ju X.K C)(w:fe X.K C f)(g:j.lookup f=some d)(h:kx o f X.ae (aO o X.ae)=aO o X.ae:=by rfl):RE X (.Attribute o f b) M a d:=RE.mk (PE.aN (KU e.to h) λp H Q⟨n,k⟩=>⟨n,λv B s m i=>by cases i;obtain⟨A,z,x,l⟩:=vO m c;obtain⟨u,t,r⟩:=l.qW g;grind⟩)
def r8(l:RE X o M a (.aD q))(n:RE X i M a (.int j))(h:M q=some (.ob<|.aq y))(p:e5 y j=some d)(g:t_ i:=by intro _ _;rfl):RE X (.Subscript o i b) M a d:=RE.mk (PE.aN (wf yO l.to n.to g) λB H Q⟨z,k⟩=>zL z λu w A s m t r=>by cases t;cases r;obtain⟨C,c,x⟩:=iE m h;obtain⟨v,e,f⟩:=wb x p;exact⟨_,_,j,v,rfl,rfl,bi.of c,e,k v A s m f⟩)
def JR(n:RE X a M c (.aD q))(i:M q=some (.ob<|.aq r))(j:X.mg "len"=none)(l:Gl X "len":=by rfl)(b:aB [a] X.ae=(false,aO a X.ae)::aB [] X.ae:=by rfl):RE X (.Call (.Name "len" p) [a] [] e) M c (.int r.length):=RE.mk (PE.aN (B_ xJ l j (by rfl) (ot n yX b) (by decide) (by decide) b rfl) λw H Q⟨t,k⟩=>⟨t,λx u s m h=>by obtain⟨v,rfl,g⟩:=hE h;cases g;obtain⟨d,f,o⟩:=iE m i;exact⟨q,d,rfl,.inl<|bi.of f,by rw[o.length];exact k _ u s m<|.int _⟩⟩)
def Xc(f:RE X a M c (.int i))(e:RE X b M c (.int j)):RE X (.BinOp a .Sub b d) M c (.int<|i-j):=RE.mk (PE.aN (Lk KE f.to e.to) λo H Q⟨l,k⟩=>zL l λx y n s m h g=>by cases h;cases g;exact⟨i,j,rfl,rfl,k _ n s m<|.int _⟩)
def KR(f:RE X a M c d):RT X (.Compare a [.Is] [.Constant .none j b] e) M c (wm d):=PT.aN (KN<|C9 f.to) λi H Q⟨g,k⟩=>⟨g,λv l s m h=>⟨_,rfl,by rw[D1 h];grind⟩⟩
def B1(h:ME X e M c λb a=>∃q,M q=none/\b=bo M q (.ob d)/\a=.aD q):RE X e M c d:=RE.mk (PE.aN h λn H Q⟨j,k⟩=>⟨j,λv l b a⟨q,f,i,g⟩s m x=>by subst i g;cases x;have t:=o_ (m:=.ob d) f;have r:=m.free (p:=q) bL;have dl:=m.wX (p:=q);have o:=s.trans<|mf (M:=bo M q<|.ob d) (H:=l) (p:=q);grind⟩)
def xS{R:Mh->Dt->Prop}(B:RE X o M n (.aD q))(D:ME X e M n λg d=>R g d/\g q=some (.ob<|.aq ds))(C:ds.length<bx)(b:kx o "append" X.ae (aO o X.ae)=aO o X.ae:=by rfl)(a:(f.endLine==i.line)=true:=by rfl)(l:aB [e] X.ae=[(false,aO e X.ae)]:=by rfl)(A:M q=some (.ob<|.aq ds)):ME X (.Call (.Attribute o "append" f) [e] [] i) M n λg r=>∃M1 d,R M1 d/\g=bo M1 q (.ob (.aq (ds++[d])))/\r=.aS:=
 PE.aN (uj sO MM aae G6 B.to (vL D wa<|by rw[l];rfl) b (by rw[l];rfl) a (by rw[l];rfl) rfl) λI H Q⟨u,k⟩=>
  ⟨u,λv L p t E=>by cases E;obtain⟨w,z,_⟩:=iE t A;refine⟨.inl ⟨rfl,w,bi.of z⟩,u.go p t,λv J M2 d⟨r,m⟩y s x=>?_⟩;obtain⟨h,j,c⟩:=iE s m;refine⟨q,h,_,rfl,rfl,j,by rw[c.length];exact C,?_⟩;refine k _ _ _ _ ⟨M2,d,r,rfl,rfl⟩ ?_ (s.eO (.inl<|gc m)<|.aq<|c.append<|.one x) .aS;rw[hH<|.inl<|gc m];exact p.trans y⟩
def J_(x:RE X o M t (.aD q))(j:M q=some (.ob<|.aq<|f++[d]))(c:kx o "pop" X.ae (aO o X.ae)=aO o X.ae:=by rfl)(b:(g.endLine==h.line)=true:=by rfl):ME X (.Call (.Attribute o "pop" g) [] [] h) M t λC r=>C=bo M q (.ob<|.aq f)/\r=d:=
 PE.aN (Km sO abb PySem.F.type_list_pop Wf x.to c b) λD H Q⟨B,k⟩=>
  ⟨B,λv s I n z=>by
   cases z;obtain⟨e,p,l⟩:=iE n j;have a:=l.length;rw[jY] at a;have a:e.length=f.length+1:=a;obtain⟨y,w,u⟩:=l.get (i:=e.length-1) (d:=d)<|by grind
   have A:bu X.K (aI (aE M) s) e.dropLast f:=by
    have:=l.take f.length;rw[List.take_left'] at this;·rw[aaR,a];grind
    ·rfl
   have E:=hH (M:=M) (H:=s) (m:=.ob<|.aq f) (o:=.aq e.dropLast)<|.inl<|gc j;refine⟨.inl ⟨rfl,e,bi.of p⟩,q,e,y,rfl,rfl,p,w,?_⟩;refine k _ _ _ _ ⟨rfl,rfl⟩ (by grind) (n.eO (.inl<|gc j)<|.aq A)<|by grind⟩
def VA(w:RE X o M c (.aD q))(x:RE X i M c (.int j))(u:M q=some (.ob<|.aq g)):ME X (.Subscript o (.Slice none (some i) none E) r) M c λB d=>∃l,M l=none/\B=bo M l (.ob (.aq (dL g none (some j))))/\d=.aD l:=PE.aN (BS CH w.to JE<|Jo x.to) λD H Q⟨h,k⟩=>⟨h,λv I f s z=>by cases z;refine⟨h.go f s,λv C p a y=>?_⟩;cases y;obtain⟨e,t,A⟩:=iE a u;refine⟨j,rfl,q,e,rfl,bi.of t,λl b=>?_⟩;have n:=hH (M:=M) (H:=C) (m:=.ob<|.aq<|dL g none<|some j) (o:=.aq<|pE e none<|some j)<|.inr b;exact k _ _ _ _ ⟨l,pi a b,rfl,rfl⟩ (by rw[n];exact f.trans p) (a.eO (.inr b)<|.aq<|J6 A none<|some j)<|.aD l⟩
def Wi(Y:ME X e M c R1)(ho:∀M1 d,R1 M1 d->∃q C b,RE X o M1 c (.aD q)/\M1 q=some (.ob (.bA C b))/\ju X.K C/\fe X.K C f/\b.length<1000/\a (bo M1 q (.ob (.bA C (ny f d b)))) (.nx c))(Z:jg e (some (.Attribute o f i)) l.line X.ae=pure false:=by rfl):MS X (.Assign [.Attribute o f i] e l) M c a:=by
 have n:PE X o (λg H Q=>∃M1 q,RE X o M1 c (.aD q)/\wR X.K M1 c (.aD q) g H Q):=λj s g H Q I⟨M1,q,h,t⟩=>h.to j s g H Q I t;refine PS.aN (V9 n Y Z) λD g H⟨y,U,q2⟩=>⟨y,λv H1 M1 d r B L S=>?_⟩
 obtain⟨q,C,b,hq,w,hc,hn,hl,hP⟩:=ho M1 d r;refine⟨M1,q,hq,⟨L,y.cd.to L B⟩,λu O A J R=>?_⟩;cases R;obtain⟨k,x,hg,N⟩:=vO J w;refine⟨q,C,k,x,rfl,hg,hc,hn,by rw[N.length];exact hl,?_⟩;have T:=hH (M:=M1) (H:=O) (m:=.ob<|.bA C<|ny f d b) (o:=.bA C k<|il f v x)<|.inl<|gc w;have E:=J.eO (p:=q) (m:=.ob<|.bA C<|ny f d b) (.inl<|gc w)<|.bA (dx:=k)<|gV.eO (S.same A) N;have z:aW (aI (aE M) H) (aI (aE (bo M1 q (.ob (.bA C (ny f d b))))) (bv O q (.bA C k (il f v x)))):=by rw[T];exact B.trans A
 exact U g _ _ c hP z ⟨E,y.cd.to E z⟩
def UO(q:aa)(h:cf X a (lH M q) l b):cf X a M l b:=dr.aN h λD p H⟨i,o,n⟩=>⟨⟨i.mm.wX,i.cd.to i.mm.wX mf⟩,λe k j f g s c=>o e k j f g (mf.trans s) c,λv k j d g s m h=>n v k j d g (mf.trans s) m h⟩
def TQ(h:ME X e M f R)(j:aB [e] X.ae=(false,aO e X.ae)::aB [] X.ae:=by rfl):ME X (.List [e] i) M f λq d=>∃M1 a p,R M1 a/\M1 p=none/\q=bo M1 p (.ob (.aq [a]))/\d=.aD p:=PE.aN (CW<|vL h wa j) λs H Q⟨n,k⟩=>⟨n,λv w M1 a r u c g=>⟨by show 1<=bx;decide,λl b=>by have t:=hH (M:=M1) (m:=.ob<|.aq [a]) (o:=.aq [v])<|.inr b;exact k _ _ _ _ ⟨M1,a,l,r,pi c b,rfl,rfl⟩ (by grind) (c.eO (.inr b)<|.aq<|.one g)<|.aD l⟩⟩
def oq{R:Mh->Dt->Prop}(h:aU X.prog X.w X.K X.mg X.ai x k (dS X.K T))(u:dn k X.A)(E:RA X (e::a) M j i)(t:T M i R)(B:Gl X x:=by rfl)(g:(x==("__debug__":ak))=false:=by decide)(C:aB (e::a) X.ae=(false,aO e X.ae)::aB a X.ae:=by rfl)(c:(eK b<|aB a X.ae).any (·.1)=false:=by rfl):
 ME X (.Call (.Name x p) (e::a) [] b) M j R:=by
 obtain⟨f,U,S,F,y,z,D⟩:=h.ex;exact PE.aN (yG F u B y z D .nil ur E g C c) λN H Q⟨I,q⟩=>⟨I,λO Y s m h=>⟨M,i,R,by grind,m,t,λv L J d r n o l=>q v L J d r (s.trans n) o l⟩⟩
def U9(h:aU X.prog X.w X.K X.mg X.ai x k (aA X.K E))(o:dn k X.A)(C:RA X (e::a) M l j)(r:E j d)(y:Gl X x:=by rfl)(g:(x==("__debug__":ak))=false:=by decide)(z:aB (e::a) X.ae=(false,aO e X.ae)::aB a X.ae:=by rfl)(c:(eK b<|aB a X.ae).any (·.1)=false:=by rfl):
 RE X (.Call (.Name x p) (e::a) [] b) M l d:=by
 obtain⟨f,O,N,F,t,u,B⟩:=h.ex;exact RE.mk<|PE.aN (yG F o y t u B .nil ur C g z c) λJ H Q⟨D,q⟩=>⟨D,λL R s m h=>⟨aE M,j,d,m.tr,by grind,r,λv I i n=>q v I (s.trans<|ca i) (m.same i) n⟩⟩
structure lG(P:a0)(w:aT)(K:ax)(mg:ak->Option af)(ai:aJ)(x:ak)(C:aa)(k:Nat)(sp:Sp):Prop where
 ex:∃(f:aa)(fd:bI)(ps:List ak),bB P w K mg ai bC k f fd ps sp/\mg x=some (.ref C)/\Mk K C f/\oG K fd ps []
def JZ(m:Mm a M H)(f:H x=none)(h:H b=none)(g:b≠x):
 Mm a (bo M x<|.ob<|.bA C []) (bv (bv H b<|.be x) x<|.bA C b [])/\aW (aI (aE M) H) (aI (aE<|bo M x<|.ob<|.bA C [])<|bv (bv H b<|.be x) x<|.bA C b []):=by
 have d:=gJ (o:=.be x) h;have c:bv H b (.be x) x=none:=by rw[ew<|ci g];exact f
 have e:=hH (M:=M) (H:=bv H b<|.be x) (m:=.ob<|.bA C []) (o:=.bA C b [])<|.inr c;exact⟨(m.same d).eO (.inr c)<|.bA .nil,by rw[e];exact ca d⟩
def yN{R:Mh->Dt->Prop}(h:lG X.prog X.w X.K X.mg X.ai x C k (dS X.K T))(B:dn (k+1) X.A)(S:RA X (e::a) M n Y)(t:∀q,M q=none->T (bo M q (.ob (.bA C []))) (.aD q::Y) (λi d=>d=.aS/\R i (.aD q)))(J:Gl X x:=by rfl)(g:(x==("__debug__":ak))=false:=by decide)(L:aB (e::a) X.ae=(false,aO e X.ae)::aB a X.ae:=by rfl)(c:(eK b<|aB a X.ae).any (·.1)=false:=by rfl):
 ME X (.Call (.Name x p) (e::a) [] b) M n R:=by
 obtain⟨f,fd,ps,F,E,I,O⟩:=h.ex;refine PE.aN (VG I F B J E O .nil ur S g L c) λσ H Q⟨Z,q⟩=>⟨Z,λvs H2 s m h x dx l N D=>?_⟩
 obtain⟨y,j⟩:=JZ (C:=C) m l N D;refine⟨_,_,_,.cons (.aD x) (by rw[xh];exact h.same j),y,t x<|pi m l,λv H' i d⟨U,r⟩u z o=>?_⟩;subst U;cases o;exact⟨rfl,q _ H' i _ r ((s.trans j).trans u) z<|.aD x⟩
def Se{R:Mh->Dt->Prop}(h:lG X.prog X.w X.K X.mg X.ai x C k (dS X.K T))(o:dn (k+1) X.A)(t:∀q,M q=none->T (bo M q (.ob (.bA C []))) [.aD q] (λb d=>d=.aS/\R b (.aD q)))(z:Gl X x:=by rfl)(a:(x==("__debug__":ak))=false:=by decide):ME X (.Call (.Name x p) [] [] l) M L R:=by obtain⟨f,O,N,F,u,y,D⟩:=h.ex;refine PE.aN (RV y F o z u D .nil ur a) λJ H Q⟨e,q⟩x S c B s=>?_;obtain⟨m,i⟩:=JZ (C:=C) e.mm c B s;refine⟨_,_,_,.cons (.aD x) .nil,m,t x<|pi e.mm c,λv I b d⟨E,r⟩j n g=>?_⟩;subst E;cases g;exact⟨rfl,q _ I b _ r (i.trans j) n<|.aD x⟩
def kL(F:bK g x l b f Z)(S:bP N C (bh b))(X:∀M n Q,T M n Q->n.length=C.length)(r:∀(j:af)(A:b8)(i:List fA)(s:am)(H:Hp)(E:XK)(M:Mh)(n:List Dt)(Q:Mh->Dt->Prop),dn k (A.deeper (mV l (bh b) s.heap.objs.size f j))->T M n Q->
 cf (mr bC e w g O y N l (bh b) f j A i s H E).oM (iF b) M (sr N n) λu o=>match o with|.nx _=>Q u .aS|.rt d=>Q u d):bB e w g O y bC (k+1) f Z C (dS g T):=by
 refine F.ok S (λL H Q E⟨M,n,R,a,_,t,_⟩=>by rw[a.length];grind) λj A i s H L Q E Y h=>?_;obtain⟨M,n,R,a,m,t,q⟩:=h;exact⟨_,r j A i s H E M n R Y t,⟨m,vD m.tr a⟩,λD B u I p z c=>q _ B u _ p z c.mm .aS,λv B u d p z U J=>q v B u d p z U J⟩
inductive Fl:Dt->Prop
 |aS:Fl .aS
 |bl (b:Bool):Fl (.bl b)
 |int (i:Int):Fl (.int i)
 |a9 {l:List Dt}:(∀d∈l,Fl d)->Fl (.a9 l)
 |cE {l:List (Int×Dt)}:(∀x∈l,Fl x.2)->Fl (.cE l)
structure Vw(K:ax)(M M0:Mh)(ρ ρ':aG):Prop where
 cd:∀H σ,Cm K M H σ ρ->Cd K (aE M0) H σ ρ'
 ft:∀b m,M b=some m->M0 b=none->(∃l,m=.ob (.aq l))\/∃C f,m=.ob (.bA C f)
def B5(m:Mm a M H)(k:∀b m,M b=some m->c b=none->(∃l,m=.ob (.aq l))\/∃C f,m=.ob (.bA C f))(h:aI (aE c) H b=some u)(v:∀g,u≠.aq g)(s:∀C p n,u≠.bA C p n):aI (aE M) H b=some u:=by
 have j:=bm _ _ h;unfold aI at h ⊢;by_cases q:aE M b=true
 ·exfalso;have i:c b=none:=by
   by_cases z:aE c b=true;·grind
   ·unfold aE at z;cases y:c b with
    |none=>rfl
    |some t=>grind
  unfold aE at q;cases y:M b with
  |none=>grind
  |some t=>
   obtain⟨o,d,r⟩:=m b t y;rw[j] at d;cases d;rcases k b t y i with⟨l,e⟩|⟨C,f,e⟩
   ·subst e;cases r;grind
   ·subst e;cases r;grind
 grind
mutual
def Dz {K:ax} {M e:Mh} {H:Hp} (m:Mm K M H) (c:∀b m,M b=some m->e b=none->(∃l,m=.ob (.aq l))\/∃C f,m=.ob (.bA C f)):∀{v:V}{d:Dt},Dx K (aI (aE e) H) v d->Fl d->Dx K (aI (aE M) H) v d
 |_,_,.aS,_=>.aS
 |_,_,.bl b,_=>.bl b
 |_,_,.int i,_=>.int i
 |_,_,.a9 h a,f=>.a9 (by
  rcases h with(h|⟨o,h⟩)|h
  ·exact .inl<|.inl<|B5 m c h (λ_ z=>by cases z) λ_ _ _ z=>by cases z
  ·exact .inl<|.inr ⟨o,B5 m c h (λ_ z=>by cases z) λ_ _ _ z=>by cases z⟩
  ·exact .inr h) (Kv m c a<|by cases f with|a9 f=>exact f)
 |_,_,.cE h a,f=>.cE (B5 m c h (λ_ z=>by cases z) λ_ _ _ z=>by cases z)<|Kg m c a<|by cases f with|cE f=>exact f
 |_,_,.aq _ _,f=>(by cases f)
 |_,_,.ip _,f=>(by cases f)
 |_,_,.bA _ _,f=>(by cases f)
 |_,_,.aD _,f=>(by cases f)
 |_,_,.ext _ _,f=>(by cases f)
def Kv {K:ax} {M e:Mh} {H:Hp} (m:Mm K M H) (c:∀b m,M b=some m->e b=none->(∃l,m=.ob (.aq l))\/∃C f,m=.ob (.bA C f)):∀{v:List V}{d:List Dt},bu K (aI (aE e) H) v d->(∀x∈d,Fl x)->bu K (aI (aE M) H) v d
 |_,_,.nil,_=>.nil
 |_,_,.cons h r,f=>.cons (Dz m c h<|f _ cc)<|Kv m c r<|by grind
def Kg {K:ax} {M e:Mh} {H:Hp} (m:Mm K M H) (c:∀b m,M b=some m->e b=none->(∃l,m=.ob (.aq l))\/∃C f,m=.ob (.bA C f)):∀{v:List (bg×V)}{d:List (Int×Dt)},di K (aI (aE e) H) v d->(∀x∈d,Fl x.2)->di K (aI (aE M) H) v d
 |_,_,.nil,_=>.nil
 |_,_,.cons h r,f=>.cons (Dz m c h<|f _ cc)<|Kg m c r<|by grind
end
def Cp(V:Vw X.K M f d a)(h:DT X e a k):RT X e M d k:=PT.aN h λc H Q⟨b,q⟩=>⟨aE f,V.cd H c b,λg s=>q g (ca s)<|b.mm.same s⟩
def tZ(V:Vw X.K M i g a)(h:DE X e a d)(f:Fl d):RE X e M g d:=RE.mk<|PE.aN h λc H Q⟨b,q⟩=>⟨aE i,V.cd H c b,λv j s x=>q v j (ca s) (b.mm.same s)<|Dz (b.mm.same s) V.ft x f⟩
end L3
namespace Pf
open PySem PySem.Spec PyProof.Rows L2 L3
open Sy(Pt turn onStretch through meet before)
def aF(i:Nat):cv:=acJ.main.body.getD i<|.Pass ⟨0,0,0,0⟩
structure MG(mg:ak->Option af):Prop where
 aX:mg "len"=none
 sum:mg "sum"=none
 all:mg "all"=none
 any:mg "any"=none
 min:mg "min"=none
 max:mg "max"=none
 list:mg "list"=none
 zip:mg "zip"=none
 range:mg "range"=none
 Y6:mg "enumerate"=none
 sorted:mg "sorted"=none
 D9:mg "reversed"=none
 dict:mg "dict"=none
 c1:∃t,mg "WRONG_VALUE"=some (.int (-1) t)
 c2:∃t,mg "TOO_MANY"=some (.int (-2) t)
 c3:∃t,mg "WRONG_SHAPE"=some (.int (-3) t)
 c4:∃t,mg "NO_PARCEL"=some (.int (-4) t)
 c5:∃t,mg "NOT_SO"=some (.int (-5) t)
 c8:∃t,mg "NO_REGISTRY"=some (.int (-8) t)
 be:∃t,mg "MOST_OWNER"=some (.int 1000 t)
 day:∃t,mg "MOST_DAY"=some (.int 1000000 t)
 ay:∃t,mg "MOST_PARCELS"=some (.int 200 t)
 zY:∃t,mg "MOST_LOWER"=some (.int 1000 t)
 lp:∃t,mg "LEAST_POINTS"=some (.int 3 t)
 mp:∃t,mg "MOST_POINTS"=some (.int 64 t)
 mc:∃t,mg "MOST_COORDINATE"=some (.int 1000000 t)
 lw:∃t,mg "LEAST_WAY_POINTS"=some (.int 2 t)
 mw:∃t,mg "MOST_WAY_POINTS"=some (.int 20 t)
 b2:∃t,mg "ALONG_A_STRETCH"=some (.int 2 t)
 b1:∃t,mg "AT_A_POINT"=some (.int 1 t)
 b0:∃t,mg "APART"=some (.int 0 t)
structure Bp(p:Pt):Prop where
 a:-17179869184<=p.1
 b:p.1<=17179869184
 c:-17179869184<=p.2
 d:p.2<=17179869184
structure Bq(p:Pt):Prop where
 a:-17179869184<=p.1
 b:p.1<=17179869184
 c:-17179869184<=p.2
 d:p.2<=17179869184
def Bp.q(h:Bp p):Bq p:=⟨h.a,h.b,h.c,h.d⟩
def Bq.p(h:Bq e):Bp e:=⟨by have:=h.a;omega,by have:=h.b;omega,by have:=h.c;omega,by have:=h.d;omega⟩
def dE(e:Pt×Pt):Dt:=.a9 [dP e.1,dP e.2]
def ja(l:List (Pt×Pt)):Dt:=.aq<|l.map dE
def Vl:eP X (rE .Mult) (rI Fh λi j=>.int<|i*j):=z9 λ_ _ _ _ _ _ _ a q=>mul_int q a
def ma(g:DE X a c (.int i))(f:DE X b c (.int j))(e:Fh i j):DE X (.BinOp a .Mult b d) c (.int<|i*j):=r0 Vl g f λF x y H Q _ l h k=>by cases l;cases h;exact⟨i,j,rfl,rfl,e,k _ H (aW.refl H)<|.int _⟩
def px(i:Nat)(a:c[i]?=some (some<|dP p):=by rfl)(g:X.N[i]?=some x:=by rfl)(e:oT X.ae.scope x:=by first|exact cj rfl|exact gF (cj rfl)|exact gF<|gF rfl)(f:(x==("__debug__":ak))=false:=by decide)(b:(x==("__classdict__":ak))=false:=by decide):DE X (.Subscript (.Name x k) (.Constant (.int 0) j h) d) c (.int p.1):=jM (ab i a g e f b) a7 rfl
def py(i:Nat)(a:c[i]?=some (some<|dP p):=by rfl)(g:X.N[i]?=some x:=by rfl)(e:oT X.ae.scope x:=by first|exact cj rfl|exact gF (cj rfl)|exact gF<|gF rfl)(f:(x==("__debug__":ak))=false:=by decide)(b:(x==("__classdict__":ak))=false:=by decide):DE X (.Subscript (.Name x k) (.Constant (.int 1) j h) d) c (.int p.2):=jM (ab i a g e f b) a7 rfl
def qz:List Dt->Dt->Prop:=λe d=>∃a b c:Pt,e=[dP a,dP b,dP c]/\Bp a/\Bp b/\Bp c/\d=.int (bc a b c)
def KI:List Dt->Dt->Prop:=λe d=>∃a b c:Pt,e=[dP a,dP b,dP c]/\Bp a/\Bp b/\Bp c/\d=.int (Ld.sJ a b c)
def Kb:List Dt->Dt->Prop:=λe d=>∃a b c:Pt,e=[dP a,dP b,dP c]/\Bp a/\Bp b/\Bp c/\d=.bl (Ld.lF a b c)
def uG:List Dt->Dt->Prop:=λc d=>∃q a b:Pt,c=[dP q,dP a,dP b]/\Bp q/\Bp a/\Bp b/\d=.bl (bN a b q)
def De:List Dt->Dt->Prop:=λf d=>∃a b c e:Pt,f=[dP a,dP b,dP c,dP e]/\Bq a/\Bq b/\Bq c/\Bq e/\d=.bl (dZ a b c e)
def K5:List Dt->Dt->Prop:=λf d=>∃a b c e:Pt,f=[dP a,dP b,dP c,dP e]/\Bq a/\Bq b/\Bq c/\Bq e/\d=.bl (dj a b c e)
def LI:List Dt->Dt->Prop:=λf d=>∃a b c e:Pt,f=[dP a,dP b,dP c,dP e]/\Bp a/\Bp b/\Bp c/\Bp e/\d=.bl (Ld.iI a b c e)
def TD:bP ["a","b","c"] ["a","b","c"] (bh<|aF 1):={}
def SQ(F:bK h "cross" "cross" (aF 1) f m):bB g w h q j bC 1 f m ["a","b","c"] (aA h qz):=by refine cN F TD (λo d⟨a,b,c,e,_⟩=>by grind) λp A i s H E o d r⟨a,b,c,e,l,k,t,n⟩=>?_;subst e n;obtain⟨z,y,x,v⟩:=l;obtain⟨b1,b2,b3,u⟩:=k;exact bb<|bj<|me (qG (me (px 1)<|px 0) (me (py 2)<|py 0)<|.inl ⟨by omega,by omega⟩)<|qG (me (py 1)<|py 0) (me (px 2)<|px 0)<|.inl ⟨by omega,by omega⟩
def Ur:bP ["a","b","c"] ["a","b","c"] (bh<|aF 2):={}
def Uf(F:bK h "goes_on" "goes_on" (aF 2) f m):bB g w h q j bC 1 f m ["a","b","c"] (aA h KI):=by refine cN F Ur (λo d⟨a,b,c,e,_⟩=>by grind) λp A i s H E o d r⟨a,b,c,e,l,k,t,n⟩=>?_;subst e n;obtain⟨z,y,x,v⟩:=l;obtain⟨b1,b2,b3,u⟩:=k;exact bb<|bj<|jm (qG (me (px 1)<|px 0) (me (px 2)<|px 1)<|.inl ⟨by omega,by omega⟩)<|qG (me (py 1)<|py 0) (me (py 2)<|py 1)<|.inl ⟨by omega,by omega⟩
def TX:bP ["a","b","c"] ["a","b","c"] (bh<|aF 3):={}
def U2(F:bK h "turns_back" "turns_back" (aF 3) f r)(q:aU g w h k i "cross" 1 (aA h qz))(p:aU g w h k i "goes_on" 1 (aA h KI)):bB g w h k i bC 2 f r ["a","b","c"] (aA h Kb):=by
 refine cN F TX (λu d⟨a,b,c,e,_⟩=>by grind) λv A j s H E u d l⟨a,b,c,e,o,n,m,t⟩=>?_;subst e t;exact bb (bj (ue (kK (aK q l (ah (ab 0)<|ah (ab 1)<|ah (ab 2) au) ⟨a,b,c,rfl,o,n,m,rfl⟩) a7)
  (λ_=>rY<|kK (aK p l (ah (ab 0)<|ah (ab 1)<|ah (ab 2) au) ⟨a,b,c,rfl,o,n,m,rfl⟩) a7)))
def Ye:bP ["point","a","b"] ["point","a","b"] (bh<|aF 4):={}
def Yk(F:bK i "on_stretch" "on_stretch" (aF 4) f v)(M:MG n)(u:aU g w i n j "cross" 1 (aA i qz)):bB g w i n j bC 2 f v ["point","a","b"] (aA i uG):=by
 refine cN F Ye (λy d⟨a,b,c,e,_⟩=>by grind) λz A l s H E y d o⟨q,a,b,e,p,t,r,x⟩=>?_;subst e x;refine eS (ke (cw (px 0)<|IL (px 1) (px 2) M.min rfl) λ_=>mh<|cw (px 0)<|CP (px 1) (px 2) M.max rfl).dt (λh=>?_) λh=>?_
 ·have e:bN a b q=false:=by rw[mK];intro k;have:=Ld.rK.mp k;simp only[cI,oX,eg] at h;omega
  rw[e];exact bb<|bj fm
 ·refine eS (ke (cw (py 0)<|IL (py 1) (py 2) M.min rfl) λ_=>mh<|cw (py 0)<|CP (py 1) (py 2) M.max rfl).dt (λm=>?_) λm=>?_
  ·have e:bN a b q=false:=by rw[mK];intro k;have:=Ld.rK.mp k;simp only[cI,oX,eg] at m;omega
   rw[e];exact bb<|bj fm
  ·have e:bN a b q=decide (bc a b q=0):=by rw[mM,Ld.rK,eg];simp only[cI,rj,o8] at h m;omega
   rw[e];exact bb<|bj<|kK (aK u o (ah (ab 1)<|ah (ab 2)<|ah (ab 0) au) ⟨a,b,q,rfl,t,r,p,rfl⟩) a7
def x9(g:Bq a)(f:Bq b)(e:Bq c):rm (bc a b c)<=2^20:=by
 obtain⟨r,q,p,o⟩:=g;obtain⟨b1,b2,b3,n⟩:=f;obtain⟨m,l,k,j⟩:=e;have d:∀x:Int,-34359738368<=x->x<=34359738368->rm x<=36:=λx i h=>Am (by omega)
 have:=intBits_sub_le (intBits_mul_le (d (b.1-a.1) (by omega)<|by omega)<|d (c.2-a.2) (by omega)<|by omega)<|intBits_mul_le (d (b.2-a.2) (by omega)<|by omega)<|d (c.1-a.1) (by omega)<|by omega
 exact dY this<|by decide
def Vj:bP ["a","b","c","d"] ["a","b","c","d"] (bh<|aF 5):={}
def UZ(F:bK i "cross_over" "cross_over" (aF 5) f v)(r:aU g w i u o "cross" 1 (aA i qz)):bB g w i u o bC 2 f v ["a","b","c","d"] (aA i De):=by
 refine cN F Vj (λy d⟨a,b,c,n,e,_⟩=>by grind) λz A t s H E y d q⟨a,b,c,n,e,m,l,k,j,x⟩=>?_;subst e x;rw[Ld.OL];refine eS (cw (ma (aK r q (ah (ab 0)<|ah (ab 1)<|ah (ab 2) au) ⟨a,b,c,rfl,m.p,l.p,k.p,rfl⟩) (aK r q (ah (ab 0)<|ah (ab 1)<|ah (ab 3) au) ⟨a,b,n,rfl,m.p,l.p,j.p,rfl⟩)<|.of_bits (x9 m l k)<|x9 m l j) a7) (λh=>?_) λh=>?_
 ·have e:decide (bc a b c*bc a b n<0)=false:=by simp only[cI,eg] at h;grind
  rw[e];exact bb<|bj fm
 ·have e:decide (bc a b c*bc a b n<0)=true:=by simp only[cI,o8] at h;grind
  rw[e,ts];exact bb<|bj<|kK (ma (aK r q (ah (ab 2)<|ah (ab 3)<|ah (ab 0) au) ⟨c,n,a,rfl,k.p,j.p,m.p,rfl⟩) (aK r q (ah (ab 2)<|ah (ab 3)<|ah (ab 1) au) ⟨c,n,b,rfl,k.p,j.p,l.p,rfl⟩)<|.of_bits (x9 k j m)<|x9 k j l) a7
def T2:bP ["a","b","c","d"] ["a","b","c","d"] (bh<|aF 6):={}
def Uq(F:bK i "have_common_point" "have_common_point" (aF 6) f x)(r:aU g w i u k "on_stretch" 2 (aA i uG))(v:aU g w i u k "cross_over" 2 (aA i De)):bB g w i u k bC 3 f x ["a","b","c","d"] (aA i K5):=by
 refine cN F T2 (λB d⟨a,b,c,j,e,_⟩=>by grind) λC A t s H E B d l⟨a,b,c,j,e,q,o,n,m,z⟩=>?_;subst e z;have y:dj a b c j=((bN c j a||bN c j b)||(bN a b c||(bN a b j||dZ a b c j))):=by unfold dj;grind
 rw[y];refine eS (ke (dD<|aK r l (ah (ab 0)<|ah (ab 2)<|ah (ab 3) au) ⟨a,c,j,rfl,q.p,n.p,m.p,rfl⟩) λ_=>mh<|dD<|aK r l (ah (ab 1)<|ah (ab 2)<|ah (ab 3) au) ⟨b,c,j,rfl,o.p,n.p,m.p,rfl⟩).dt (λh=>?_) λh=>?_
 ·rw[h,acC];exact bb<|bj fm
 ·rw[h,xl];exact bb (bj (zA (aK r l (ah (ab 2)<|ah (ab 0)<|ah (ab 1) au) ⟨c,a,b,rfl,n.p,q.p,o.p,rfl⟩) (λ_=>zA (aK r l (ah (ab 3)<|ah (ab 0)<|ah (ab 1) au) ⟨j,a,b,rfl,m.p,q.p,o.p,rfl⟩)
   (λ_=>rY<|aK v l (ah (ab 0)<|ah (ab 1)<|ah (ab 2)<|ah (ab 3) au) ⟨a,b,c,j,rfl,q,o,n,m,rfl⟩))))
def WD:bP ["a","b","c","d"] ["a","b","c","d"] (bh<|aF 7):={}
def Wc(F:bK i "run_opposite" "run_opposite" (aF 7) f y)(M:MG p)(t:aU g w i p l "cross" 1 (aA i qz)):bB g w i p l bC 2 f y ["a","b","c","d"] (aA i LI):=by
 refine cN F WD (λB d⟨a,b,c,u,e,_⟩=>by grind) λC A n s H E B d m⟨a,b,c,u,e,r,q,x,v,z⟩=>?_;subst e z;have k:=pD m;have j:=m.C8;unfold Ld.iI;refine eS (ke (cw (aK t m (ah (ab 0)<|ah (ab 1)<|ah (ab 2) au) ⟨a,b,c,rfl,r,q,x,rfl⟩) a7) λ_=>mh<|cw (aK t m (ah (ab 0)<|ah (ab 1)<|ah (ab 3) au) ⟨a,b,u,rfl,r,q,v,rfl⟩) a7).dt (λh=>?_) λh=>?_
 ·rw[aM<|by simp only[cI,oX,h_,o8] at h;exact h];exact bb<|bj fm
 ·rw[aL<|by simp only[cI,rj,Ar,eg] at h;omega];refine eS (Kx (Dd (ab 0) (ab 1) j)<|Dd (ab 2) (ab 3) j) (λo=>?_) λo=>?_
  ·rw[aM<|fB o];exact bb<|bj fm
  ·rw[aL<|iC o];exact bb<|bj<|Dd (B7 (B9 (ab 0) (ab 1) M.min rfl k) (B9 (ab 2) (ab 3) M.min rfl k) M.max rfl k) (B9 (B7 (ab 0) (ab 1) M.max rfl k) (B7 (ab 2) (ab 3) M.max rfl k) M.min rfl k) j
def hG(n:Nat)(a:Bool)(i:Nat):Nat:=if(a&&i==0)=true then n-1 else n
def m7(a:List (Pt×Pt))(i j:Nat):Bool:=dj (a.getD i Ld.im).1 (a.getD i Ld.im).2 (a.getD j Ld.im).1 (a.getD j Ld.im).2
def qJ(b:List (Pt×Pt))(a:Bool):Bool:=(j4 b.length).any λi=>(j4<|hG b.length a i-(i+2)).any λj=>m7 b i<|i+2+j
def Gg(b:List (Pt×Pt))(a:Bool):qJ b a=false↔Ld.pw b a:=by
 unfold qJ Ld.pw;rw[Nf];constructor
 ·intro h i j e c;have d:j<hG b.length a i:=c;have f:hG b.length a i<=b.length:=by unfold hG;grind
  have:=h i<|nZ.mpr<|by omega
  rw[lV] at this;cases q:dj (b.getD i Ld.im).1 (b.getD i Ld.im).2 (b.getD j Ld.im).1 (b.getD j Ld.im).2 with
  |false=>rfl
  |true=>refine cy ⟨j-(i+2),nZ.mpr (by omega),?_⟩ this;unfold m7;grind
 ·intro h i g;rw[lV];rintro⟨j,c,k⟩;have c:=nZ.mp c;have:=h i (i+2+j) (by omega)<|by show i+2+j<hG b.length a i;omega
  unfold m7 at k;grind
def Cb:List Dt->Dt->Prop:=λc d=>∃(b:List (Pt×Pt))(a:Bool),c=[ja b,.bl a]/\(∀e∈b,Bq e.1/\Bq e.2)/\b.length<=1000/\d=.bl (qJ b a)
def zi{a:List (Pt×Pt)}(h:i<a.length):e5 (a.map dE) (i:Int)=some (dE<|a.getD i Ld.im):=by refine fM ?_;grind
def F_(h:d∈qE a n):∃i:Nat,i<n/\d=.int (a+(i:Nat)):=by obtain⟨i,b,e⟩:=cY.mp h;grind
def Bn{lo:Int}{v:Dt}:∀{n:Nat},(∀i,i<n->f (.int (lo+(i:Nat)))=if q i=true then some v else none)->(qE lo n).findSome? f=if(j4 n).any q=true then some v else none
 |n,h=>by
  have a:∀(l:List Nat),(∀i∈l,f (.int (lo+(i:Nat)))=if q i=true then some v else none)->(l.map λi=>Dt.int<|lo+(i:Nat)).findSome? f=if l.any q=true then some v else none:=by
   intro l;induction l with
   |nil=>grind
   |cons i l b=>grind
  exact a _<|by grind
def Il{a:List (Pt×Pt)}(h:i<a.length):a.getD i Ld.im∈a:=by grind
def HL:bP ["stretches","closed","size","i","behind","j","one","other"] ["stretches","closed"] (bh<|aF 8):={}
def SA(F:bK b "apart_ones_meet" "apart_ones_meet" (aF 8) f Y)(M:MG R)(X:aU a w b R y "have_common_point" 3 (aA b K5)):bB a w b R y bC 4 f Y ["stretches","closed"] (aA b Cb):=by
 refine cN F HL (λds d⟨h,c,e,_⟩=>by grind) λa' A I s H E ds d S⟨h,k,e,U,hl,Z⟩=>?_;subst e Z;have m:=HL.nd;let n:=h.length;let g:Nat->Bool:=λi=>(j4<|hG h.length k i-(i+2)).any λj=>m7 h i<|i+2+j;let z:Dt->Option Dt:=λd=>match d with
  |.int i=>if g i.toNat=true then some (.bl true) else none
  |_=>none
 have r:(h.map dE).length=h.length:=bS _;refine dQ (c_ (i:=2) (bU (eH (ab 0) M.aX)<|by rw[r]) m) ?_;show e7 _ _ [some<|ja h,some<|.bl k,some<|.int h.length,none,none,none,none,none] _;have o:∀i:Nat,(if(k&&cI .Eq ((0:Int)+(i:Nat)) 0)=true then Dt.int ((h.length:Int)-1) else Dt.int h.length)=.int (if(k&&i==0)=true then(h.length:Int)-1 else h.length):=λi=>by
  have:cI .Eq ((0:Int)+(i:Nat)) 0=(i==0):=by
   show decide ((0:Int)+(i:Nat)=0)=(i==0)
   grind
  grind
 have x:∀i:Nat,i<h.length->((if(k&&i==0)=true then(h.length:Int)-1 else h.length)-((0:Int)+(i:Nat)+2)).toNat=hG h.length k i-(i+2):=λi l=>by unfold hG;grind
 refine PX z (Qx (ab 2) M.range (by omega)<|by omega) (cG (i:=3) m rfl<|cj rfl) (pO b 3) (λd J=>⟨_,rfl,?_⟩) ?_ ?_ jB rfl
 ·obtain⟨i,l,rfl⟩:=F_ J;have l:i<h.length:=by omega
  let L:Dt->Option Dt:=λd=>match d with
   |.int j=>if m7 h i j.toNat=true then some (.bl true) else none
   |_=>none
  refine BR (dQ (c_ (i:=4) (bU (wt (rX (dD<|ab 1) λ_=>yS<|cw (ab 3) a7).dt (λ_=>me (ab 2) a7) λ_=>ab 2)<|o i) m)
   (pb<|GZ L (QU (jm (ab 3) a7) (ab 4) M.range<|by omega) (cG (i:=5) m rfl<|cj rfl) (pO b 5) (λd J=>⟨_,rfl,?_⟩) jB rfl)) ?_
  ·obtain⟨j,T,rfl⟩:=F_ J;rw[x i l] at T;have p:i+2+j<h.length:=by
    have:hG h.length k i<=h.length:=by unfold hG;split<;>omega
    omega
   have O:(0:Int)+(i:Nat)+2+(j:Nat)=((i+2+j:Nat):Int):=by omega
   have B:(0:Int)+(i:Nat)=((i:Nat):Int):=by omega
   have N:L (.int ((0:Int)+(i:Nat)+2+(j:Nat)))=if m7 h i (i+2+j)=true then some (.bl true) else none:=by show(if m7 h i ((0:Int)+(i:Nat)+2+(j:Nat)).toNat=true then _ else _)=_;rw[O,Ay]
   rw[N];have D:=U _<|Il l;have C:=U _<|Il p;cases q:m7 h i (i+2+j) with
   |true=>
    refine BR (dQ (c_ (i:=6) (dG (ab 0) (ab 3)<|by rw[B];exact zi l) m) (dQ (c_ (i:=7) (dG (ab 0) (ab 5)<|by rw[O];exact zi p) m)
     (pb<|md (cW (dD<|aK X S (ah (jM (ab 6) a7 rfl)<|ah (jM (ab 6) a7 rfl)<|ah (jM (ab 7) a7 rfl)<|ah (jM (ab 7) a7 rfl) au) ⟨_,_,_,_,rfl,D.1,D.2,C.1,C.2,rfl⟩) q)<|bb<|bj fm))) rfl
   |false=>
    refine BR (dQ (c_ (i:=6) (dG (ab 0) (ab 3)<|by rw[B];exact zi l) m) (dQ (c_ (i:=7) (dG (ab 0) (ab 5)<|by rw[O];exact zi p) m)
     (pb<|kI (cW (dD<|aK X S (ah (jM (ab 6) a7 rfl)<|ah (jM (ab 6) a7 rfl)<|ah (jM (ab 7) a7 rfl)<|ah (jM (ab 7) a7 rfl) au) ⟨_,_,_,_,rfl,D.1,D.2,C.1,C.2,rfl⟩) q) jK))) ⟨rfl,rfl,rfl,rfl,rfl,rfl,trivial⟩
  ·have N:z (.int ((0:Int)+(i:Nat)))=if g i=true then some (.bl true) else none:=by show(if g ((0:Int)+(i:Nat)).toNat=true then _ else _)=_;simp
   have u:=Bn (lo:=(0:Int)+(i:Nat)+2) (v:=.bl true) (f:=L) (q:=λj=>m7 h i<|i+2+j) (n:=((if(k&&i==0)=true then(h.length:Int)-1 else h.length)-((0:Int)+(i:Nat)+2)).toNat) (λj T=>by show(if m7 h i ((0:Int)+(i:Nat)+2+(j:Nat)).toNat=true then _ else _)=_;rw[show((0:Int)+(i:Nat)+2+(j:Nat)).toNat=i+2+j by omega])
   rw[N,u,x i l];have B:(j4 (hG h.length k i-(i+2))).any (λj=>m7 h i<|i+2+j)=g i:=rfl;rw[B];cases g i with
   |true=>rfl
   |false=>exact⟨rfl,rfl,rfl,rfl,trivial⟩
 ·intro v t;have u:=Bn (lo:=0) (v:=.bl true) (f:=z) (q:=g) (n:=(h.length:Int).toNat) (λi l=>by show(if g ((0:Int)+(i:Nat)).toNat=true then _ else _)=_;simp)
  rw[u,Ay] at t;have Q:(j4 h.length).any g=qJ h k:=rfl;rw[Q] at t;cases q:qJ h k with
  |true=>grind
  |false=>grind
 ·intro t;have u:=Bn (lo:=0) (v:=.bl true) (f:=z) (q:=g) (n:=(h.length:Int).toNat) (λi l=>by show(if g ((0:Int)+(i:Nat)).toNat=true then _ else _)=_;simp)
  rw[u,Ay] at t;have Q:(j4 h.length).any g=qJ h k:=rfl;rw[Q] at t;cases q:qJ h k with
  |true=>grind
  |false=>exact bb<|bj fm
end Pf
namespace L3
open PySem PySem.Spec PyProof.Rows L2
def jn(d:DE X a b (.int i)):DE X (.UnaryOp .USub a c) b (.int<|-i):=PE.aN (Xz Xk d) λg H Q⟨F,e,q⟩=>⟨F,e,λv f s h=>by cases h;exact⟨i,rfl,q _ f s<|.int _⟩⟩
def qv(l:List a)(k:Nat):dL l (some (k:Int)) none=l.drop k:=by
 unfold dL;rw[HT.vJ,HT.yt];by_cases h:k<=l.length
 ·rw[ab0 h];exact w8<|by grind
 ·rw[EO (by omega),sT<|cs _,sT<|by omega];grind
def qF(l:List a)(k:Nat):dL l none (some (k:Int))=l.take k:=by unfold dL;rw[HT.vJ,HT.yt,ab3,NK];grind
def UT(l:List b)(i j:Nat):dL l (some (i:Int)) (some (j:Int))=(l.drop i).take (j-i):=by
 unfold dL;rw[HT.vJ,HT.vJ];by_cases h:i<=l.length
 ·rw[ab0 h];by_cases c:j<=l.length;·grind
  ·rw[EO (by omega),w8 (by rw[AA];omega),w8<|by rw[AA];omega]
 ·rw[sT (as:=l) (i:=i) (by omega),sT (as:=l) (i:=min i l.length) (by omega),EZ,EZ]
def Cy(n d k:Nat)(a:0<k):HT.iU n d (some<|-(k:Int))=n-k:=by show(if-(k:Int)<0 then(-(k:Int)+(n:Int)).toNat else _)=_;grind
def QL(l:List b)(k:Nat)(a:0<k):dL l (some<|-(k:Int)) none=l.drop (l.length-k):=by unfold dL;rw[Cy _ _ _ a,HT.yt];exact w8<|by grind
def CQ(l:List b)(k:Nat)(a:0<k):dL l none (some<|-(k:Int))=l.take (l.length-k):=by unfold dL;rw[Cy _ _ _ a,HT.yt,ab3,NK]
def IC(l:List b)(i k:Nat)(a:0<k):dL l (some (i:Int)) (some<|-(k:Int))=(l.drop i).take (l.length-k-i):=by
 unfold dL;rw[Cy _ _ _ a,HT.vJ];by_cases h:i<=l.length;·grind
 ·rw[EO (by omega),sT<|cs _,sT (by omega),EZ,EZ]
def Ch{c:Type}{f:c->Dt}:∀(l m:List c),wU (l.map f) (m.map f)=(l.zip m).map λe=>Dt.a9 [f e.1,f e.2]
 |[],m=>by rfl
 |a::l,[]=>by rfl
 |a::l,b::m=>by have:=Ch (f:=f) l m;unfold wU at this ⊢;rw[dB,dB,aaK,this];rfl
def Cj{d:Type}{f:d->Dt}:∀(l m n:List d),oP (l.map f) (m.map f) (n.map f)=(l.zip (m.zip n)).map λe=>Dt.a9 [f e.1,f e.2.1,f e.2.2]
 |[],m,n=>by rfl
 |a::l,[],n=>by rfl
 |a::l,b::m,[]=>by rfl
 |a::l,b::m,c::n=>by have:=Cj (f:=f) l m n;unfold oP at this ⊢;rw[dB,dB,dB,xc,aaK,this];rfl
end L3
namespace Pf
open PySem PySem.Spec PyProof.Rows L2 L3
open Sy(Pt turn onStretch through meet before edges area Ring onRing inRing crosses)
def dR(r:List Pt):Dt:=.aq<|r.map dP
def dC(c:Pt×Pt×Pt):Dt:=.a9 [dP c.1,dP c.2.1,dP c.2.2]
def pj:List Dt->Dt->Prop:=λa d=>∃r:aC,a=[dR r]/\r.length<=10000/\d=ja (aj r)
def Bx:List Dt->Dt->Prop:=λa d=>∃r:aC,a=[dR r]/\r.length<=10000/\d=.aq ((Ld.fU r).map dC)
def rZ:List Dt->Dt->Prop:=λa d=>∃r:aC,a=[dR r]/\r.length<=10000/\(∀p∈r,Bp p)/\d=.int (bR r)
def Kf:List Dt->Dt->Prop:=λa d=>∃p:Pt,a=[dP p]/\d=.bl (decide ((0<=p.1/\p.1<=1000000)/\0<=p.2/\p.2<=1000000))
def zC:List Dt->Dt->Prop:=λa d=>∃(r:aC)(p:Pt),a=[dR r,dP p]/\r.length<=10000/\(∀q∈r,Bp q)/\Bp p/\d=.bl (b_ r p)
def zQ:List Dt->Dt->Prop:=λa d=>∃(r:aC)(p:Pt),a=[dR r,dP p]/\r.length<=10000/\(∀q∈r,Bp q)/\Bp p/\d=.bl (cB r p)
def HR:List Dt->Dt->Prop:=λc d=>∃p a b:Pt,c=[dP p,dP a,dP b]/\Bp p/\Bp a/\Bp b/\bN a b p=false/\d=.bl (eB p (a,b))
def Tk:bP ["ring"] ["ring"] (bh<|aF 40):={}
def jS(h:n<=10000):n+n<=bx:=by rw[fu];omega
def Sj(F:bK b "edges_of" "edges_of" (aF 40) f j)(M:MG h):bB a w b h g bC 1 f j ["ring"] (aA b pj):=by
 refine cN F Tk (λl d⟨r,e,_⟩=>by grind) λm A c s H E l d q⟨r,e,i,k⟩=>?_;subst e k;have o:dL (r.map dP) (some 1) none=(r.drop 1).map dP:=by rw[show(1:Int)=((1:Nat):Int) from rfl,qv,o0]
 have n:dL (r.map dP) none (some 1)=(r.take 1).map dP:=by rw[show(1:Int)=((1:Nat):Int) from rfl,qF,n_]
 have p:=jS i;refine bb<|bj<|bU (J8 (ab 0) (lm (ji (ab 0) (gB a7) kb) (ji (ab 0) kb<|gB a7) ?_) M.list M.zip rfl) ?_;·grind
 ·rw[o,n,<-dw,Ch];rfl
def P7:bP ["ring"] ["ring"] (bh<|aF 41):={}
def PF(F:bK b "corners_of" "corners_of" (aF 41) f j)(M:MG h):bB a w b h g bC 1 f j ["ring"] (aA b Bx):=by
 refine cN F P7 (λl d⟨r,e,_⟩=>by grind) λm A c s H E l d u⟨r,e,i,k⟩=>?_;subst e k;have q:dL (r.map dP) (some 1) none=(r.drop 1).map dP:=by rw[show(1:Int)=((1:Nat):Int) from rfl,qv,o0]
 have p:dL (r.map dP) none (some 1)=(r.take 1).map dP:=by rw[show(1:Int)=((1:Nat):Int) from rfl,qF,n_]
 have o:dL (r.map dP) (some (-1)) none=(r.drop (r.length-1)).map dP:=by rw[show(-1:Int)=-((1:Nat):Int) from rfl,QL _ _ (by decide),bS,o0]
 have n:dL (r.map dP) none (some (-1))=(r.take (r.length-1)).map dP:=by rw[show(-1:Int)=-((1:Nat):Int) from rfl,CQ _ _ (by decide),bS,n_]
 have t:=jS i;refine bb<|bj<|bU (WN (lm (ji (ab 0) (gB<|jn a7) kb) (ji (ab 0) kb<|gB<|jn a7) ?_) (ab 0) (lm (ji (ab 0) (gB a7) kb) (ji (ab 0) kb<|gB a7) ?_) M.list M.zip rfl) ?_;·grind
 ·grind
 ·rw[q,p,o,n,<-dw,<-dw,Cj];rfl
def U3:bP ["point"] ["point"] (bh<|aF 43):={}
def Vx(F:bK b "is_near" "is_near" (aF 43) f j)(M:MG i):bB a w b i h bC 1 f j ["point"] (aA b Kf):=by refine cN F U3 (λl d⟨r,e,_⟩=>by grind) λm A c s H E l d n⟨p,e,k⟩=>?_;subst e k;obtain⟨t,g⟩:=M.mc;refine bb<|bj<|bU (ue (ym a7 (px 0)<|cS g) λ_=>rY<|ym a7 (py 0)<|cS g) ?_;show Dt.bl ((decide (0<=p.1)&&decide (p.1<=1000000))&&(decide (0<=p.2)&&decide (p.2<=1000000)))=_;simp
def Rc:bP ["point","a","b"] ["point","a","b"] (bh<|aF 48):={}
def Xh(f:DE X a c (.bl p))(e:DE X b c (.bl q)):DE X (.Compare a [.Eq] [b] d) c (.bl<|decide<|p=q):=
 CB DG f e (qK b) λF x y H Q h g k=>by
  cases h;cases g;refine⟨rfl,?_⟩;have:decide (V.bl p=V.bl q)=decide (p=q):=by grind
  rw[this];exact k _ H (aW.refl H)<|.bl _
def Rm(F:bK i "is_passed" "is_passed" (aF 48) f I)(C:aU g w i n j "cross" 1 (aA i qz)):bB g w i n j bC 2 f I ["point","a","b"] (aA i HR):=by
 refine cN F Rc (λL d⟨a,b,c,e,_⟩=>by grind) λM A k s H E L d o⟨p,a,b,e,r,B,t,m,J⟩=>?_;subst e J;have N:(a.2<=p.2/\p.2<b.2)\/(b.2<=p.2/\p.2<a.2)->bc a b p≠0:=λO q=>by
  have l:((Ld.io a).2<=(Ld.io p).2/\(Ld.io p).2<=(Ld.io b).2/\(Ld.io a).2≠(Ld.io b).2)\/((Ld.io b).2<=(Ld.io p).2/\(Ld.io p).2<=(Ld.io a).2/\(Ld.io a).2≠(Ld.io b).2):=by have Q:∀x y:Pt,((Ld.io x).2<=(Ld.io y).2)↔x.2<=y.2:=λx y=>Ld.fD;grind
  have:=Ld.vl (u:=Ld.io a) (v:=Ld.io b) (z:=Ld.io p) (by rw[Ld.mi,q];rfl) l;rw[Ld.eY.mpr this] at m;cases m
 unfold eB;dsimp only;refine eS (Kx (kK (py 1)<|py 0)<|kK (py 2)<|py 0) (λh=>?_) λh=>?_
 ·have h:=fB h;have e:((decide (a.2<=p.2)&&(decide (p.2<b.2)&&decide (0<bc a b p)))||(decide (b.2<=p.2)&&(decide (p.2<a.2)&&decide (bc a b p<0))))=false:=by have D:decide (p.2<a.2)=decide (p.2<b.2):=h;grind
  rw[e];exact bb<|bj fm
 ·have h:=iC h;refine bb<|bj<|bU (Xh (kK (aK C o (ah (ab 1)<|ah (ab 2)<|ah (ab 0) au) ⟨a,b,p,rfl,B,t,r,rfl⟩) a7)<|kK (py 2)<|py 1) ?_;have D:decide (p.2<a.2)≠decide (p.2<b.2):=h;show Dt.bl (decide<|decide (0<bc a b p)=decide (a.2<b.2))=_;congr 1;grind
end Pf
namespace L3
open PySem PySem.Spec PyProof.Rows L2
open Sy(Pt)
def jl{m:Type}(b:m->Dt)(c:Dt->Option m)(e:∀x,c (b x)=some x)(j:List m)(p:m->Bool)(f:m->Dt)(w:m->aG)(M:DI X z i y (j.map b))(E:pz X.N X.ae.scope a be)(O:∀(s:am)(H:Hp)(C:aa)(o:List (ak×aa))(n:List aa),PG (X.dX s H a (e9 a o C X.ae) n) z g)(u:rc X.K g B (be.map (·.2)))(A:∀x∈j,B (b x) (jo y (be.map (·.2)))=some (w x))(I:∀(s:am)(H:Hp)(C:aa)(o:List (ak×aa))(n:List aa),∀x∈j,sC (X.dX s H a (e9 a o C X.ae) n) k (w x) (p x)/\(p x=true->DE (X.dX s H a (e9 a o C X.ae) n) l (w x) (f x)))(L:j.length<=bx)(Q:X.cX=true)(R:X.N.Nodup)(J:∀x,kU i X.ae x=pure x:=by intro _;rfl):DE X (.ListComp l [⟨z,i,k,0⟩] a r) y (.aq ((j.filter p).map f)):=by
 have h:=Yj (X:=X) (pos:=r) (elt:=l) (ifs:=k) (λd=>(c d).any p) (λd=>((c d).map f).getD .aS) M E O u (λs H C o n d v D U=>?_) (λd v=>?_) (by rw[bS];exact L) Q R J
 ·have Z:(j.map b).filter (λd=>(c d).any p)=(j.filter p).map b:=by
   rw[ET];congr 1;have:((λd=>(c d).any p)∘b)=p:=by funext x;show(c<|b x).any p=p x;rw[e];rfl
   rw[this]
  rw[Z,d_] at h;have Y:((λd=>((c d).map f).getD .aS)∘b)=f:=by funext x;show((c<|b x).map f).getD .aS=f x;rw[e];rfl
  rw[Y] at h;exact h
 ·obtain⟨x,t,rfl⟩:=cY.mp v;have:=A x t;rw[U] at this;cases this;obtain⟨T,S⟩:=I s H C o n x t;rw[e];exact⟨T,λq=>S q⟩
 ·obtain⟨x,t,rfl⟩:=cY.mp v;exact⟨_,A x t⟩
def x6{r:Type}(b:r->Dt)(c:Dt->Option r)(k:∀x,c (b x)=some x)(n:List r)(p:r->Bool)(f:r->Dt)(L:r->aG)(Y:DI X A j w (n.map b))(Q:pz X.N X.ae.scope a be)(Z:∀(s:am)(H:Hp)(C:aa)(u:List (ak×aa))(t:List aa),PG (X.dX s H a (e9 a u C X.ae) t) A g)(z:rc X.K g B (be.map (·.2)))(M:∀x∈n,B (b x) (jo w (be.map (·.2)))=some (L x))(S:∀(s:am)(H:Hp)(C:aa)(u:List (ak×aa))(t:List aa),∀x∈n,sC (X.dX s H a (e9 a u C X.ae) t) l (L x) (p x)/\(p x=true->DE (X.dX s H a (e9 a u C X.ae) t) m (L x) (f x)))(U:n.length<=bx)(hc:X.cX=true)(hN:X.N.Nodup)(R:X.N[i]?=some y:=by rfl)(E:X.ae.scope.names.lookup y=some .local:=by rfl)(I:jg (.ListComp m [⟨A,j,l,0⟩] a o) (some<|.Name y D) e.line X.ae=pure true:=by rfl)(T:∀x,kU j X.ae x=pure x:=by intro _;rfl):
 DS X (.Assign [.Name y D] (.ListComp m [⟨A,j,l,0⟩] a o) e) w (.nx<|w.set i<|some<|.aq<|(n.filter p).map f):=by
 have h:=RK (X:=X) (pos:=o) (py:=D) (spos:=e) (i:=i) (y:=y) (elt:=m) (ifs:=l) (λd=>(c d).any p) (λd=>((c d).map f).getD .aS) Y Q Z z (λs H C u t d J O eb=>?_) (λd J=>?_) (by rw[bS];exact U) hc hN R E I T
 ·have e1:(n.map b).filter (λd=>(c d).any p)=(n.filter p).map b:=by
   rw[ET];congr 1;have:((λd=>(c d).any p)∘b)=p:=by funext x;show(c<|b x).any p=p x;rw[k];rfl
   rw[this]
  rw[e1,d_] at h;have e2:((λd=>((c d).map f).getD .aS)∘b)=f:=by funext x;show((c<|b x).map f).getD .aS=f x;rw[k];rfl
  rw[e2] at h;exact h
 ·obtain⟨x,v,rfl⟩:=cY.mp J;have:=M x v;rw[eb] at this;cases this;obtain⟨h1,h2⟩:=S s H C u t x v;rw[k];exact⟨h1,λq=>h2 q⟩
 ·obtain⟨x,v,rfl⟩:=cY.mp J;exact⟨_,M x v⟩
def mE:Dt->Option Pt
 |.a9 [.int x,.int y]=>some (x,y)
 |_=>none
def ud(p:Pt):mE (dP p)=some p:=rfl
def Ec:Dt->Option Int
 |.int i=>some i
 |_=>none
end L3
namespace Pf
open PySem PySem.Spec PyProof.Rows L2 L3
open Sy(Pt turn onStretch through meet before edges area Ring onRing inRing crosses ringOk)
def sD:Dt->Option (Pt×Pt)
 |.a9 [a,b]=>(mE a).bind λp=>(mE b).map λq=>(p,q)
 |_=>none
def uf(e:Pt×Pt):sD (dE e)=some e:=rfl
def D7:Dt->Option (Pt×Pt×Pt)
 |.a9 [a,b,c]=>(mE a).bind λp=>(mE b).bind λq=>(mE c).map λr=>(p,q,r)
 |_=>none
def Ki(e:Pt×Pt×Pt):D7 (dC e)=some e:=rfl
def Ta(r:aC):bR r=((aj r).map λe=>e.1.1*e.2.2-e.1.2*e.2.1).sum:=by rfl
def JY:bP ["ring","a","b"] ["ring"] (bh<|aF 42):={}
def Vt(F:bK b "twice_area" "twice_area" (aF 42) f t)(M:MG j)(p:aU a w b j c "edges_of" 1 (aA b pj)):bB a w b j c bC 2 f t ["ring"] (aA b rZ):=by
 refine cN F JY (λv d⟨r,e,_⟩=>by grind) λy A g s H E v d n⟨r,e,k,o,u⟩=>?_;subst e u;have h:=JY.nd;have J:=jS k;rw[Ta];refine bb (bj (Xd (bU (jl (be:=[("a",1),("b",2)]) dE sD uf (aj r) (λ_=>true) (λe=>.int<|e.1.1*e.2.2-e.1.2*e.2.1) (λe=>[some<|dR r,some<|dP e.1,some<|dP e.2]) (fc<|aK p n (ah (ab 0) au) ⟨r,rfl,k,rfl⟩) (g_ rfl)
  (λs H C x q=>kc rfl<|eD (cG (i:=1) h rfl<|cj rfl)<|eD (cG (i:=2) h rfl<|cj rfl) ka) (sx b 1 2) (λe l=>rfl) (λs H C x q e l=>⟨kF,λ_=>?_⟩) (by rw[Ld.fS];omega) rfl h) ?_) M.sum rfl))
 ·have b1:=o _<|Ld.g0 l;obtain⟨I,D,B,z⟩:=b1;exact me (qG (px 1) (py 2)<|.inl ⟨by omega,by omega⟩)<|qG (py 1) (px 2)<|.inl ⟨by omega,by omega⟩
 ·rw[jz.mpr λ_ _=>rfl,d_];rfl
def Lj:bP ["ring","point","a","b"] ["ring","point"] (bh<|aF 46):={}
def W9(F:bK b "is_on_edge" "is_on_edge" (aF 46) f y)(M:MG j)(v:aU a w b j c "edges_of" 1 (aA b pj))(u:aU a w b j c "on_stretch" 2 (aA b uG)):bB a w b j c bC 3 f y ["ring","point"] (aA b zC):=by
 refine cN F Lj (λD d⟨r,p,e,_⟩=>by grind) λJ A g s H E D d m⟨r,p,e,n,o,t,z⟩=>?_;subst e z;have h:=Lj.nd;have L:=jS n;have k:=m.cb<|show 1<=2 by decide
 have B:b_ r p=((aj r).map λe=>bN e.1 e.2 p).any id:=by unfold b_;simp
 rw[B];refine bb (bj (y9 (bU (jl (be:=[("a",2),("b",3)]) dE sD uf (aj r) (λ_=>true) (λe=>.bl<|bN e.1 e.2 p) (λe=>[some<|dR r,some<|dP p,some<|dP e.1,some<|dP e.2]) (fc<|aK v k (ah (ab 0) au) ⟨r,rfl,n,rfl⟩) (g_ rfl)
  (λs H C I x=>kc rfl<|eD (cG (i:=2) h rfl<|cj rfl)<|eD (cG (i:=3) h rfl<|cj rfl) ka) (sx b 2 3) (λe l=>rfl) (λs H C I x e l=>⟨kF,λ_=>?_⟩) (by rw[Ld.fS];omega) rfl h) ?_) M.any rfl))
 ·exact aK u m (ah (ab 1)<|ah (ab 2)<|ah (ab 3) au) ⟨p,e.1,e.2,rfl,t,o _<|Ld.g0 l,o _<|Ld.j7 l,rfl⟩
 ·rw[jz.mpr λ_ _=>rfl,d_];rfl
def Lq:bP ["ring","point","inside","a","b"] ["ring","point"] (bh<|aF 47):={}
def Yy(F:bK c "is_inside" "is_inside" (aF 47) f Q)(O:aU a w c u g "edges_of" 1 (aA c pj))(C:aU a w c u g "on_stretch" 2 (aA c uG))(I:aU a w c u g "is_passed" 2 (aA c HR)):bB a w c u g bC 3 f Q ["ring","point"] (aA c zQ):=by
 refine cN F Lq (λT d⟨r,p,e,_⟩=>by grind) λU A t s H E T d k⟨r,p,e,N,D,m,S⟩=>?_;subst e S;have o:=Lq.nd;have x:=k.cb<|show 1<=2 by decide
 refine dQ (c_ (i:=2) fm o) ?_;have l:∀(h:List (Pt×Pt))(b:Bool),ng (β:=Bool) (λ(e:Pt×Pt)b=>if bN e.1 e.2 p=true then .inr (.bl false) else .inl (if eB p e=true then !b else b)) h b=
  if h.any (λe=>bN e.1 e.2 p)=true then .inr (.bl false) else .inl (b^^((h.filter<|eB p).length%2==1)):=by
  intro h;induction h with
  |nil=>intro b;show eX b=if false=true then _ else _;simp
  |cons e h M=>
   intro b;unfold ng;by_cases q:bN e.1 e.2 p=true;·grind
   ·have j:bN e.1 e.2 p=false:=by grind
    rw[aL q,rA,j,xl];show ng _ h _=_;rw[M];by_cases z:h.any (λe=>bN e.1 e.2 p)=true;·grind
    ·rw[aL z,aL z];congr 1;grind
 have B:∀e∈aj r,Bp e.1/\Bp e.2:=λe n=>⟨D _<|Ld.g0 n,D _<|Ld.j7 n⟩
 refine yA (β:=Bool) (xs:=aj r) (enc:=dE) (λb=>[some<|dR r,some<|dP p,some<|.bl b,none,none]) (λe b=>[some<|dR r,some<|dP p,some<|.bl b,some<|dP e.1,some<|dP e.2])
  (λe b=>if bN e.1 e.2 p=true then .inr (.bl false) else .inl (if eB p e=true then !b else b)) (λ_=>True) (b:=false) trivial ⟨rfl,rfl,rfl,trivial⟩ (fc<|aK O x (ah (ab 0) au) ⟨r,rfl,N,rfl⟩)
  (kc rfl<|eD (cG (i:=3) o rfl<|cj rfl)<|eD (cG (i:=4) o rfl<|cj rfl) ka) (wN c 3 4) (λe n b _=>rfl) ?_ ?_ ?_ jB rfl
 ·intro e n b _;obtain⟨b1,b2⟩:=B e n;by_cases q:bN e.1 e.2 p=true
  ·rw[aM q];exact bb<|md (cW (dD<|aK C k (ah (ab 1)<|ah (ab 3)<|ah (ab 4) au) ⟨p,e.1,e.2,rfl,m,b1,b2,rfl⟩) q)<|bb<|bj fm
  ·have j:bN e.1 e.2 p=false:=by grind
   rw[aL q];refine⟨trivial,?_⟩;by_cases y:eB p e=true
   ·rw[aM y];exact⟨_,dQ (kI (cW (dD<|aK C k (ah (ab 1)<|ah (ab 3)<|ah (ab 4) au) ⟨p,e.1,e.2,rfl,m,b1,b2,rfl⟩) j) jK)
     (pb<|md (cW (dD<|aK I k (ah (ab 1)<|ah (ab 3)<|ah (ab 4) au) ⟨p,e.1,e.2,rfl,m,b1,b2,j,rfl⟩) y)<|pb<|c_ (i:=2) (K7<|ab 2) o),⟨rfl,rfl,rfl,trivial⟩⟩
   ·have L:eB p e=false:=by grind
    rw[aL y];exact⟨_,dQ (kI (cW (dD<|aK C k (ah (ab 1)<|ah (ab 3)<|ah (ab 4) au) ⟨p,e.1,e.2,rfl,m,b1,b2,rfl⟩) j) jK)
     (pb<|kI (cW (dD<|aK I k (ah (ab 1)<|ah (ab 3)<|ah (ab 4) au) ⟨p,e.1,e.2,rfl,m,b1,b2,j,rfl⟩) L) jK),⟨rfl,rfl,rfl,trivial⟩⟩
 ·intro Y e;rw[l] at e;by_cases z:(aj r).any (λe=>bN e.1 e.2 p)=true;·grind
  ·rw[aL z] at e;cases e;refine bb<|bj<|bU (ab 2) ?_;unfold cB b_;grind
 ·intro v e;rw[l] at e;by_cases z:(aj r).any (λe=>bN e.1 e.2 p)=true
  ·rw[aM z] at e;cases e;unfold cB b_;grind
  grind
open Sy(tidy bare firstAt rolled)
def DK:List Dt->Dt->Prop:=λa d=>∃r:aC,a=[dR r]/\r.length<=10000/\d=.bl (dz r)
def CA:List Dt->Dt->Prop:=λa d=>∃r:aC,a=[dR r]/\r.length<=10000/\(∀p∈r,Bp p)/\bare r≠[]/\d=dR (tidy r)
def Vh(h:(0<=p.1/\p.1<=1000000)/\0<=p.2/\p.2<=1000000):Bq p:=⟨by omega,by omega,by omega,by omega⟩
def tP(h:c∈Ld.fU r):c.1∈r/\c.2.1∈r/\c.2.2∈r:=by unfold Ld.fU at h;have a:=rq h;have b:=rq a.2;grind
def Lh:bP ["ring","point","a","b","c"] ["ring"] (bh<|aF 44):={}
def W_(F:bK b "may_be" "may_be" (aF 44) f fd)(M:MG t)(h1:aU a w b t g "is_near" 1 (aA b Kf))(h2:aU a w b t g "twice_area" 2 (aA b rZ))(h3:aU a w b t g "corners_of" 1 (aA b Bx))(h4:aU a w b t g "cross" 1 (aA b qz))(h5:aU a w b t g "edges_of" 1 (aA b pj))(h6:aU a w b t g "apart_ones_meet" 4 (aA b Cb)):bB a w b t g bC 5 f fd ["ring"] (aA b DK):=by
 refine cN F Lh (λds d⟨r,e,_⟩=>by grind) λd' A S s H E ds d B⟨r,e,J,ed⟩=>?_;subst e ed;have y:=Lh.nd;have hz:=jS J;have j:=B.cb<|show 1<=4 by decide
 have U:=B.cb<|show 2<=4 by decide
 have T:=Ld.P5 r;have D:(¬(3<=r.length/\r.length<=64/\(∀p∈r,(0<=p.1/\p.1<=1000000)/\0<=p.2/\p.2<=1000000)/\(∀q∈r,aY q (r.headD (0,0))=false)/\0<bR r/\
  (∀c∈Ld.fU r,bc c.1 c.2.1 c.2.2≠0)/\Ld.pw (aj r) true))->dz r=false:=by grind
 obtain⟨t1,m1⟩:=M.lp;obtain⟨t2,m2⟩:=M.mp;have k:(r.map dP).length=r.length:=bS _;refine eS (ke (cw (eH (ab 0) M.aX)<|cS m1) λ_=>mh<|cw (eH (ab 0) M.aX)<|cS m2).dt (λh=>?_) λh=>?_
 ·have h:(decide (((r.map dP).length:Int)<3)||decide ((64:Int)<((r.map dP).length:Int)))=true:=h;rw[k,oX,eg,eg] at h;rw[D λq=>by omega];exact bb<|bj fm
 have h:(decide (((r.map dP).length:Int)<3)||decide ((64:Int)<((r.map dP).length:Int)))=false:=h;rw[k,rj,o8,o8] at h;have l3:3<=r.length:=by omega
 have c':r.length<=64:=by omega
 have o:(r.map λp=>decide<|(0<=p.1/\p.1<=1000000)/\0<=p.2/\p.2<=1000000).all id=true↔∀p∈r,(0<=p.1/\p.1<=1000000)/\0<=p.2/\p.2<=1000000:=by simp
 refine eS (m9 (dD (v7 (l:=r.map λp=>decide<|(0<=p.1/\p.1<=1000000)/\0<=p.2/\p.2<=1000000) (bU (jl (be:=[("point",1)]) dP mE ud r (λ_=>true) (λp=>.bl<|decide<|(0<=p.1/\p.1<=1000000)/\0<=p.2/\p.2<=1000000) (λp=>[some<|dR r,some<|dP p,none,none,none]) (fc<|ab 0) (g_ rfl)
  (λs H C Z Y=>cG (i:=1) y rfl<|cj rfl) (mI b 1) (λe L=>rfl) (λs H C Z Y p I=>⟨kF,λ_=>aK h1 j (ah (ab 1) au) ⟨p,rfl,rfl⟩⟩) (by omega) rfl y) (by rw[jz.mpr λ_ _=>rfl,d_];rfl)) M.all rfl))) (λh=>?_) (λh=>?_)
 ·rw[h_] at h;rw[D<|by grind];exact bb<|bj fm
 have nr:=o.mp<|by grind
 have bq:∀p∈r,Bq p:=λp I=>Vh<|nr p I;have N:∀p∈r,Bp p:=λp I=>(bq p I).p;have O:r≠[]:=by grind
 obtain⟨m,hm,lo⟩:=Ld.tW r O;obtain⟨v,Q,er⟩:∃x Q,r=x::Q:=by cases r with|nil=>grind|cons x Q=>grind
 have hd:r.headD (0,0)=v:=by grind
 have a':e5 (r.map dP) 0=some (dP v):=by rw[er];exact fM<|by grind
 refine eS (ke (r6 (dG (ab 0) a7 a') (JI (ab 0) hm lo M.min rfl<|pD B) B.units) λ_=>mh<|cw (aK h2 U (ah (ab 0) au) ⟨r,rfl,J,N,rfl⟩) a7).dt (λh=>?_) λh=>?_
 ·have h:(!decide (v=m)||decide (bR r<=0))=true:=h;rw[D λq=>by
   have q1:=q.2.2.2.1;rw[hd] at q1;have e:v=m:=by
    by_cases z:v=m;·exact z
    ·rcases Ld.vi z with u|u;·grind
     grind
   grind]
  exact bb<|bj fm
 have h:(!decide (v=m)||decide (bR r<=0))=false:=h;rw[rj,Ar,eg,o8] at h;obtain⟨e0,ha⟩:=h;have b':∀q∈r,aY q (r.headD (0,0))=false:=by grind
 have n:((Ld.fU r).map λc=>!decide (bc c.1 c.2.1 c.2.2=0)).all id=true↔∀c∈Ld.fU r,bc c.1 c.2.1 c.2.2≠0:=by simp
 refine eS (m9 (dD (v7 (l:=(Ld.fU r).map λc=>!decide (bc c.1 c.2.1 c.2.2=0)) (bU (jl (be:=[("a",2),("b",3),("c",4)]) dC D7 Ki (Ld.fU r) (λ_=>true) (λc=>.bl<|!decide (bc c.1 c.2.1 c.2.2=0)) (λc=>[some<|dR r,none,some<|dP c.1,some<|dP c.2.1,some<|dP c.2.2])
  (fc<|aK h3 j (ah (ab 0) au) ⟨r,rfl,J,rfl⟩) (g_ rfl)
  (λs H C Z Y=>kc rfl<|eD (cG (i:=2) y rfl<|cj rfl)<|eD (cG (i:=3) y rfl<|cj rfl)<|eD (cG (i:=4) y rfl<|cj rfl) ka) (L6 b 2 3 4) (λe L=>rfl)
  (λs H C Z Y c X=>⟨kF,λ_=>kK (aK h4 j (ah (ab 2)<|ah (ab 3)<|ah (ab 4) au) ⟨c.1,c.2.1,c.2.2,rfl,N _ (tP X).1,N _ (tP X).2.1,N _ (tP X).2.2,rfl⟩) a7⟩) (by rw[Ld.vg];omega) rfl y) (by rw[jz.mpr λ_ _=>rfl,d_];rfl)) M.all rfl))) (λh=>?_) (λh=>?_)
 ·rw[h_] at h;rw[D<|by grind];exact bb<|bj fm
 have tr:=n.mp<|by grind
 refine bb<|bj<|bU (K7<|aK h6 B (ah (aK h5 j (ah (ab 0) au) ⟨r,rfl,J,rfl⟩)<|ah fm au) ⟨aj r,true,rfl,λe L=>⟨bq _<|Ld.g0 L,bq _<|Ld.j7 L⟩,by rw[Ld.fS];omega,rfl⟩) ?_;congr 1;rw[mM,h_,Gg,T];grind
def HF:bP ["ring","turns","first","a","b","c"] ["ring"] (bh<|aF 45):={}
def SE(F:bK b "put_right" "put_right" (aF 45) f D)(M:MG l)(y:aU a w b l g "corners_of" 1 (aA b Bx))(x:aU a w b l g "cross" 1 (aA b qz)):bB a w b l g bC 2 f D ["ring"] (aA b CA):=by
 refine cN F HF (λJ d⟨r,e,_⟩=>by grind) λN A k s H E J d j⟨r,e,t,q,O,I⟩=>?_;subst e I;have h:=HF.nd;have R:=jS t;have u:=Ld.A4 r;have Q:(bare r).length<=r.length:=by rw[u,bS,<-Ld.vg];grind
 obtain⟨m,n,lo⟩:=Ld.tW (bare r) O;have B:=Ld.OE n lo;refine dQ (x6 (i:=1) (be:=[("a",3),("b",4),("c",5)]) dC D7 Ki (Ld.fU r) (λc=>!decide (bc c.1 c.2.1 c.2.2=0)) (λc=>dP c.2.1) (λc=>[some<|dR r,none,none,some<|dP c.1,some<|dP c.2.1,some<|dP c.2.2])
  (fc<|aK y j (ah (ab 0) au) ⟨r,rfl,t,rfl⟩) (g_ rfl)
  (λs H C L z=>kc rfl<|eD (cG (i:=3) h rfl<|cj rfl)<|eD (cG (i:=4) h rfl<|cj rfl)<|eD (cG (i:=5) h rfl<|cj rfl) ka) (L6 b 3 4 5) (λe S=>rfl)
  (λs H C L z c o=>⟨rS<|cw (aK x j (ah (ab 3)<|ah (ab 4)<|ah (ab 5) au) ⟨c.1,c.2.1,c.2.2,rfl,q _ (tP o).1,q _ (tP o).2.1,q _ (tP o).2.2,rfl⟩) a7,λ_=>ab 4⟩) (by rw[Ld.vg];omega) rfl h) ?_
 have p:Dt.aq (((Ld.fU r).filter λc=>!decide (bc c.1 c.2.1 c.2.2=0)).map λc=>dP c.2.1)=dR (bare r):=by unfold dR;rw[u,d_];rfl
 rw[p];refine dQ (c_ (i:=2) (BV (ab 1) (JI (ab 1) n lo M.min rfl<|pD j) n j.units) h) ?_;refine bb<|bj<|bU (lm (ji (ab 1) (gB<|ab 2) kb) (ji (ab 1) kb<|gB<|ab 2) ?_) ?_;·rw[qv,qF,AA,rp,bS];omega
 ·rw[qv,qF,<-o0,<-n_,<-dw];unfold tidy dR;rw[<-B];rfl
end Pf
namespace L3
open PySem PySem.Spec PyProof.Rows L2
open Sy(Pt before)
def OX{ps:List Pt}(u:DE X a g (.aq<|ps.map dP))(r:X.mg "sorted"=none)(s:Gl X "sorted":=by rfl)(t:aB [a] X.ae=(false,aO a X.ae)::aB [] X.ae:=by rfl):
 ME X (.Call (.Name "sorted" p) [a] [] i) M g λw d=>∃(q:aa)(S:List Pt),M q=none/\S.Perm ps/\S.Pairwise (λp q=>aY q p=false)/\w=bo M q (.ob<|.aq<|S.map dP)/\d=.aD q:=
 PE.aN (O8 u r s t) λx H Q⟨f,q⟩=>⟨aE M,f.cd,λS h l y c n k b j=>by have e:=f.mm.same c;have v:=hH (M:=M) (m:=.ob<|.aq<|S.map dP) (o:=.aq h)<|.inr b;exact q _ _ _ _ ⟨l,S,pi e b,n,k,rfl,rfl⟩ (by rw[v];exact ca c) (e.eO (.inr b)<|.aq j)<|.aD l⟩
end L3
namespace Pf
open PySem PySem.Spec PyProof.Rows L2 L3
open Sy(Pt turn onStretch through meet before edges area Ring onRing inRing crosses ringOk tidy bare firstAt rolled fine)
def Dh:List Dt->Dt->Prop:=λb d=>∃(r:aC)(a:List Pt),b=[dR r,dR a]/\r.length<=1000/\a.length<=1000/\(∀p∈r,Bp p)/\(∀p∈a,Bp p)/\a.Nodup/\(∀e∈aj r,e.1≠e.2)/\d=dR (fine r a)
def dg(a:List Pt)(e:Pt×Pt):List Pt:=e.1::Ld.ei a e
def QA(r:aC)(a:List Pt):fine r a=(aj r).flatMap (dg a):=rfl
def HC:∀(n:Nat)(l:List Pt),l.length<=n->l.eraseDups.length<=l.length
 |_,[],_=>cs _
 |n+1,a::l,h=>by
  rw[Ey,dI,dI];have c:=w9 (λb=>!b==a) l;have:=HC n (l.filter λb=>!b==a)<|by grind
  omega
def CN(a:List Pt)(b:a.Nodup)(e:Pt×Pt):(Ld.ei a e).length<=a.length:=by unfold Ld.ei;rw[List.length_mergeSort];refine dY (w9 _ _) ?_;exact HC _ a<|cs _
def JO:bP ["ring","points","whole","a","b","between","point"] ["ring","points"] (bh<|aF 49):={}
def Uo(F:bK b "with_points" "with_points" (aF 49) f fd)(G:MG N)(h1:aU a w b N n "edges_of" 1 (aA b pj))(h2:aU a w b N n "on_stretch" 2 (aA b uG)):bB a w b N n bC 3 f fd ["ring","points"] (aA b Dh):=by
 refine pS F JO (λds d⟨r,g,e,_⟩=>by grind) λg' A M s H E ds d I B⟨r,g,e,hl,f',bp,U,u,ne,c⟩=>?_;subst e c;have y:=JO.nd;have O:=B.cb<|show 1<=2 by decide
 have e':=fu;refine cZ (i4 (i:=2) (rT au) y) ?_;rintro M1 c' ⟨d,⟨w,hw,rfl,rfl⟩,rfl⟩;show cf _ _ _ [some<|dR r,some<|dR g,some<|.aD w,none,none,none,none] _;let h:Nat->List Dt:=λi=>(((aj r).take i).flatMap<|dg g).map dP;have D:∀i,i<=(aj r).length->(h i).length<=i*1001:=λi Z=>by
  show((((aj r).take i).flatMap<|dg g).map dP).length<=_;rw[bS,xb];have:∀l:List (Pt×Pt),(l.map λe=>(dg g e).length).sum<=l.length*1001:=by
   intro l;induction l with
   |nil=>grind
   |cons e l ih=>rw[dB,Ny,dI];have:=CN g u e;have:(dg g e).length=(Ld.ei g e).length+1:=rfl;omega
  grind
 have el:=Ld.fS r;refine cZ (P1:=λt k=>t=bo I w (.ob<|.aq<|h (aj r).length)/\k=[some<|dR r,some<|dR g,some<|.aD w,none,none,none,none]) (MS.imp (uh (λi t k=>t=bo I w (.ob<|.aq<|h i)/\k=[some<|dR r,some<|dR g,some<|.aD w,none,none,none,none]) (λ_ _=>False)
  (fc<|aK h1 O (ah (ab 0) au) ⟨r,rfl,by omega,rfl⟩) (kc rfl<|eD (cG (i:=3) y rfl<|gF rfl)<|eD (cG (i:=4) y rfl<|gF rfl) ka) (wN b 3 4) ⟨rfl,rfl⟩ ?_ jB rfl) ?_) ?_
 ·rintro i d T t k ⟨rfl,rfl⟩;rw[hZ] at T;cases Y:(aj r)[i]? with
  |none=>grind
  |some c=>
   rw[Y] at T;cases T;obtain⟨Z,R⟩:=gD.mp Y;have m:c∈aj r:=by grind
   have b1:=bp _<|Ld.g0 m;have b2:=bp _<|Ld.j7 m;refine⟨_,rfl,?_⟩;show cf _ _ _ [some<|dR r,some<|dR g,some<|.aD w,some<|dP c.1,some<|dP c.2,none,none] _;let X:Pt->Bool:=λp=>(!decide (p=c.1))&&((!decide (p=c.2))&&bN c.1 c.2 p);refine cZ (i4 (i:=5) (OX (ps:=g.filter X) (bU (jl (be:=[("point",6)]) dP mE ud g X dP (λp=>[some<|dR r,some<|dR g,some<|.aD w,some<|dP c.1,some<|dP c.2,none,some<|dP p]) (fc<|ab 1) (g_ rfl)
    (λs H C cl fp=>cG (i:=6) y rfl<|cj rfl) (mI b 6) (λe he=>rfl) (λs H C cl fp p hp=>⟨rS (rX (r6 (ab 6) (ab 3) B.units) λ_=>rX (r6 (ab 6) (ab 4) B.units) λ_=>yS<|dD<|aK h2 B (ah (ab 6)<|ah (ab 3)<|ah (ab 4) au) ⟨p,c.1,c.2,rfl,U p hp,b1,b2,rfl⟩).dt,λ_=>ab 6⟩) (by omega) rfl y) rfl) G.sorted) y) ?_
   rintro M2 L ⟨d2,⟨q,S,x,Q,v,rfl,rfl⟩,rfl⟩;show cf _ _ _ [some<|dR r,some<|dR g,some<|.aD w,some<|dP c.1,some<|dP c.2,some<|.aD q,none] _;have qw:q≠w:=λz=>by rw[z,bL] at x;cases x
   have j:Ld.ei g c=if aY c.2 c.1=true then S.reverse else S:=by refine Ld.WV (ne _ m) u ?_ v;grind
   refine cZ (P1:=λt k=>t=bo (bo I w<|.ob<|.aq<|h i) q (.ob<|.aq<|(Ld.ei g c).map dP)/\k=[some<|dR r,some<|dR g,some<|.aD w,some<|dP c.1,some<|dP c.2,some<|.aD q,none]) ?_ ?_
   ·cases z:aY c.2 c.1 with
    |true=>rw[aM z] at j;refine CT (cW (Ko (ab 3) (ab 4) B.C8) z)<|cZ (j_<|PV (ab 5) bL) ?_;rintro M3 J ⟨rfl,d3,rfl,rfl⟩;refine fj ⟨_,rfl,?_,rfl⟩;rw[fi,j,abL]
    |false=>rw[aL<|by grind] at j;refine Di (cW (Ko (ab 3) (ab 4) B.C8) z)<|fj ⟨_,rfl,?_,rfl⟩;rw[j]
   rintro M3 J ⟨rfl,rfl⟩;refine pc (i:=5) (p:=q) rfl bL ?_;rw[o_ x];show cf _ _ _ [some<|dR r,some<|dR g,some<|.aD w,some<|dP c.1,some<|dP c.2,some<|dR<|Ld.ei g c,none] _;have al:=D i<|by omega
   have ml:=CN g u c;refine cZ (j_<|BB (ab 2) (ab 3) bL<|by omega) ?_;rintro M4 b' ⟨rfl,d4,rfl,rfl⟩;rw[fi];refine cZ (j_ (Qg (ab 2) (ab 5) bL (by grind))) ?_
   rintro M5 a' ⟨rfl,d5,rfl,rfl⟩;rw[fi];refine oy (P:=λt o=>t=bo I w (.ob<|.aq<|h<|i+1)/\o=.nx [some<|dR r,some<|dR g,some<|.aD w,some<|dP c.1,some<|dP c.2,some<|dR<|Ld.ei g c,none]) (fj ⟨?_,rfl⟩) ?_
   ·congr 3;show h i++[dP c.1]++(Ld.ei g c).map dP=(((aj r).take<|i+1).flatMap<|dg g).map dP;rw[nJ Z,MX,dw,R,Aw];congr 1;rw[MP];rfl
   ·rintro M6 o ⟨rfl,rfl⟩;exact⟨[some<|dR r,some<|dR g,some<|.aD w,none,none,none,none],⟨rfl,rfl,rfl,trivial⟩,rfl,rfl⟩
 ·grind
 rintro M2 L ⟨rfl,rfl⟩;refine pc (i:=2) (p:=w) rfl bL ?_;rw[o_ hw];refine j9 (bb<|bj<|ab 2) ⟨rfl,?_⟩;show eh.rt (.aq<|h (aj r).length)=eh.rt (dR<|fine r g);show eh.rt (.aq<|(((aj r).take (aj r).length).flatMap<|dg g).map dP)=_;rw[EJ];rfl
def so:List Int->List Pt
 |a::b::l=>(a,b)::so l
 |_=>[]
def lL(l:List Int):Dt:=.aq<|l.map .int
def JN:∀(n:Nat)(l:List Int),l.length=2*n->so l=(j4 n).map λi=>(l.getD (2*i) 0,l.getD (2*i+1) 0)
 |0,l,h=>by
  have:l=[]:=by grind
  subst this;rfl
 |n+1,[],h=>by simp at h
 |n+1,[a],h=>by grind
 |n+1,a::b::l,h=>by
  have c:l.length=2*n:=by grind
  show(a,b)::so l=_;rw[JN n l c,MO,dB,d_];congr 1
def Kq:∀(l:List Int),(∀x∈l,0<=x)->bQ (l.map fz)=so l
 |[],_=>rfl
 |[a],_=>rfl
 |a::b::l,h=>by
  show(((a.toNat:Nat):Int),((b.toNat:Nat):Int))::bQ (l.map fz)=(a,b)::so l;have e:=h a cc;have d:=h b<|by grind
  rw[Kq l λx c=>h x<|e8 _<|e8 _ c,Ez e,Ez d]
def ZH(h:n<=1000000):D5 0 ((2*n:Nat):Int) 2 n:=by
 have a:Ak 0 ((2*n:Nat):Int) 2=n:=by unfold Ak;omega
 refine⟨by decide,by decide,?_,a⟩;have d:∀x:Int,-(2^62)<=x->x<2^62->ZT x=true:=λx c b=>by unfold ZT;grind
 unfold aaa;grind
def BZ:List Dt->Dt->Prop:=λa d=>∃(l:List Int)(n:Nat),a=[lL l]/\l.length=2*n/\n<=100000/\d=dR (so l)
def GV:List Dt->Dt->Prop:=λa d=>∃r:List Pt,a=[dR r]/\r.length<=100000/\d=lL (k4 r)
def Hs:bP ["numbers","k"] ["numbers"] (bh<|aF 9):={}
def QV(F:bK b "points_of" "points_of" (aF 9) f u)(G:MG p):bB a w b p m bC 1 f u ["numbers"] (aA b BZ):=by
 refine cN F Hs (λx d⟨l,n,e,_⟩=>by grind) λz A g s H E x d D⟨l,n,e,r,I,v⟩=>?_;subst e v;have h:=Hs.nd;have q:=fu;have c:(l.map Dt.int).length=2*n:=by grind
 have B:∀j:Nat,j<2*n->e5 (l.map Dt.int) (j:Int)=some (.int (l.getD j 0)):=λj J=>fM (by grind)
 refine bb (bj (bU (jl (be:=[("k",1)]) (λi:Nat=>Dt.int<|0+(i:Nat)*2) (λd=>(Ec d).map λi=>(i/2).toNat) (λi=>by
  show some ((0+((i:Nat):Int)*2)/2).toNat=some i;grind) (j4 n) (λ_=>true) (λi=>dP (l.getD (2*i) 0,l.getD (2*i+1) 0)) (λi=>[some<|lL l,some<|.int<|0+(i:Nat)*2])
  (Re a7 (bU (eH (ab 0) G.aX)<|by rw[c]) a7 G.range<|ZH<|by omega) (g_ rfl) (λs H C y t=>cG (i:=1) h rfl<|cj rfl) (mI b 1) (λe L=>rfl) (λs H C y t i k=>⟨kF,λ_=>?_⟩) (by grind) rfl h) ?_))
 ·have k:=nZ.mp k;refine gd (ah (dG (ab 0) (ab 1) ?_)<|ah (dG (ab 0) (jm (ab 1) a7) ?_) au)<|show 2<=bx by decide
  ·grind
  grind
 ·rw[jz.mpr λ_ _=>rfl,JN n l r];unfold dR;simp
def FS:bP ["points","numbers","point"] ["points"] (bh<|aF 10):={}
def OS(F:bK b "numbers_of" "numbers_of" (aF 10) f D):bB a w b M v bC 1 f D ["points"] (aA b GV):=by
 refine pS F FS (λJ d⟨r,e,_⟩=>by grind) λL A k s H E J d q O⟨r,e,Q,I⟩=>?_;subst e I;have t:=FS.nd;have B:=fu;refine cZ (i4 (i:=1) (rT au) t) ?_;rintro M1 z ⟨d,⟨w,hw,rfl,rfl⟩,rfl⟩;show cf _ _ _ [some<|dR r,some<|.aD w,none] _;let c:Nat->List Dt:=λi=>(k4<|r.take i).map .int;have j:∀i,(c i).length<=2*i:=λi=>by
  show((k4<|r.take i).map Dt.int).length<=_;unfold k4;rw[bS,xb];have:∀l:List Pt,(l.map λp=>([p.1,p.2]:List Int).length).sum=2*l.length:=by
   intro l;induction l with
   |nil=>rfl
   |cons e l N=>grind
  grind
 refine cZ (P1:=λh g=>h=bo q w (.ob<|.aq<|c r.length)/\g=[some<|dR r,some<|.aD w,none]) (MS.imp (uh (λi h g=>h=bo q w (.ob<|.aq<|c i)/\g=[some<|dR r,some<|.aD w,none]) (λ_ _=>False)
  (fc<|ab 0) (cG (i:=2) t rfl<|cj rfl) (pO b 2) ⟨rfl,rfl⟩ ?_ jB rfl) ?_) ?_
 ·rintro i d n h g ⟨rfl,rfl⟩;rw[hZ] at n;cases u:r[i]? with
  |none=>grind
  |some p=>
   rw[u] at n;cases n;obtain⟨C,m⟩:=gD.mp u;refine⟨_,rfl,?_⟩;have S:=j i;refine cZ (j_<|Gc (ab 1) (ab 2) bL<|by grind) ?_;rintro X x ⟨rfl,R,rfl,rfl⟩;rw[fi];refine oy (P:=λh o=>h=bo q w (.ob<|.aq<|c<|i+1)/\o=.nx [some<|dR r,some<|.aD w,some<|dP p]) (fj ⟨?_,rfl⟩) ?_
   ·congr 3;show c i++[Dt.int p.1,Dt.int p.2]=(k4<|r.take<|i+1).map .int;rw[nJ C];unfold k4;rw[MX,dw,m,MP];rfl
   ·rintro U o ⟨rfl,rfl⟩;exact⟨[some<|dR r,some<|.aD w,none],⟨rfl,rfl,trivial⟩,rfl,rfl⟩
 ·grind
 rintro M2 y ⟨rfl,rfl⟩;refine pc (i:=1) (p:=w) rfl bL ?_;rw[o_ hw];refine j9 (bb<|bj<|ab 1) ⟨rfl,?_⟩;show eh.rt (.aq<|(k4<|r.take r.length).map .int)=_;rw[EJ];rfl
open Sy(stretches twice half wayOk)
def x5(p:b->Bool)(d:Dt):∀a:List b,ng (β:=Unit) (λx _=>if p x=true then .inr d else .inl ()) a ()=if a.any p=true then .inr d else .inl ()
 |[]=>rfl
 |x::a=>by
  unfold ng;cases q:p x with
  |true=>grind
  |false=>rw[aL gu,rA,q,xl];exact x5 p d a
structure Bh(p:Pt):Prop where
 a:-8589934592<=p.1
 b:p.1<=8589934592
 c:-8589934592<=p.2
 d:p.2<=8589934592
def Bh.p(h:Bh e):Bp e:=⟨by have:=h.a;omega,by have:=h.b;omega,by have:=h.c;omega,by have:=h.d;omega⟩
def Bh.q(h:Bh e):Bq e:=h.p.q
def BK:List Dt->Dt->Prop:=λa d=>∃w:List Pt,a=[dR w]/\w.length<=10000/\d=ja (dN w)
def k_(w:List Pt):List (Pt×Pt×Pt):=(w.take<|w.length-2).zip<|((w.drop 1).take<|w.length-1-1).zip<|w.drop 2
def vZ(w:List Pt):Bool:=(k_ w).any (λc=>Ld.lF c.1 c.2.1 c.2.2)||qJ (dN w) false
def HX:List Dt->Dt->Prop:=λa d=>∃w:List Pt,a=[dR w]/\w.length<=1000/\(∀p∈w,Bp p)/\d=.bl (vZ w)
def H_:List Dt->Dt->Prop:=λc d=>∃(r:aC)(a b:Pt),c=[dR r,dP a,dP b]/\r.length<=10000/\(∀p∈r,Bh p)/\Bh a/\Bh b/\d=.bl (cB (twice r) (fK a b))
def K4:List Dt->Dt->Prop:=λc d=>∃(r:aC)(w:List Pt)(a b:Pt),c=[dR r,dR w,dP a,dP b]/\w≠[]/\r.length<=10000/\(∀p∈r,Bh p)/\Bh a/\Bh b/\d=.bl (Ld.free r (w.headD (0,0)) (w.getLastD (0,0)) (a,b))
def Ha:List Dt->Dt->Prop:=λa d=>∃(r:aC)(w:List Pt),a=[dR r,dR w]/\r.length<=10000/\w.length<=10000/\(∀p∈r,Bh p)/\(∀p∈w,Bh p)/\d=.bl (dJ r w)
def vF(h:w≠[]):e5 (w.map dP) 0=some (dP<|w.headD (0,0)):=by
 cases w with
 |nil=>grind
 |cons x l=>exact fM<|by grind
def vR(h:w≠[]):e5 (w.map dP) (-1)=some (dP<|w.getLastD (0,0)):=by
 have a:0<w.length:=Ew.mpr h;have e:mG (w.map dP).length (-1)=some (w.length-1):=by unfold mG;grind
 unfold e5;grind
def HP{w:List Pt}(h:w≠[]):w.headD (0,0)∈w:=by
 cases w with
 |nil=>grind
 |cons x l=>grind
def Sn{w:List Pt}(h:w≠[]):w.getLastD (0,0)∈w:=by rw[List.getLastD_eq_getLast?,Z8 h];grind
def A5:c∈k_ w↔∃j,j+2<w.length/\c=(Ld.wg w j,Ld.wg w (j+1),Ld.wg w (j+2)):=by
 have a:(k_ w).length=w.length-2:=by unfold k_;grind
 have e:∀j(d:j<(k_ w).length),(k_ w)[j]=(Ld.wg w j,Ld.wg w (j+1),Ld.wg w (j+2)):=λj d=>by have b:=d;rw[a] at b;simp only[k_,EM,abw,Nd];grind
 rw[Eu];grind
def Gn(w:List Pt):vZ w=false↔Ld.C4 w/\Ld.pw (dN w) false:=by
 unfold vZ;rw[rj,Gg];refine and_congr_left λ_=>?_;rw[Nf];constructor
 ·intro h j a;have:=h _<|A5.mpr ⟨j,a,rfl⟩;grind
 ·rintro h c b;obtain⟨j,a,rfl⟩:=A5.mp b;have:=h j a;grind
def O2(h:c∈k_ w):c.1∈w/\c.2.1∈w/\c.2.2∈w:=by obtain⟨j,a,rfl⟩:=A5.mp h;grind
def xN(h:s∈dN w):s.1∈w/\s.2∈w:=by obtain⟨j,a,rfl⟩:=Ld.xI.mp h;grind
def OT:bP ["way"] ["way"] (bh<|aF 66):={}
def O4(F:bK b "stretches_of" "stretches_of" (aF 66) f i)(G:MG h):bB a w b h g bC 1 f i ["way"] (aA b BK):=by
 refine cN F OT (λk d⟨r,e,_⟩=>by grind) λl A c s H E k d o⟨w,e,p,j⟩=>?_;subst e j;have n:dL (w.map dP) (some 1) none=(w.drop 1).map dP:=by rw[show(1:Int)=((1:Nat):Int) from rfl,qv,o0]
 have m:dL (w.map dP) none (some (-1))=(w.take (w.length-1)).map dP:=by rw[show(-1:Int)=-((1:Nat):Int) from rfl,CQ _ _ (by decide),bS,n_]
 refine bb<|bj<|bU (J8 (ji (ab 0) kb<|gB<|jn a7) (ji (ab 0) (gB a7) kb) G.list G.zip rfl) ?_;rw[n,m,Ch];unfold ja dN;congr 2;apply abN;·grind
 grind
def Hn:bP ["way","a","b","c"] ["way"] (bh<|aF 67):={}
def QW(F:bK g "meets_itself" "meets_itself" (aF 67) f M)(G:MG m)(C:aU a w g m h "turns_back" 2 (aA g Kb))(L:aU a w g m h "stretches_of" 1 (aA g BK))(J:aU a w g m h "apart_ones_meet" 4 (aA g Cb)):bB a w g m h bC 5 f M ["way"] (aA g HX):=by
 refine cN F Hn (λR d⟨r,e,_⟩=>by grind) λS A n s H E R d t⟨w,e,hl,j,Q⟩=>?_;subst e Q;have o:=Hn.nd;have p:=t.cb<|show 1<=4 by decide
 have l:=t.cb<|show 2<=4 by decide
 have X:dL (w.map dP) none (some (-2))=(w.take (w.length-2)).map dP:=by rw[show(-2:Int)=-((2:Nat):Int) from rfl,CQ _ _ (by decide),bS,n_]
 have U:dL (w.map dP) (some 1) (some (-1))=((w.drop 1).take (w.length-1-1)).map dP:=by rw[show(1:Int)=((1:Nat):Int) from rfl,show(-((1:Nat):Int))=-((1:Nat):Int) from rfl,IC _ _ _ (by decide),bS,n_,o0]
 have T:dL (w.map dP) (some 2) none=(w.drop 2).map dP:=by rw[show(2:Int)=((2:Nat):Int) from rfl,qv,o0]
 have N:oP (dL (w.map dP) none (some (-2))) (dL (w.map dP) (some 1) (some (-1))) (dL (w.map dP) (some 2) none)=(k_ w).map dC:=by rw[X,U,T,Cj];rfl
 have k:=x5 (λc:Pt×Pt×Pt=>Ld.lF c.1 c.2.1 c.2.2) (.bl true)<|k_ w;refine yA (β:=Unit) (xs:=k_ w) (enc:=dC) (λ_=>[some<|dR w,none,none,none]) (λc _=>[some<|dR w,some<|dP c.1,some<|dP c.2.1,some<|dP c.2.2]) (λc _=>if Ld.lF c.1 c.2.1 c.2.2=true then .inr (.bl true) else .inl ()) (λ_=>True) (b:=()) trivial ⟨rfl,trivial⟩
  (by rw[<-N];exact Vn (ji (ab 0) kb<|gB<|jn a7) (ji (ab 0) (gB a7)<|gB<|jn a7) (ji (ab 0) (gB a7) kb) G.zip)
  (kc rfl<|eD (cG (i:=1) o rfl<|cj rfl)<|eD (cG (i:=2) o rfl<|cj rfl)<|eD (cG (i:=3) o rfl<|cj rfl) ka) (Zu g 1 2 3) (λe u b _=>rfl) ?_ ?_ ?_ jB rfl
 ·intro c I b _;obtain⟨B,y,x⟩:=O2 I;by_cases q:Ld.lF c.1 c.2.1 c.2.2=true
  ·rw[aM q];exact bb<|md (cW (dD<|aK C l (ah (ab 1)<|ah (ab 2)<|ah (ab 3) au) ⟨c.1,c.2.1,c.2.2,rfl,j _ B,j _ y,j _ x,rfl⟩) q)<|bb<|bj fm
  ·have D:Ld.lF c.1 c.2.1 c.2.2=false:=by grind
   rw[aL q];exact⟨trivial,_,pb<|kI (cW (dD<|aK C l (ah (ab 1)<|ah (ab 2)<|ah (ab 3) au) ⟨c.1,c.2.1,c.2.2,rfl,j _ B,j _ y,j _ x,rfl⟩) D) jK,⟨rfl,trivial⟩⟩
 ·intro b' e;rw[k] at e;have z:(k_ w).any (λc=>Ld.lF c.1 c.2.1 c.2.2)=false:=by grind
  refine bb<|bj<|bU (aK J t (ah (aK L p (ah (ab 0) au) ⟨w,rfl,by omega,rfl⟩)<|ah fm au) ⟨dN w,false,rfl,λe u=>⟨(j _ (xN u).1).q,(j _ (xN u).2).q⟩,by rw[Ld.qm];omega,rfl⟩) ?_;unfold vZ;grind
 ·intro v e;rw[k] at e;cases z:(k_ w).any (λc=>Ld.lF c.1 c.2.1 c.2.2) with
  |false=>grind
  |true=>rw[z,aM rfl] at e;cases e;unfold vZ;grind
def HB:bP ["ring","a","b","twice","point"] ["ring","a","b"] (bh<|aF 68):={}
def Ri(F:bK g "middle_is_inside" "middle_is_inside" (aF 68) f y)(v:aU c w g o h "is_inside" 3 (aA g zQ)):bB c w g o h bC 4 f y ["ring","a","b"] (aA g H_):=by
 refine cN F HB (λD d⟨r,a,b,e,_⟩=>by grind) λJ A j s H E D d t⟨r,a,b,e,u,L,N,M,B⟩=>?_;subst e B;have k:=HB.nd;have T:=jS u;refine dQ (x6 (i:=3) (be:=[("point",4)]) dP mE ud r (λ_=>true) (λp=>dP (2*p.1,2*p.2)) (λp=>[some<|dR r,some<|dP a,some<|dP b,none,some<|dP p]) (fc<|ab 0) (g_ rfl)
  (λs H C I x=>cG (i:=4) k rfl<|cj rfl) (mI g 4) (λe U=>rfl) (λs H C I x p m=>⟨kF,λ_=>?_⟩) (by omega) rfl k) ?_
 ·refine bU (gd (ah (qG (px 4) a7<|.inr ⟨by decide,by decide⟩)<|ah (qG (py 4) a7<|.inr ⟨by decide,by decide⟩) au)<|show 2<=bx by decide) ?_;show Dt.a9 [.int<|p.1*2,.int<|p.2*2]=Dt.a9 [.int<|2*p.1,.int<|2*p.2];grind
 have z:Dt.aq ((r.filter λ_=>true).map λp=>dP (2*p.1,2*p.2))=dR (fJ r):=by rw[jz.mpr λ_ _=>rfl];unfold dR fJ;simp
 rw[z];obtain⟨a1,a2,Z,Y⟩:=N;obtain⟨b1,b2,b3,X⟩:=M;refine bb<|bj<|aK v t (ah (ab 3)<|ah (gd (ah (jm (px 1)<|px 2)<|ah (jm (py 1)<|py 2) au)<|show 2<=bx by decide) au) ⟨fJ r,fK a b,rfl,by unfold fJ;grind,λq l=>?_,⟨?_,?_,?_,?_⟩,rfl⟩
 ·unfold fJ at l;obtain⟨p,m,rfl⟩:=cY.mp l;obtain⟨S,R,Q,O⟩:=L p m;exact⟨by omega,by omega,by omega,by omega⟩
 ·show _<=a.1+b.1;omega
 ·show a.1+b.1<=_;omega
 ·show _<=a.2+b.2;omega
 ·show a.2+b.2<=_;omega
end Pf
namespace Pf
open PySem PySem.Spec PyProof.Rows L2 L3
open Sy(Pt turn onStretch through meet before edges area Ring onRing inRing crosses ringOk tidy bare firstAt rolled fine stretches half wayOk cut)
def GA:List Dt->Dt->Prop:=λc d=>∃(r:aC)(a b:Pt),c=[dR r,dP a,dP b]/\r.length<=10000/\a∈r/\b∈r/\a≠b/\d=dR (Ld.iQ r a b)
def IS:List Dt->Dt->Prop:=λa d=>∃(r:aC)(w:List Pt),a=[dR r,dR w]/\r.length<=1000/\(∀p∈r,Bh p)/\(∀p∈w,Bh p)/\Ld.bZ r/\dJ r w=true/\d=.a9 [dR (cut r w).1,dR (cut r w).2]
def PU{r:List Pt}(g:b∈r)(n:a≠b):b∈r.drop (r.idxOf a+1)++r.take (r.idxOf a):=by
 by_cases d:a∈r
 ·have c:=aah d;have e:r=r.take (r.idxOf a)++a::r.drop (r.idxOf a+1):=by have:=abg c;have f:=(uS (r.idxOf a) r).symm;rw[w6 c,this] at f;exact f
  grind
 ·rw[List.idxOf_eq_length d,w8<|cs _];grind
def Ja(h:p∈Ld.iQ r a b):p∈r:=by unfold Ld.iQ at h;grind
def Js(r:aC)(a b:Pt):(Ld.iQ r a b).length<=r.length:=by unfold Ld.iQ;grind
def vA(r:aC)(a:List Pt)(b:a.Nodup):(fine r a).length<=r.length*(a.length+1):=by
 rw[QA,xb,<-Ld.fS r];generalize aj r=l;induction l with
 |nil=>simp
 |cons e l c=>rw[dB,Ny,dI,Nat.succ_mul];have:=CN a b e;have:(dg a e).length=(Ld.ei a e).length+1:=rfl;omega
def JA:bP ["ring","way","a","b","c","d"] ["ring","way","a","b"] (bh<|aF 69):={}
def VD(F:bK g "is_free_stretch" "is_free_stretch" (aF 69) f R)(Q:aU c w g t j "edges_of" 1 (aA g pj))(I:aU c w g t j "cross_over" 2 (aA g De))(N:aU c w g t j "on_stretch" 2 (aA g uG))(O:aU c w g t j "middle_is_inside" 4 (aA g H_)):bB c w g t j bC 5 f R ["ring","way","a","b"] (aA g K4):=by
 refine cN F JA (λU d⟨r,w,a,b,e,_⟩=>by grind) λX A x s H E U d l⟨r,w,a,b,e,o,M,J,n,m,T⟩=>?_;subst e T;have L:=JA.nd;have B:=l.cb<|show 1<=4 by decide
 have k:=l.cb<|show 2<=4 by decide
 let h:Pt×Pt->Bool:=λe=>dZ a b e.1 e.2||((!decide (e.1=w.headD (0,0)))&&((!decide (e.1=w.getLastD (0,0)))&&bN a b e.1));have y:=x5 h (.bl false)<|aj r;have C:Ld.free r (w.headD (0,0)) (w.getLastD (0,0)) (a,b)=(!(aj r).any h&&cB (fJ r) (fK a b)):=by unfold Ld.free;grind
 refine yA (β:=Unit) (xs:=aj r) (enc:=dE) (λ_=>[some<|dR r,some<|dR w,some<|dP a,some<|dP b,none,none]) (λe _=>[some<|dR r,some<|dR w,some<|dP a,some<|dP b,some<|dP e.1,some<|dP e.2]) (λe _=>if h e=true then .inr (.bl false) else .inl ()) (λ_=>True) (b:=()) trivial ⟨rfl,rfl,rfl,rfl,trivial⟩
  (fc<|aK Q B (ah (ab 0) au) ⟨r,rfl,M,rfl⟩)
  (kc rfl<|eD (cG (i:=4) L rfl<|cj rfl)<|eD (cG (i:=5) L rfl<|cj rfl) ka) (wN g 4 5) (λe D b _=>rfl) ?_ ?_ ?_ jB rfl
 ·intro e D u _;have b1:=J _<|Ld.g0 D;have b2:=J _<|Ld.j7 D;cases v:dZ a b e.1 e.2 with
  |true=>
   have q:h e=true:=by grind
   rw[aM q];exact bb<|md (cW (dD<|aK I k (ah (ab 2)<|ah (ab 3)<|ah (ab 4)<|ah (ab 5) au) ⟨a,b,e.1,e.2,rfl,n.q,m.q,b1.q,b2.q,rfl⟩) v)<|bb<|bj fm
  |false=>
   have q:h e=((!decide (e.1=w.headD (0,0)))&&((!decide (e.1=w.getLastD (0,0)))&&bN a b e.1)):=by grind
   cases z:h e with
   |true=>rw[aM rfl];refine dQ (kI (cW (dD<|aK I k (ah (ab 2)<|ah (ab 3)<|ah (ab 4)<|ah (ab 5) au) ⟨a,b,e.1,e.2,rfl,n.q,m.q,b1.q,b2.q,rfl⟩) v) jK)<|bb<|md (cW (rX (r6 (ab 4) (dG (ab 1) a7<|vF o) l.units) λ_=>rX (r6 (ab 4) (dG (ab 1) (jn a7)<|vR o) l.units) λ_=>yS<|dD<|aK N k (ah (ab 4)<|ah (ab 2)<|ah (ab 3) au) ⟨e.1,a,b,rfl,b1.p,n.p,m.p,rfl⟩).dt<|q.symm.trans z)<|bb<|bj fm
   |false=>rw[aL gu];exact⟨trivial,_,dQ (kI (cW (dD<|aK I k (ah (ab 2)<|ah (ab 3)<|ah (ab 4)<|ah (ab 5) au) ⟨a,b,e.1,e.2,rfl,n.q,m.q,b1.q,b2.q,rfl⟩) v) jK)<|pb<|kI (cW (rX (r6 (ab 4) (dG (ab 1) a7<|vF o) l.units) λ_=>rX (r6 (ab 4) (dG (ab 1) (jn a7)<|vR o) l.units) λ_=>yS<|dD<|aK N k (ah (ab 4)<|ah (ab 2)<|ah (ab 3) au) ⟨e.1,a,b,rfl,b1.p,n.p,m.p,rfl⟩).dt<|q.symm.trans z) jK,⟨rfl,rfl,rfl,rfl,trivial⟩⟩
 ·intro b' e;rw[y] at e;have z:(aj r).any h=false:=by grind
  refine bb<|bj<|bU (aK O l (ah (ab 0)<|ah (ab 2)<|ah (ab 3) au) ⟨r,a,b,rfl,M,J,n,m,rfl⟩) ?_;grind
 grind
def F2:bP ["ring","way","point","a","b"] ["ring","way"] (bh<|aF 70):={}
def Xp(g:DE X a c (dP p))(f:DE X b c (dP q))(e:X.A.units+64<cH):DT X (.Compare a [.Eq] [b] d) c (decide<|p=q):=qA (VR e) g f (qK b) λF x y H Q i h k=>⟨_,_,qQ<|i.same bm,qQ<|h.same bm,by rfl,by rfl,k _ H (aW.refl H)<|by rw[vW];exact .bl _⟩
def Pp(F:bK b "goes_through" "goes_through" (aF 70) f fd)(G:MG m)(S:aU a w b m c "is_on_edge" 3 (aA b zC))(h2:aU a w b m c "is_inside" 3 (aA b zQ))(h3:aU a w b m c "meets_itself" 5 (aA b HX))(h4:aU a w b m c "stretches_of" 1 (aA b BK))(h5:aU a w b m c "is_free_stretch" 5 (aA b K4)):bB a w b m c bC 6 f fd ["ring","way"] (aA b Ha):=by
 refine cN F F2 (λds d⟨r,w,e,_⟩=>by grind) λd' A B s H E ds d t⟨r,w,e,x,hw,T,O,ed⟩=>?_;subst e ed;have o:=F2.nd;have J:=t.cb<|show 1<=5 by decide
 have k:=t.cb<|show 3<=5 by decide
 have a':=fu;have I:=Ld.G8 r w;have u:(¬(2<=w.length/\w.length<=20/\w.headD (0,0)≠w.getLastD (0,0)/\b_ r (w.headD (0,0))=true/\b_ r (w.getLastD (0,0))=true/\(∀v∈(w.drop 1).dropLast,cB r v=true)/\Ld.C4 w/\Ld.pw (dN w) false/\∀s∈dN w,Ld.free r (w.headD (0,0)) (w.getLastD (0,0)) s=true))->dJ r w=false:=by grind
 obtain⟨t1,X⟩:=G.lw;obtain⟨t2,U⟩:=G.mw;have g:(w.map dP).length=w.length:=bS _;refine eS (ke (cw (eH (ab 1) G.aX)<|cS X) λ_=>mh<|cw (eH (ab 1) G.aX)<|cS U).dt (λh=>?_) λh=>?_
 ·have h:(decide (((w.map dP).length:Int)<2)||decide ((20:Int)<((w.map dP).length:Int)))=true:=h;rw[g,oX,eg,eg] at h;rw[u λq=>by omega];exact bb<|bj fm
 have h:(decide (((w.map dP).length:Int)<2)||decide ((20:Int)<((w.map dP).length:Int)))=false:=h;rw[g,rj,o8,o8] at h;have l2:2<=w.length:=by omega
 have Z:w.length<=20:=by omega
 have j:w≠[]:=by grind
 have R:∀p∈w,Bp p:=λp n=>(O p n).p;have Q:∀p∈r,Bp p:=λp n=>(T p n).p;refine eS (ke (Xp (dG (ab 1) a7<|vF j) (dG (ab 1) (jn a7)<|vR j) t.units) (λ_=>ke (m9<|dD<|aK S k (ah (ab 0)<|ah (dG (ab 1) a7<|vF j) au) ⟨r,w.headD (0,0),rfl,x,Q,R _<|HP j,rfl⟩)
  (λ_=>mh<|m9<|dD<|aK S k (ah (ab 0)<|ah (dG (ab 1) (jn a7)<|vR j) au) ⟨r,w.getLastD (0,0),rfl,x,Q,R _<|Sn j,rfl⟩))).dt (λh=>?_) (λh=>?_)
 ·rw[u<|by grind];exact bb<|bj fm
 rw[rj,rj,o8,Ar,Ar] at h;obtain⟨b',n,hq⟩:=h;have M:(w.drop 1).dropLast=(w.drop 1).take (w.length-1-1):=by rw[aaR,AA]
 have c2:dL (w.map dP) (some 1) (some (-1))=((w.drop 1).dropLast).map dP:=by rw[M,show(1:Int)=((1:Nat):Int) from rfl,show(-((1:Nat):Int))=-((1:Nat):Int) from rfl,IC _ _ _ (by decide),bS,n_,o0]
 have D:(((w.drop 1).dropLast).map (cB r)).all id=true↔∀v∈(w.drop 1).dropLast,cB r v=true:=by simp only[AJ,iu];rfl
 have bin:∀v∈(w.drop 1).dropLast,Bp v:=by grind
 have Y:((w.drop 1).dropLast).length<=20:=by grind
 refine eS (m9 (dD (v7 (l:=((w.drop 1).dropLast).map<|cB r) (bU (jl (be:=[("point",2)]) dP mE ud ((w.drop 1).dropLast) (λ_=>true) (λp=>.bl<|cB r p) (λp=>[some<|dR r,some<|dR w,some<|dP p,none,none]) (by rw[<-c2];exact fc<|ji (ab 1) (gB a7)<|gB<|jn a7) (g_ rfl)
  (λs H C N L=>cG (i:=2) o rfl<|cj rfl) (mI b 2) (λe y=>rfl) (λs H C N L p n=>⟨kF,λ_=>aK h2 k (ah (ab 0)<|ah (ab 2) au) ⟨r,p,rfl,x,Q,bin p n,rfl⟩⟩) (by omega) rfl o) (by rw[jz.mpr λ_ _=>rfl,d_];rfl)) G.all rfl))) (λh=>?_) (λh=>?_)
 ·rw[h_] at h;rw[u<|by grind];exact bb<|bj fm
 have c':=D.mp<|by grind
 refine eS (dD<|aK h3 t (ah (ab 1) au) ⟨w,rfl,by omega,R,rfl⟩) (λh=>?_) λh=>?_
 ·rw[u λq=>by rw[(Gn w).mpr<|by grind] at h;cases h];exact bb<|bj fm
 obtain⟨nb,nm⟩:=(Gn w).mp h;have sl:=Ld.qm w;refine bb (bj (bU (v7 (l:=(dN w).map λs=>Ld.free r (w.headD (0,0)) (w.getLastD (0,0)) s) (bU (jl (be:=[("a",3),("b",4)]) dE sD uf (dN w) (λ_=>true) (λe=>.bl<|Ld.free r (w.headD (0,0)) (w.getLastD (0,0)) e) (λe=>[some<|dR r,some<|dR w,none,some<|dP e.1,some<|dP e.2])
  (fc<|aK h4 J (ah (ab 1) au) ⟨w,rfl,hw,rfl⟩) (g_ rfl) (λs H C N L=>kc rfl<|eD (cG (i:=3) o rfl<|cj rfl)<|eD (cG (i:=4) o rfl<|cj rfl) ka) (sx b 3 4) (λe y=>rfl)
  (λs H C N L e y=>⟨kF,λ_=>aK h5 t (ah (ab 0)<|ah (ab 1)<|ah (ab 3)<|ah (ab 4) au) ⟨r,w,e.1,e.2,rfl,j,x,T,O _ (xN y).1,O _ (xN y).2,rfl⟩⟩) (by omega) rfl o) (by rw[jz.mpr λ_ _=>rfl,d_];rfl)) G.all rfl) ?_))
 congr 1;rw[mM,I];simp only[AJ,iu];grind
def Gh:bP ["ring","a","b","start","turned"] ["ring","a","b"] (bh<|aF 71):={}
def P2(F:bK g "points_between" "points_between" (aF 71) f q):bB c w g z l bC 1 f q ["ring","a","b"] (aA g GA):=by
 refine cN F Gh (λx d⟨r,a,b,e,_⟩=>by grind) λy A h s H E x d k⟨r,a,b,e,m,p,o,n,v⟩=>?_;subst e v;have j:=Gh.nd;have B:=jS m;let t:=r.drop (r.idxOf a+1)++r.take (r.idxOf a);have u:Dt.aq (dL (r.map dP) (some ((r.idxOf a:Nat)+1:Int)) none++dL (r.map dP) none (some ((r.idxOf a:Nat):Int)))=dR t:=by rw[show((r.idxOf a:Nat)+1:Int)=((r.idxOf a+1:Nat):Int) by omega,qv,qF,<-o0,<-n_,<-dw];rfl
 refine dQ (c_ (i:=3) (BV (ab 0) (ab 1) p k.units) j) ?_;refine dQ (c_ (i:=4) (bU (lm (ji (ab 0) (gB<|jm (ab 3) a7) kb) (ji (ab 0) kb<|gB<|ab 3) ?_) u) j) ?_;·rw[show((r.idxOf a:Nat)+1:Int)=((r.idxOf a+1:Nat):Int) by omega,qv,qF,AA,rp,bS];omega
 refine bb<|bj<|bU (ji (ab 4) kb<|gB<|BV (ab 4) (ab 2) (PU o n) k.units) ?_;rw[qF,<-n_];rfl
def IB:bP ["ring","way","whole","left","right"] ["ring","way"] (bh<|aF 72):={}
def RS(F:bK b "split_ring" "split_ring" (aF 72) f fd)(G:MG n)(h1:aU a w b n c "with_points" 3 (aA b Dh))(R:aU a w b n c "points_between" 1 (aA b GA))(Q:aU a w b n c "put_right" 2 (aA b CA)):bB a w b n c bC 4 f fd ["ring","way"] (aA b IS):=by
 refine cN F IB (λT d⟨r,w,e,_⟩=>by grind) λc' A u s H E T d y⟨r,w,e,hl,U,o,S,L,ed⟩=>?_;subst e ed;have x:=IB.nd;have m:=y.cb<|show 1<=3 by decide
 have l:=y.cb<|show 2<=3 by decide
 have b':=fu;obtain⟨l2,a',g,J,I,_⟩:=(Ld.G8 r w).mp L;have t:w≠[]:=by grind
 generalize z:w.headD (0,0)=p at g J;generalize O:w.getLastD (0,0)=q at g I;have mp:p∈w:=by rw[<-z];exact HP t
 have mq:q∈w:=by grind
 have D:=Ld.TN S L z O;dsimp only at D;obtain⟨Z,Y,ec⟩:=D;have k:[p,q].Nodup:=by grind
 have fl:=vA r [p,q] k;have fl:(fine r [p,q]).length<=3000:=by grind
 have N:p∈fine r [p,q]:=Ld.qp (by simp) J;have M:q∈fine r [p,q]:=Ld.qp (by simp) I;have X:∀v∈fine r [p,q],Bp v:=λv j=>by
  rcases Ld.vz j with h|h;·exact(U v h).p
  ·rcases cO.mp h with h|h;·rw[h];exact(o _ mp).p
   ·rw[gY.mp h];exact(o _ mq).p
 have C:e5 (w.map dP) 0=some (dP p):=by rw[<-z];exact vF t
 have B:e5 (w.map dP) (-1)=some (dP q):=by rw[<-O];exact vR t
 refine dQ (c_ (i:=2) (aK h1 y (ah (ab 0)<|ah (gQ (ds:=[dP p,dP q]) (ah (dG (ab 1) a7 C)<|ah (dG (ab 1) (jn a7) B) au)<|show 2<=bx by decide) au) ⟨r,[p,q],rfl,hl,(show 2<=1000 by decide),λv j=>(U v j).p,λv j=>?_,k,λe he=>S.iZ he,rfl⟩) x) ?_;·grind
 have f':=Js (fine r [p,q]) q p;have e':=Js (fine r [p,q]) p q;refine dQ (c_ (i:=3) (bU (d':=dR<|w++Ld.iQ (fine r [p,q]) q p) (lm (ab 1) (aK R m (ah (ab 2)<|ah (dG (ab 1) (jn a7) B)<|ah (dG (ab 1) a7 C) au) ⟨fine r [p,q],q,p,rfl,by omega,M,N,ci g,rfl⟩) ?_) ?_) x) ?_;·grind
 ·unfold dR;grind
 refine dQ (c_ (i:=4) (bU (d':=dR<|w.reverse++Ld.iQ (fine r [p,q]) p q) (lm (UN (ab 1) G.list G.D9 rfl) (aK R m (ah (ab 2)<|ah (dG (ab 1) a7 C)<|ah (dG (ab 1) (jn a7) B) au) ⟨fine r [p,q],p,q,rfl,by omega,N,M,g,rfl⟩) ?_) ?_) x) ?_;·grind
 ·unfold dR;simp
 refine bb<|bj<|bU (gd (ah (aK Q l (ah (ab 3) au) ⟨w++Ld.iQ (fine r [p,q]) q p,rfl,?_,?_,Z,rfl⟩)<|ah (aK Q l (ah (ab 4) au) ⟨w.reverse++Ld.iQ (fine r [p,q]) p q,rfl,?_,?_,Y,rfl⟩) au)<|show 2<=bx by decide) ?_;·grind
 ·intro v j;rcases eI.mp j with h|h;·exact(o v h).p
  ·exact X v<|Ja h
 ·grind
 ·intro v j;rcases eI.mp j with h|h;·exact(o v<|List.mem_reverse.mp h).p
  ·exact X v<|Ja h
 grind
open Sy(besides)
def zO(r o:aC):Bool:=(aj r).any λe=>(aj o).any λf=>Ld.iI e.1 e.2 f.1 f.2
def Ks:List Dt->Dt->Prop:=λa d=>∃r o:aC,a=[dR r,dR o]/\r.length<=10000/\o.length<=10000/\(∀p∈r,Bp p)/\(∀p∈o,Bp p)/\d=.bl (zO r o)
def KS:List Dt->Dt->Prop:=λa d=>∃r o:aC,a=[dR r,dR o]/\r.length<=10000/\o.length<=10000/\(∀p∈r,Bp p)/\(∀p∈o,Bp p)/\d=.bl (r.any (b_ o))
def Ln:List Dt->Dt->Prop:=λa d=>∃r o:aC,a=[dR r,dR o]/\r.length<=10000/\o.length<=10000/\(∀p∈r,Bp p)/\(∀p∈o,Bp p)/\Ld.bZ r/\Ld.bZ o/\d=.int (iA r o:Nat)
def JM:bP ["ring","other","others","a","b","c","d"] ["ring","other"] (bh<|aF 84):={}
def Vu(F:bK c "have_opposite_stretch" "have_opposite_stretch" (aF 84) f S)(G:MG y)(M:aU a w c y j "edges_of" 1 (aA c pj))(L:aU a w c y j "run_opposite" 2 (aA c LI)):bB a w c y j bC 3 f S ["ring","other"] (aA c Ks):=by
 refine cN F JM (λY d⟨r,o,e,_⟩=>by grind) λZ A x s H E Y d B⟨r,o,e,R,J,O,q,U⟩=>?_;subst e U;have h:=JM.nd;have m:=B.cb<|show 1<=2 by decide
 have hz:=jS J;let g:Pt×Pt->Bool:=λe=>(aj o).any λf=>Ld.iI e.1 e.2 f.1 f.2;have k:=x5 g (.bl true)<|aj r;refine dQ (c_ (i:=2) (aK M m (ah (ab 1) au) ⟨o,rfl,J,rfl⟩) h) ?_;have Q:∀(e:Pt×Pt),e∈aj r->∀(X:Cx)(ρ:aG),True:=λ_ _ _ _=>trivial;refine yA (β:=Unit) (xs:=aj r) (enc:=dE) (λ_=>[some<|dR r,some<|dR o,some<|ja<|aj o,none,none,none,none]) (λe _=>[some<|dR r,some<|dR o,some<|ja<|aj o,some<|dP e.1,some<|dP e.2,none,none]) (λe _=>if g e=true then .inr (.bl true) else .inl ()) (λ_=>True) (b:=()) trivial ⟨rfl,rfl,rfl,trivial⟩
  (fc<|aK M m (ah (ab 0) au) ⟨r,rfl,R,rfl⟩)
  (kc rfl<|eD (cG (i:=3) h rfl<|gF rfl)<|eD (cG (i:=4) h rfl<|gF rfl) ka) (wN c 3 4) (λe p b _=>rfl) ?_ ?_ ?_ jB rfl
 ·intro e p u _;have b1:=O _<|Ld.g0 p;have b2:=O _<|Ld.j7 p;have N:g e=((aj o).map λf=>Ld.iI e.1 e.2 f.1 f.2).any id:=by rw[E8];rfl
  cases z:g e with
  |true=>
   rw[aM rfl];exact bb (md (cW (dD (y9 (l:=(aj o).map λf=>Ld.iI e.1 e.2 f.1 f.2) (bU (jl (be:=[("c",5),("d",6)]) dE sD uf (aj o) (λ_=>true) (λf=>.bl<|Ld.iI e.1 e.2 f.1 f.2) (λf=>[some<|dR r,some<|dR o,some<|ja<|aj o,some<|dP e.1,some<|dP e.2,some<|dP f.1,some<|dP f.2])
    (fc<|ab 2) (g_ rfl) (λs H C I D=>kc rfl<|eD (cG (i:=5) h rfl<|cj rfl)<|eD (cG (i:=6) h rfl<|cj rfl) ka) (sx c 5 6) (λe p=>rfl)
    (λs H C I D f n=>⟨kF,λ_=>aK L B (ah (ab 3)<|ah (ab 4)<|ah (ab 5)<|ah (ab 6) au) ⟨e.1,e.2,f.1,f.2,rfl,b1,b2,q _<|Ld.g0 n,q _<|Ld.j7 n,rfl⟩⟩) (by rw[Ld.fS];omega) rfl h) (by rw[jz.mpr λ_ _=>rfl,d_];rfl)) G.any rfl)) (N.symm.trans z)) (bb<|bj fm))
  |false=>
   rw[aL gu];exact⟨trivial,_,pb (kI (cW (dD (y9 (l:=(aj o).map λf=>Ld.iI e.1 e.2 f.1 f.2) (bU (jl (be:=[("c",5),("d",6)]) dE sD uf (aj o) (λ_=>true) (λf=>.bl<|Ld.iI e.1 e.2 f.1 f.2) (λf=>[some<|dR r,some<|dR o,some<|ja<|aj o,some<|dP e.1,some<|dP e.2,some<|dP f.1,some<|dP f.2])
    (fc<|ab 2) (g_ rfl) (λs H C I D=>kc rfl<|eD (cG (i:=5) h rfl<|cj rfl)<|eD (cG (i:=6) h rfl<|cj rfl) ka) (sx c 5 6) (λe p=>rfl)
    (λs H C I D f n=>⟨kF,λ_=>aK L B (ah (ab 3)<|ah (ab 4)<|ah (ab 5)<|ah (ab 6) au) ⟨e.1,e.2,f.1,f.2,rfl,b1,b2,q _<|Ld.g0 n,q _<|Ld.j7 n,rfl⟩⟩) (by rw[Ld.fS];omega) rfl h) (by rw[jz.mpr λ_ _=>rfl,d_];rfl)) G.any rfl)) (N.symm.trans z)) jK),⟨rfl,rfl,rfl,trivial⟩⟩
 ·intro b' e;rw[k] at e;have z:zO r o=false:=by
   cases z:(aj r).any g with
   |false=>exact z
   |true=>grind
  rw[z];exact bb<|bj fm
 ·intro v e;rw[k] at e;cases z:(aj r).any g with
  |false=>grind
  |true=>rw[z,aM rfl] at e;cases e;have z:zO r o=true:=z;rw[z]
def Jn:bP ["ring","other","point"] ["ring","other"] (bh<|aF 85):={}
def Vo(F:bK b "has_point_on_edge" "has_point_on_edge" (aF 85) f v)(G:MG j)(t:aU a w b j c "is_on_edge" 3 (aA b zC)):bB a w b j c bC 4 f v ["ring","other"] (aA b KS):=by
 refine cN F Jn (λz d⟨r,o,e,_⟩=>by grind) λD A g s H E z d l⟨r,o,e,q,n,I,J,x⟩=>?_;subst e x;have h:=Jn.nd;have L:=jS q;have y:r.any (b_ o)=(r.map (b_ o)).any id:=by simp
 rw[y];exact bb (bj (y9 (bU (jl (be:=[("point",2)]) dP mE ud r (λ_=>true) (λp=>.bl<|b_ o p) (λp=>[some<|dR r,some<|dR o,some<|dP p]) (fc<|ab 0) (g_ rfl)
  (λs H C B u=>cG (i:=2) h rfl<|cj rfl) (mI b 2) (λe M=>rfl) (λs H C B u p m=>⟨kF,λ_=>aK t l (ah (ab 1)<|ah (ab 2) au) ⟨o,p,rfl,n,J,I p m,rfl⟩⟩) (by omega) rfl h) (by rw[jz.mpr λ_ _=>rfl,d_];rfl)) G.any rfl))
def Wq:bP ["ring","other"] ["ring","other"] (bh<|aF 86):={}
def WM(F:bK b "how_beside" "how_beside" (aF 86) f C)(G:MG i)(y:aU a w b i c "have_opposite_stretch" 3 (aA b Ks))(t:aU a w b i c "has_point_on_edge" 4 (aA b KS)):bB a w b i c bC 5 f C ["ring","other"] (aA b Ln):=by
 refine cN F Wq (λI d⟨r,o,e,_⟩=>by grind) λJ A g s H E I d k⟨r,o,e,m,l,n,p,B,z,D⟩=>?_;subst e D;have j:=k.cb<|show 3<=4 by decide
 obtain⟨N,x⟩:=G.b0;obtain⟨M,v⟩:=G.b1;obtain⟨L,u⟩:=G.b2;rw[Ld.O6 B z];refine eS (dD<|aK y j (ah (ab 0)<|ah (ab 1) au) ⟨r,o,rfl,m,l,n,p,rfl⟩) (λh=>?_) λh=>?_
 ·rw[aM<|show((aj r).any λe=>(aj o).any λf=>Ld.iI e.1 e.2 f.1 f.2)=true from h];exact bb<|bj<|cS u
 rw[aL<|show ¬((aj r).any λe=>(aj o).any λf=>Ld.iI e.1 e.2 f.1 f.2)=true from λq=>by rw[show zO r o=true from q] at h;cases h];refine eS (ke (dD<|aK t k (ah (ab 0)<|ah (ab 1) au) ⟨r,o,rfl,m,l,n,p,rfl⟩) λ_=>mh<|dD<|aK t k (ah (ab 1)<|ah (ab 0) au) ⟨o,r,rfl,l,m,p,n,rfl⟩).dt (λh=>?_) λh=>?_
 ·rw[aM h];exact bb<|bj<|cS v
 ·rw[aL<|by grind];exact bb<|bj<|cS x
open Sy(openEdges joined)
def CM:∀(b a:List (Pt×Pt)),(b.foldl kh a).length<=a.length+b.length
 |[],a=>cs _
 |e::b,a=>by
  rw[kv,dI];have d:=CM b<|kh a e;have c:(kh a e).length<=a.length+1:=by unfold kh;grind
  omega
def Gj:∀(b a:List (Pt×Pt)),((a++b).map (·.1)).Nodup->b.foldl kh a=a++b
 |[],a,_=>by grind
 |e::b,a,h=>by
  rw[kv];have c:¬a.any (λx=>decide<|x.1=e.1)=true:=by grind
  have:kh a e=a++[e]:=aL c;rw[this,Gj b (a++[e]) (by grind),Aw];rfl
def I0:∀(b a:List (Pt×Pt)),(a.map (·.1)).Nodup->(b.foldl kh a).length=a.length+b.length->((a++b).map (·.1)).Nodup
 |[],a,h,_=>by grind
 |e::b,a,h,c=>by
  rw[kv,dI] at c;by_cases q:a.any (λx=>decide<|x.1=e.1)=true
  ·have d:kh a e=a.map (λx=>if x.1=e.1 then(x.1,e.2) else x):=aM q;have:=CM b<|kh a e;grind
  ·have d:kh a e=a++[e]:=aL q;rw[d] at c;have:=I0 b (a++[e]) (by grind) (by grind)
   grind
def J0:List Dt->Dt->Prop:=λa d=>∃r o:aC,a=[dR r,dR o]/\r.length<=10000/\o.length<=10000/\d=ja ((aj r).filter λe=>!(aj o).contains (e.2,e.1))
def Bz:List Dt->Dt->Prop:=λb d=>∃a:List (Pt×Pt),b=[ja a]/\a.length<=100000/\((¬(a.map (·.1)).Nodup/\d=.aS)\/((a.map (·.1)).Nodup/\∃e l O,a=e::l/\Ld.oQ a e.1 O/\d=if O.length=a.length then dR O else .aS))
def IE:bP ["ring","other","turned","a","b","edge"] ["ring","other"] (bh<|aF 60):={}
def Tg(F:bK c "outer_edges" "outer_edges" (aF 60) f fd)(R:aU b w c Z v "edges_of" 1 (aA c pj)):bB b w c Z v bC 2 f fd ["ring","other"] (aA c J0):=by
 refine pS F IE (λds d⟨r,o,e,_⟩=>by grind) λd' A B s H E ds d M y⟨r,o,e,O,ho,l⟩=>?_;subst e l;have t:=IE.nd;have b':=fu;have hz:=jS O;refine cZ (i4 (i:=2) Sw t) ?_;rintro M1 U ⟨d,⟨q,hq,rfl,rfl⟩,rfl⟩;show cf _ _ _ [some<|dR r,some<|dR o,some<|.aD q,none,none,none] _;let g:Nat->(EK->Prop):=λi k=>∃e∈(aj o).take i,k=(e.2,e.1)
 have D:∀k:EK,k∈([]:List (EK×aa)).map (·.1)↔g 0 k:=by grind
 refine cZ (P1:=λn m=>(∃j:List (EK×aa),n=bo M q (.ob (lK b w j))/\∀k,k∈j.map (·.1)↔g (aj o).length k)/\m=[some (dR r),some (dR o),some (.aD q),none,none,none]) (MS.imp (uh (λi n m=>(∃j:List (EK×aa),n=bo M q (.ob (lK b w j))/\j.length<=i/\∀k,k∈j.map (·.1)↔g i k)/\m=[some (dR r),some (dR o),some (.aD q),none,none,none]) (λ_ _=>False)
  (fc<|aK R y (ah (ab 1) au) ⟨o,rfl,ho,rfl⟩) (kc rfl<|eD (cG (i:=3) t rfl<|cj rfl)<|eD (cG (i:=4) t rfl<|cj rfl) ka) (wN c 3 4) ⟨⟨[],rfl,cs _,D⟩,rfl⟩ ?_ jB rfl) ?_) ?_
 ·rintro i d L n m ⟨⟨j,rfl,a',z⟩,rfl⟩;rw[hZ] at L;cases u:(aj o)[i]? with
  |none=>grind
  |some l=>
   rw[u] at L;cases L;obtain⟨Q,J⟩:=gD.mp u;have c':i<10000:=by rw[Ld.fS] at Q;omega
   refine⟨_,rfl,?_⟩;show cf _ _ _ [some<|dR r,some<|dR o,some<|.aD q,some<|dP l.1,some<|dP l.2,none] _;refine cZ (VP (k:=(l.2,l.1)) (ab 2) (gd (ah (ab 4)<|ah (ab 3) au)<|show 2<=bx by decide) bL (by omega) y.units) ?_;rintro M5 S ⟨rfl,a,rfl⟩;rw[fi];refine oy (P:=λn N=>(∃j:List (EK×aa),n=bo M q (.ob (lK b w j))/\j.length<=i+1/\∀k,k∈j.map (·.1)↔g (i+1) k)/\N=.nx [some (dR r),some (dR o),some (.aD q),some (dP l.1),some (dP l.2),none]) (fj ⟨⟨i9 j (l.2,l.1) a,rfl,?_,λk=>?_⟩,rfl⟩) ?_
   ·unfold i9;grind
   ·have X:(aj o).take (i+1)=(aj o).take i++[l]:=by rw[nJ Q,J]
    have e1:g (i+1) k↔g i k\/k=(l.2,l.1):=by show(∃e∈(aj o).take (i+1),k=(e.2,e.1))↔(∃e∈(aj o).take i,k=(e.2,e.1))\/_;rw[X];simp
    rw[e1,<-z k];unfold i9;grind
   ·rintro M6 N ⟨h,rfl⟩;exact⟨[some<|dR r,some<|dR o,some<|.aD q,none,none,none],⟨rfl,rfl,rfl,trivial⟩,h,rfl⟩
 ·grind
 rintro M2 T ⟨⟨j,rfl,z⟩,rfl⟩;refine pc (i:=2) (p:=q) rfl bL ?_;rw[o_ hq];have I:∀e:Pt×Pt,(!(j.any λx=>decide<|x.1=e))=!(aj o).contains (e.2,e.1):=λe=>by
  congr 1;rw[mM,lV,List.contains_iff_mem];constructor
  ·rintro⟨x,hx,h⟩;obtain⟨f,hf,h2⟩:=(z e).mp<|by grind
   grind
  ·intro h;obtain⟨x,hx,h2⟩:=cY.mp<|(z e).mpr ⟨(e.2,e.1),by grind,rfl⟩;grind
 refine j9 (bb (bj (jl (be:=[("edge",5)]) dE sD uf (aj r) (λe=>!(aj o).contains (e.2,e.1)) dE (λe=>[some<|dR r,some<|dR o,some<|lK b w j,none,none,some<|dE e]) (fc<|aK R y (ah (ab 0) au) ⟨r,rfl,O,rfl⟩) (g_ rfl)
  (λs H C cl fp=>cG (i:=5) t rfl<|cj rfl) (mI c 5) (λe he=>rfl) (λs H C cl fp e he=>⟨rS<|cW (Rt (k:=e) (ab 5) (ab 2) y.units)<|I e,λ_=>ab 5⟩) (by rw[Ld.fS];omega) rfl t))) ⟨rfl,rfl⟩
def jy(O:List Pt)(s:Pt)(k:Nat):Pt:=(O++[s]).getD k (0,0)
def C6(h:k<O.length):jy O s k=O[k]:=by unfold jy;grind
def UL:jy O s O.length=s:=by unfold jy;grind
def RH(h:k<(s::t).length):((s::t)[k],jy (s::t) s<|k+1)∈aj (s::t):=by
 have a:k<(aj (s::t)).length:=by rw[Ld.fS];exact h
 have:(aj (s::t))[k]=((s::t)[k],jy (s::t) s (k+1)):=by simp only[aj,EM];congr 1;unfold jy;rw[iV,d9<|by rw[jY];simp at h ⊢;omega];rfl
 rw[<-this];exact xg a
def FZ:bP ["outer","following","outline","point"] ["outer"] (bh<|aF 61):={}
def Pz(F:bK g "outline_of" "outline_of" (aF 61) f fd)(G:MG mg):bB c w g mg f' bC 1 f fd ["outer"] (aA g Bz):=by
 refine pS F FZ (λds d⟨x,e,_⟩=>by grind) λn' A R s H E ds d M0 M⟨x,e,hl,hd⟩=>?_;subst e;have L:=FZ.nd;have m':=fu;refine cZ (i4 (i:=1) (Sa (es:=x) (ab 0) G.dict rfl M.units) L) ?_;rintro M1 l' ⟨d1,⟨rfl,u,rfl,T⟩,rfl⟩;show cf _ _ _ [some<|ja x,some<|sN c w u,none,none] _;have lx:u.length=(x.foldl kh []).length:=by grind
 have le:=CM x [];have v:(x.map dE).length=x.length:=bS _;rcases hd with⟨X,rfl⟩|⟨X,e,l,O,rfl,B,rfl⟩
 ·
  have lt:u.length<x.length:=by have:=λq=>X<|I0 x [] (by simp) q;grind
  refine j9 (bb<|md (cW (cw (Jv (ab 1) G.aX)<|eH (ab 0) G.aX) ?_)<|bb<|bj r4) ⟨rfl,rfl⟩;show decide ((u.length:Int)<((x.map dE).length:Int))=true;rw[v];exact kC<|by omega
 ·have hx:u.map (·.1)=e::l:=by rw[T,Gj (e::l) [] X];rfl
  have ge:u.length=(e::l).length:=by rw[<-hx,bS]
  refine gR (kI (cW (cw (Jv (ab 1) G.aX)<|eH (ab 0) G.aX) (d':=false) ?_) jK) ?_
  ·show decide ((u.length:Int)<(((e::l).map dE).length:Int))=false;rw[v,ge];exact mX<|by omega
  obtain⟨t,rfl⟩:=B.hd;have nO:=B.nd;have mO:=B.mem;have ol:(e.1::t).length<=(e::l).length:=by
   have J:((e.1::t)).length=(aj (e.1::t)).length:=(Ld.fS _).symm;have N:(aj (e.1::t)).Nodup:=by
    have:((aj (e.1::t)).map (·.1)).Nodup:=by rw[Ld.kE];exact nO
    exact Z9 (·.1) (λa b h e=>h<|by rw[e]) this
   rw[J];exact Ld.rJ N mO
  have b':e5 ((e::l).map dE) 0=some (dE e):=fM<|show(((e::l).map dE))[0]?=some (dE e) from rfl;refine cZ (i4 (i:=2) (rT (ds:=[dP e.1]) (ah (jM (dG (ab 0) a7 b') a7 rfl) au)<|show 1<=bx by decide) L) ?_;rintro M2 k' ⟨d2,⟨q,hq,rfl,rfl⟩,rfl⟩;show cf _ _ _ [some<|ja<|e::l,some<|sN c w u,some<|.aD q,none] _;have D:∀k,k<(e.1::t).length->∃z∈u,z.1=((e.1::t).getD k (0,0),jy (e.1::t) e.1 (k+1)):=λk hk=>by have J:=mO _<|RH hk;grind
  obtain⟨Q,S,a'⟩:=D 0<|E_ _;have k0:Q.1.1=e.1:=by grind
  have v0:Q.1.2=jy (e.1::t) e.1 1:=by rw[a']
  have f0:∀k,1<=k->k<=(e.1::t).length->e5 (((e.1::t).take k).map dP) 0=some (dP e.1):=λk J N=>fM (by grind)
  refine cZ (i4 (i:=3) (Ji (z:=Q) (bE<|ab 1) (by rw[k0];exact Kz (ab 2) a7 bL<|by grind) S<|pD M) L) ?_;rintro M3 j' ⟨d3,⟨rfl,rfl⟩,rfl⟩;rw[v0];show cf _ _ _ [some<|ja<|e::l,some<|sN c w u,some<|.aD q,some<|dP<|jy (e.1::t) e.1 1] _;let O:=e.1::t;let y:Nat->aG:=λk=>[some<|ja<|e::l,some<|sN c w u,some<|.aD q,some<|dP<|jy O e.1 k]
  refine cZ (P1:=λC j=>C=bo M1 q (.ob<|.aq<|O.map dP)/\j=y O.length) (MS.imp (GK (n:=O.length-1) (λm C j=>∃k,m=O.length-k/\1<=k/\k<=O.length/\C=bo M1 q (.ob (.aq ((O.take k).map dP)))/\j=y k) (λ_ _=>False) (λC j=>C=bo M1 q (.ob<|.aq<|O.map dP)/\j=y O.length)
   ⟨1,rfl,cs _,E_ _,rfl,rfl⟩ ?_ jB) ?_) ?_
  ·rintro m C j ⟨k,rfl,J,N,rfl,rfl⟩;refine⟨!decide (jy O e.1 k=e.1),Wb (bE<|ab 3) (Kz (ab 2) a7 bL<|f0 k J N) M.units,λhk=>?_,λhk=>?_⟩
   ·have U:jy O e.1 k≠e.1:=by grind
    have r:k<O.length:=by
     rcases NN k O.length with h|h;·exact h
     ·have:k=O.length:=by omega
      rw[this,UL] at U;grind
    obtain⟨z,hz,ez⟩:=D k r;have Z:z.1.1=jy O e.1 k:=by rw[ez,C6 r,iV,d9 r];rfl
    have Y:z.1.2=jy O e.1 (k+1):=by rw[ez]
    refine cZ (j_ (BB (ab 2) (ab 3) bL (by grind))) ?_
    rintro M5 h' ⟨rfl,d5,rfl,rfl⟩;rw[fi];refine cZ (i4 (i:=3) (Ji (z:=z) (bE<|ab 1) (by rw[Z];exact bE<|ab 3) hz<|pD M) L) ?_;rintro M6 g' ⟨d6,⟨rfl,rfl⟩,rfl⟩;rw[Y];refine fj ⟨O.length-(k+1),by omega,k+1,rfl,by omega,r,?_,rfl⟩;congr 3;show(O.take k).map dP++[dP<|jy O e.1 k]=(O.take<|k+1).map dP;rw[nJ r,dw,C6 r];rfl
   ·have I:jy O e.1 k=e.1:=by grind
    have:k=O.length:=by
     rcases NN k O.length with h|h
     ·rw[C6 h] at I;have h0:O[k]=O[0]'(E_ _):=I;have:=(Nn (h₀:=h) (h₁:=E_ _) nO).mp h0;omega
     ·omega
    grind
  ·rintro C o h;cases o with
   |nx j=>grind
   |rt d=>grind
  rintro M4 i' ⟨rfl,rfl⟩;refine pc (i:=2) (p:=q) rfl bL ?_;rw[o_ hq];refine j9 (bb<|bj<|bU (wt (cw (eH (ab 2) G.aX)<|eH (ab 0) G.aX) (λ_=>ab 2) λ_=>r4) ?_) ⟨rfl,rfl⟩;show(if decide (((O.map dP).length:Int)=(((e::l).map dE).length:Int))=true then _ else _)=_;rw[v,bS];by_cases z:O.length=(e::l).length;·rw[aM (kC<|by omega),aM z];rfl
  ·rw[aL (by rw[mX<|by omega];exact gu),aL z]
def dO(r:Option aC):Dt:=match r with
 |some r=>dR r
 |none=>.aS
def Kn:List Dt->Dt->Prop:=λc d=>∃a b:aC,c=[dR a,dR b]/\a.length<=64/\b.length<=64/\(∀p∈a,Bp p)/\(∀p∈b,Bp p)/\Ld.bZ a/\Ld.bZ b/\Ld.iR a b/\d=dO (fh a b)
def Jh:bP ["ring","other","one","two","outline","joined"] ["ring","other"] (bh<|aF 62):={}
def UM(F:bK h "join_rings" "join_rings" (aF 62) f fd)(h1:aU c w h u j "with_points" 3 (aA h Dh))(X:aU c w h u j "outer_edges" 2 (aA h J0))(h3:aU c w h u j "outline_of" 1 (aA h Bz))(h4:aU c w h u j "put_right" 2 (aA h CA))(h5:aU c w h u j "may_be" 5 (aA h DK)):bB c w h u j bC 6 f fd ["ring","other"] (aA h Kn):=by
 refine cN F Jh (λds d⟨r,o,e,_⟩=>by grind) λe' A Q s H E ds d C⟨a,b,e,la,Z,M,L,I,D,N,ed⟩=>?_;subst e ed;have B:=Jh.nd;have T:=C.cb<|show 1<=5 by decide
 have n:=C.cb<|show 2<=5 by decide
 have z:=C.cb<|show 3<=5 by decide
 have a':=fu;have fa:(fine a b).length<=4160:=dY (vA a b D.nodup)<|dY (ry la<|aa7 Z 1)<|by decide
 have fb:(fine b a).length<=4160:=dY (vA b a I.nodup)<|dY (ry Z<|aa7 la 1)<|by decide
 refine dQ (c_ (i:=2) (aK h1 z (ah (ab 0)<|ah (ab 1) au) ⟨a,b,rfl,by omega,by omega,M,L,D.nodup,λe m=>I.iZ m,rfl⟩) B) ?_;refine dQ (c_ (i:=3) (aK h1 z (ah (ab 1)<|ah (ab 0) au) ⟨b,a,rfl,by omega,by omega,L,M,I.nodup,λe m=>D.iZ m,rfl⟩) B) ?_;have c':=Ld.fS<|fine a b;have b':=Ld.fS<|fine b a;have ol:(cJ a b).length<=8320:=by unfold cJ;grind
 have Y:∀e∈cJ a b,Bp e.1:=λe m=>by
  have hm:∀{x y:aC}{v:Pt},(∀p∈x,Bp p)->(∀p∈y,Bp p)->v∈fine x y->Bp v:=λhx hy S=>(Ld.vz S).elim (hx _)<|hy _;unfold cJ at m;dsimp only at m;rcases eI.mp m with m|m;·exact hm M L<|Ld.g0 (oU.mp m).1
  ·exact hm L M<|Ld.g0 (oU.mp m).1
 have J:=Ld.LK I D N;obtain⟨v,S,t⟩:∃v,Bz [ja (cJ a b)] v/\((v=.aS/\fh a b=none)\/∃O,v=dR O/\O.length<=8320/\(∀p∈O,Bp p)/\bare O≠[]/\fh a b=(if dz (tidy O)=true then some (tidy O) else none)):=by
  by_cases R:((cJ a b).map (·.1)).Nodup
  ·cases q:cJ a b with
   |nil=>exact cy q J.ne
   |cons e l=>
    obtain⟨O,o,n1,n2⟩:=J.DY R e l q;rw[<-q];refine⟨if O.length=(cJ a b).length then dR O else .aS,⟨cJ a b,rfl,by omega,(by grind)⟩,?_⟩;by_cases k:O.length=(cJ a b).length
    ·obtain⟨m1,m2⟩:=n2 k;rw[aM k];refine .inr ⟨O,rfl,by omega,λp hp=>?_,m1,m2⟩;have:p∈(aj O).map (·.1):=by rw[Ld.kE];exact hp
     obtain⟨g,hg,rfl⟩:=cY.mp this;exact Y g<|o.mem g hg
    grind
  ·exact⟨.aS,⟨cJ a b,rfl,by omega,.inl ⟨R,rfl⟩⟩,.inl ⟨rfl,J.twice R⟩⟩
 refine dQ (c_ (i:=4) (aK h3 T (ah (bU (d':=ja<|cJ a b) (lm (aK X n (ah (ab 2)<|ah (ab 3) au) ⟨fine a b,fine b a,rfl,by omega,by omega,rfl⟩) (aK X n (ah (ab 3)<|ah (ab 2) au) ⟨fine b a,fine a b,rfl,by omega,by omega,rfl⟩) ?_) ?_) au) S) B) ?_;·grind
 ·unfold ja cJ;grind
 rcases t with⟨rfl,U⟩|⟨O,rfl,lO,bO,bn,U⟩
 ·rw[U];exact bb<|md (vX (d:=.aS)<|ab 4)<|bb<|bj r4
 ·refine dQ (kI (vX (d:=dR O)<|ab 4) jK) ?_;refine dQ (c_ (i:=5) (aK h4 n (ah (ab 4) au) ⟨O,rfl,by omega,bO,bn,rfl⟩) B) ?_;have lt:(tidy O).length<=8320:=by have:=Ld.A0 (bare O)<|eJ<|bare O;have X:=(Ld.yx O).length_le;have h3:(tidy O).length=(de (bare O) (eJ (bare O))).length:=rfl;omega
  refine bb<|bj<|bU (wt (dD<|aK h5 C (ah (ab 5) au) ⟨tidy O,rfl,by omega,rfl⟩) (λ_=>ab 5) λ_=>r4) ?_;rw[U];cases dz (tidy O)<;>rfl
end Pf
namespace L3
open PySem PySem.Spec PyProof.Rows L2
def S4:eP X (rE .FloorDiv) (rI (λ_ j=>0<j/\j.natAbs.log2<9000) λi j=>.int<|i/j):=z9 λi j _ _ _ _ _ a q=>by have b:(0:Int)<j:=a.1;exact floordiv_int (by omega) (by grind)<|.inl<|PyProof.noPylong_of_log2 a.2
def HW(f:DE X a c (.int i))(e:DE X b c (.int j))(h:0<j)(g:j.natAbs.log2<9000):DE X (.BinOp a .FloorDiv b d) c (.int<|i/j):=r0 S4 f e λF x y H Q _ m l k=>by cases m;cases l;exact⟨i,j,rfl,rfl,⟨h,g⟩,k _ H (aW.refl H)<|.int _⟩
end L3
namespace Pf
open PySem PySem.Spec PyProof.Rows L2 L3
open Sy(Pt)
def dF(q:Rat):Dt:=dP (q.num,(q.den:Int))
def Lx:List Dt->Dt->Prop:=λa d=>∃(n:Int)(k:Nat),a=[.int n,.int k]/\0<k/\d=.int (tF n k:Nat)
def vV:List Dt->Dt->Prop:=λa d=>∃(n:Int)(k:Nat),a=[.int n,.int k]/\0<k/\k<2^9000/\d=dF (mkRat n k)
structure Fs(q:Rat):Prop where
 nb:q.num.natAbs<2^20000
 db:q.den<2^4450
def C5:List Dt->Dt->Prop:=λa d=>∃f g:Rat,a=[dF f,dF g]/\Fs f/\Fs g/\d=dF (f+g)
def I_:List Dt->Dt->Prop:=λa d=>∃f g:Rat,a=[dF f,dF g]/\Fs f/\Fs g/\g<=f/\d=dF (f-g)
def J5:List Dt->Dt->Prop:=λa d=>∃f g:Rat,a=[dF f,dF g]/\Fs f/\Fs g/\d=.bl (decide (f<g))
def HZ:List Dt->Dt->Prop:=λa d=>∃(f:Rat)(t:Int),a=[dF f,.int t]/\Fs f/\t.natAbs<2^100/\d=dF (f*(t:Rat)/2)
def dW(l:List (Int×Rat)):Dt:=.cE<|l.map λx=>(x.1,dF x.2)
def bG(l:List (Int×Rat))(o:Int):Rat:=((l.find? λx=>decide<|x.1=o).map (·.2)).getD 0
def yf:List Dt->Dt->Prop:=λa d=>∃(l:List (Int×Rat))(o:Int),a=[dW l,.int o]/\d=dF (bG l o)
def SV{n:Nat}(h:n<2^k):rm (n:Int)<=k:=Am<|by omega
def Tf(a:0<=n)(h:n<2^k):rm n<=k:=Am (by grind)
def oz(d:rm a<=m)(c:rm b<=n)(h:m+n<=134217728:=by decide):Fh a b:=.of_le d c h
def Fs.n(h:Fs q):rm q.num<=20000:=Am h.nb
def Fs.d(h:Fs q):rm (q.den:Int)<=4450:=SV h.db
def Jx(b:Fs f)(a:Fs g):f.den*g.den<2^9000:=by
 have d:=b.db;have c:=a.db
 calc f.den*g.den<2^4450*2^4450:=abT d c
  _<=2^9000:=by omega
def fx(i:Nat)(a:c[i]?=some (some<|dF q):=by rfl)(g:X.N[i]?=some x:=by rfl)(e:oT X.ae.scope x:=by first|exact cj rfl|exact gF (cj rfl)|exact gF<|gF rfl)(f:(x==("__debug__":ak))=false:=by decide)(b:(x==("__classdict__":ak))=false:=by decide):DE X (.Subscript (.Name x k) (.Constant (.int 0) j h) d) c (.int q.num):=jM (ab i a g e f b) a7 rfl
def fy(i:Nat)(a:c[i]?=some (some<|dF q):=by rfl)(g:X.N[i]?=some x:=by rfl)(e:oT X.ae.scope x:=by first|exact cj rfl|exact gF (cj rfl)|exact gF<|gF rfl)(f:(x==("__debug__":ak))=false:=by decide)(b:(x==("__classdict__":ak))=false:=by decide):DE X (.Subscript (.Name x k) (.Constant (.int 1) j h) d) c (.int (q.den:Int)):=jM (ab i a g e f b) a7 rfl
def Kj:bP ["n","d","rest"] ["n","d"] (bh<|aF 51):={}
def V2(F:bK c "greatest_common_part" "greatest_common_part" (aF 51) f C):bB b w c M t bC 1 f C ["n","d"] (aA c Lx):=by
 refine pS F Kj (λJ d⟨n,k,e,_⟩=>by grind) λL A o s H E J d q N⟨n,k,e,v,I⟩=>?_;subst e I;have p:=Kj.nd;let g:=tF n k;refine cZ (P1:=λj h=>j=q/\∃x,h=[some (.int g),some (.int (0:Nat)),x]) (MS.imp (GK (n:=k) (λm j h=>j=q/\∃(a:Int)(x:Option Dt),(h=[some (.int a),some (.int (m:Nat)),x])/\tF a m=g/\(m=0->0<=a)) (λ_ _=>False) (λj h=>j=q/\∃x,h=[some (.int g),some (.int (0:Nat)),x])
  ⟨rfl,n,none,rfl,rfl,λz=>by omega⟩ ?_ jB) ?_) ?_
 ·rintro m j h ⟨rfl,a,x,rfl,l,B⟩;refine⟨!decide ((m:Int)=0),gK<|cw (ab 1) a7,λy=>?_,λy=>?_⟩
  ·have r:0<m:=by grind
   refine gR (c_ (i:=2) (bU (d':=.int (((a%(m:Int)).toNat:Nat):Int)) (C_ (ab 0) (ab 1)<|by omega)<|by rw[Ez<|ab6 _<|by omega]) p) ?_;refine gR (c_ (i:=0) (ab 1) p) ?_;refine gR (c_ (i:=1) (ab 2) p) ?_;have D:=ab6 a<|show(m:Int)≠0 by omega
   have Q:=Int.emod_lt_of_pos a<|show(0:Int)<(m:Int) by omega
   refine fj ⟨(a%(m:Int)).toNat,by omega,rfl,m,_,rfl,?_,λ_=>sZ _⟩;rw[<-l,Ez D,Int.emod_def,Int.gcd_sub_mul_left_right,Int.gcd_comm]
  ·have r:m=0:=by grind
   subst r;have l:tF a 0=g:=l;rw[Int.gcd_zero_right] at l;have O:=B rfl;have e:a=((g:Nat):Int):=by omega
   rw[e];grind
 ·grind
 rintro M2 u ⟨rfl,x,rfl⟩;exact j9 (bb<|bj<|ab 0) ⟨rfl,rfl⟩
def log2_lt(a:0<k)(h:k<2^n):k.log2<n:=(Nat.log2_lt<|by omega).mpr h
def Jc:bP ["n","d","part"] ["n","d"] (bh<|aF 52):={}
def UB(F:bK b "fraction" "fraction" (aF 52) f u)(r:aU a w b o c "greatest_common_part" 1 (aA b Lx)):bB a w b o c bC 2 f u ["n","d"] (aA b vV):=by refine cN F Jc (λx d⟨n,k,e,_⟩=>by grind) λy A g s H E x d p⟨n,k,e,h,q,v⟩=>?_;subst e v;have m:=Jc.nd;have j:0<tF n k:=Nat.gcd_pos_of_pos_right _ h;have t:(tF n k).log2<9000:=log2_lt j<|sY (Nat.gcd_le_right _ h) q;have l:((tF n k:Nat):Int).natAbs.log2<9000:=t;refine dQ (c_ (i:=2) (aK r p (ah (ab 0)<|ah (ab 1) au) ⟨n,k,rfl,h,rfl⟩) m) ?_;refine bb<|bj<|bU (gd (ah (HW (ab 0) (ab 2) (ab4.mpr j) l)<|ah (HW (ab 1) (ab 2) (ab4.mpr j) l) au)<|show 2<=bx by decide) ?_;unfold dF dP;rw[xm,NA,aL (by omega),aL<|by omega];have z:k.gcd n.natAbs=tF n k:=Nat.gcd_comm _ _;grind
def UU:bP ["f","g"] ["f","g"] (bh<|aF 53):={}
def VF(F:bK b "plus" "plus" (aF 53) f m)(l:aU a w b j c "fraction" 2 (aA b vV)):bB a w b j c bC 3 f m ["f","g"] (aA b C5):=by
 refine cN F UU (λp d⟨x,y,e,_⟩=>by grind) λq A i s H E p d k⟨x,y,e,h,g,o⟩=>?_;subst e o;refine bb<|bj<|aK l k (ah (jm (ma (fx 0) (fy 1)<|oz h.n g.d)<|ma (fx 1) (fy 0)<|oz g.n h.d)<|ah (ma (fy 0) (fy 1)<|oz h.d g.d) au) ⟨x.num*(y.den:Int)+y.num*(x.den:Int),x.den*y.den,?_,qh x.den_pos y.den_pos,Jx h g,?_⟩;·rfl
 ·rw[Rat.add_def']
def Te:bP ["f","g"] ["f","g"] (bh<|aF 54):={}
def RL(F:bK b "minus" "minus" (aF 54) f o)(m:aU a w b j c "fraction" 2 (aA b vV)):bB a w b j c bC 3 f o ["f","g"] (aA b I_):=by
 refine cN F Te (λq d⟨x,y,e,_⟩=>by grind) λr A i s H E q d k⟨x,y,e,h,g,l,p⟩=>?_;subst e p;refine bb<|bj<|aK m k (ah (me (ma (fx 0) (fy 1)<|oz h.n g.d)<|ma (fx 1) (fy 0)<|oz g.n h.d)<|ah (ma (fy 0) (fy 1)<|oz h.d g.d) au) ⟨x.num*(y.den:Int)-y.num*(x.den:Int),x.den*y.den,?_,qh x.den_pos y.den_pos,Jx h g,?_⟩;·rfl
 ·rw[Rat.sub_def']
def Ua:bP ["f","g"] ["f","g"] (bh<|aF 55):={}
def U1(F:bK b "is_less" "is_less" (aF 55) f j):bB a w b o i bC 1 f j ["f","g"] (aA b J5):=by refine cN F Ua (λl d⟨x,y,e,_⟩=>by grind) λm A c s H E l d p⟨x,y,e,h,g,k⟩=>?_;subst e k;refine bb<|bj<|bU (kK (ma (fx 0) (fy 1)<|oz h.n g.d)<|ma (fx 1) (fy 0)<|oz g.n h.d) ?_;show Dt.bl (decide<|x.num*(y.den:Int)<y.num*(x.den:Int))=Dt.bl (decide<|x<y);congr 1;rw[mM,eg,eg,Rat.lt_iff]
def Vv(x:Rat)(t:Int):mkRat (x.num*t) (x.den*2)=x*(t:Rat)/2:=by
 have a:x=(x.num:Rat)/(x.den:Rat):=by rw[<-EN,Rat.mkRat_self]
 have b:(x.den:Rat)≠0:=λh=>x.den_nz<|Rat.natCast_eq_zero_iff.mp h;rw[EN,abU,Rat.natCast_mul];grind
def QJ:bP ["share","twice"] ["share","twice"] (bh<|aF 56):={}
def RC(F:bK b "area_of" "area_of" (aF 56) f m)(l:aU a w b i c "fraction" 2 (aA b vV)):bB a w b i c bC 3 f m ["share","twice"] (aA b HZ):=by
 refine cN F QJ (λp d⟨x,y,e,_⟩=>by grind) λq A g s H E p d j⟨x,t,e,h,k,o⟩=>?_;subst e o;have b2:rm (2:Int)<=2:=Tf (by decide)<|by decide
 refine bb<|bj<|aK l j (ah (ma (fx 0) (ab 1)<|oz h.n<|Am k)<|ah (ma (fy 0) a7<|oz h.d b2) au) ⟨x.num*t,x.den*2,?_,qh x.den_pos (by decide),?_,?_⟩;·rfl
 ·calc x.den*2<2^4450*2^2:=abT h.db (by decide)
   _<=2^9000:=by omega
 ·rw[Vv]
def PQ:bP ["shares","owner"] ["shares","owner"] (bh<|aF 57):={}
def Um(l:List (Int×Rat))(o:Int):(iJ (l.map λx=>(x.1,dF x.2)) o).getD (dF 0)=dF (bG l o):=by unfold iJ bG;rw[AE];show(((l.find? λx=>decide<|x.1=o).map λx=>(x.1,dF x.2)).map (·.2)).getD (dF 0)=_;cases l.find? λx=>decide (x.1=o)<;>rfl
def Pj(F:bK b "share_of" "share_of" (aF 57) f j):bB a w b n h bC 1 f j ["shares","owner"] (aA b yf):=by refine cN F PQ (λg d⟨l,o,e,_⟩=>by grind) λm A c s H E g d i⟨l,o,e,k⟩=>?_;subst e k;refine bb<|bj<|bU (SK (ab 0) (ab 1) (gd (ds:=[.int 0,.int 1])<|ah a7<|ah a7 au)<|pD i) ?_;exact Um l o
def hU(l:List (Int×Rat))(i:Int)(q:Rat):List (Int×Rat):=if(l.any λx=>decide<|x.1=i)=true then l.map (λx=>if x.1=i then(x.1,q) else x) else l++[(i,q)]
def pC(l:List (Int×Rat))(i:Int):List (Int×Rat):=l.filter λx=>decide<|x.1≠i
def JX(l:List (Int×Rat))(i:Int)(q:Rat):sf (l.map λx=>(x.1,dF x.2)) i (dF q)=(hU l i q).map λx=>(x.1,dF x.2):=by
 unfold sf hU;rw[E8];by_cases h:(l.any λx=>decide<|x.1=i)=true
 ·rw[aM (by exact h),aM h,d_,d_];apply xa;grind
 grind
def Tw(l:List (Int×Rat))(i:Int):uu (l.map λx=>(x.1,dF x.2)) i=(pC l i).map λx=>(x.1,dF x.2):=by unfold uu pC;rw[ET];rfl
def R9(l:List (Int×Rat))(i:Int)(q:Rat):(hU l i q).length<=l.length+1:=by unfold hU;grind
def eM(l:List (Int×Rat))(a b:Int)(dg:Rat):List (Int×Rat):=if bG l a-dg=0 then pC (hU l b<|bG l b+dg) a else hU (hU l b<|bG l b+dg) a (bG l a-dg)
def IQ:List Dt->Dt->Prop:=λc d=>∃(l:List (Int×Rat))(a b:Int)(dg:Rat),c=[dW l,.int a,.int b,dF dg]/\l.length<=100000/\a≠b/\Fs (bG l a)/\Fs (bG l b)/\Fs dg/\0<dg/\dg<=bG l a/\d=dW (eM l a b dg)
def FE(h:i≠j):∀l:List (Int×Rat),(l.map λx=>if x.1=j then(x.1,q) else x).find? (λx=>decide<|x.1=i)=l.find? λx=>decide (x.1=i)
 |[]=>rfl
 |x::l=>by rw[dB,rs,rs,FE h l];grind
def Ou(h:i≠j):(hU l j q).find? (λx=>decide<|x.1=i)=l.find? λx=>decide (x.1=i):=by
 unfold hU;split;·exact FE h l
 grind
def IH:bP ["shares","a","b","part","after","left"] ["shares","a","b","part"] (bh<|aF 58):={}
def Sr(F:bK g "shares_given" "shares_given" (aF 58) f Z)(G:MG u)(N:aU c w g u j "share_of" 1 (aA g yf))(Y:aU c w g u j "minus" 3 (aA g I_))(X:aU c w g u j "plus" 3 (aA g C5)):bB c w g u j bC 4 f Z ["shares","a","b","part"] (aA g IQ):=by
 refine pS F IH (λds d⟨l,a,b,q,e,_⟩=>by grind) λa' A y s H E ds d Q t⟨l,a,b,dg,e,hl,C,fa,fb,O,hp,B,ed⟩=>?_;subst e ed;have L:=IH.nd;have U:=fu;have r:=t.cb<|show 1<=3 by decide
 refine cZ (i4 (i:=4) (TB (ab 0) G.dict) L) ?_;rintro M1 S ⟨d1,⟨q,M,rfl,rfl⟩,rfl⟩;show cf _ _ _ [some<|dW l,some<|.int a,some<|.int b,some<|dF dg,some<|.aD q,none] _;refine gR (c_ (i:=5) (aK Y t (ah (aK N r (ah (ab 0)<|ah (ab 1) au) ⟨l,a,rfl,rfl⟩)<|ah (ab 3) au) ⟨bG l a,dg,rfl,fa,O,B,rfl⟩) L) ?_;show cf _ _ _ [some<|dW l,some<|.int a,some<|.int b,some<|dF dg,some<|.aD q,some<|dF<|bG l a-dg] _;refine cZ (Je (ab 4) (ab 2) (aK X t (ah (aK N r (ah (ab 0)<|ah (ab 2) au) ⟨l,b,rfl,rfl⟩)<|ah (ab 3) au) ⟨bG l b,dg,rfl,fb,O,rfl⟩) bL (by grind)<|pD t) ?_;rintro M2 R ⟨rfl,rfl⟩;rw[fi,JX];have l2:=R9 l b<|bG l b+dg;by_cases z:bG l a-dg=0
 ·have D:eM l a b dg=pC (hU l b (bG l b+dg)) a:=aM z;have n:(bG l a-dg).num=0:=by rw[z];rfl
  have o:∃v,iJ ((hU l b (bG l b+dg)).map λx=>(x.1,dF x.2)) a=some v:=by
   unfold iJ;rw[AE];have e1:(hU l b (bG l b+dg)).find? ((λx=>decide<|x.1=a)∘λx=>(x.1,dF x.2))=l.find? λx=>decide (x.1=a):=Ou C;rw[e1];cases hf:l.find? λx=>decide (x.1=a) with
   |some x=>simp
   |none=>
    have:bG l a=0:=by unfold bG;grind
    grind
  obtain⟨v,T⟩:=o;refine cZ (P1:=λJ m=>J=bo Q q (.ob<|dW<|pC (hU l b<|bG l b+dg) a)/\m=[some<|dW l,some<|.int a,some<|.int b,some<|dF dg,some<|.aD q,some<|dF<|bG l a-dg]) (CT (cW (cw (fx 5) a7)<|by rw[n];rfl)<|cZ (j_<|U0 (ab 4) (ab 1) bL T) ?_) ?_
  ·rintro I k ⟨rfl,d3,rfl,rfl⟩;refine fj ⟨_,rfl,?_,rfl⟩;rw[fi,Tw];rfl
  ·rintro I k ⟨rfl,rfl⟩;rw[D];refine pc (i:=4) (p:=q) rfl bL ?_;rw[o_ M];exact j9 (bb<|bj<|ab 4) ⟨rfl,rfl⟩
 ·have D:eM l a b dg=hU (hU l b (bG l b+dg)) a (bG l a-dg):=aL z;have n:(bG l a-dg).num≠0:=λh=>z<|Rat.num_eq_zero.mp h;refine cZ (P1:=λJ m=>J=bo Q q (.ob<|dW<|hU (hU l b<|bG l b+dg) a<|bG l a-dg)/\m=[some<|dW l,some<|.int a,some<|.int b,some<|dF dg,some<|.aD q,some<|dF<|bG l a-dg]) (Di (cW (cw (fx 5) a7)<|mX n)<|cZ (Je (ab 4) (ab 1) (ab 5) bL (by grind)<|pD t) ?_) ?_
  ·rintro I k ⟨rfl,rfl⟩;refine fj ⟨_,rfl,?_,rfl⟩;rw[fi,JX];rfl
  ·rintro I k ⟨rfl,rfl⟩;rw[D];refine pc (i:=4) (p:=q) rfl bL ?_;rw[o_ M];exact j9 (bb<|bj<|ab 4) ⟨rfl,rfl⟩
open Sy(Ring)
abbrev cz:=List<|Int×Rat
structure cg where
 ring:List Pt
 lv:Nat
 bX:Option Nat
 eW:List Nat
 bd:List (Nat×cz)
structure kQ where
 day:Nat
 ended:List Nat
 jR:Nat
 eM:List Nat
structure aZ where
 lj:Nat
 parcels:List cg
 acts:List kQ
structure CL where
 cP:aa
 cA:aa
 cR:aa
structure fX(K:ax)(c:CL):Prop where
 p:ju K c.cP
 p1:fe K c.cP "ring"
 p2:fe K c.cP "since"
 p3:fe K c.cP "gone"
 p4:fe K c.cP "came"
 p5:fe K c.cP "changes"
 a:ju K c.cA
 a1:fe K c.cA "day"
 a2:fe K c.cA "ended"
 a3:fe K c.cA "made"
 a4:fe K c.cA "given"
 r:ju K c.cR
 r1:fe K c.cR "opened"
 r2:fe K c.cR "parcels"
 r3:fe K c.cR "acts"
def cQ(l:List Nat):Dt:=lL<|l.map λ(n:Nat)=>(n:Int)
def qZ(g:Option Nat):Dt:=match g with
 |some t=>.int (t:Nat)
 |none=>.aS
def iT(x:Nat×cz):Dt:=.a9 [.int (x.1:Nat),dW x.2]
def oH(x:cg)(a:Dt):List (ak×Dt):=[("ring",dR x.ring),("since",.int (x.lv:Nat)),("gone",qZ x.bX),("came",cQ x.eW),("changes",a)]
def dH(c:CL)(x:cg):Dt:=.bA c.cP<|oH x<|.aq<|x.bd.map iT
def hW(c:CL)(x:kQ):Dt:=.bA c.cA [("day",.int (x.day:Nat)),("ended",cQ x.ended),("made",.int (x.jR:Nat)),("given",cQ x.eM)]
def c6(c:CL)(R:aZ):Dt:=.bA c.cR [("opened",.int (R.lj:Nat)),("parcels",.aq<|R.parcels.map<|dH c),("acts",.aq<|R.acts.map<|hW c)]
def eL(R:aZ):Nat:=match R.acts.getLast? with
 |some a=>a.day
 |none=>R.lj
def hI(R:aZ)(p:Nat):Bool:=match R.parcels[p]? with
 |some x=>x.bX.isNone
 |none=>false
def bW(x:cg):cz:=(x.bd.getLast?.map (·.2)).getD []
def l_(x:cg)(d:Nat):Bool:=decide (x.lv<=d)&&x.bX.all λ(t:Nat)=>decide<|d<t
def cK(R:aZ)(d:Nat):List Nat:=(R.parcels.zipIdx.filter λx=>l_ x.1 d).map (·.2)
def d7(x:cg)(d:Nat):cz:=((x.bd.filter λs=>decide<|s.1<=d).getLast?.map (·.2)).getD []
def BF(c:CL):List Dt->Dt->Prop:=λa d=>∃R:aZ,a=[c6 c R]/\d=.int (eL R:Nat)
def JL(c:CL):List Dt->Dt->Prop:=λa d=>∃(R:aZ)(p:Nat),a=[c6 c R,.int (p:Nat)]/\d=.bl (hI R p)
def yw(c:CL):List Dt->Dt->Prop:=λa d=>∃x:cg,a=[dH c x]/\x.bd≠[]/\d=dW (bW x)
def BO(c:CL):List Dt->Dt->Prop:=λa d=>∃(x:cg)(t:Nat),a=[dH c x,.int (t:Nat)]/\d=.bl (l_ x t)
def yq(c:CL):List Dt->Dt->Prop:=λa d=>∃(R:aZ)(t:Nat),a=[c6 c R,.int (t:Nat)]/\R.parcels.length<=1000/\d=cQ (cK R t)
def C1(c:CL):List Dt->Dt->Prop:=λa d=>∃(x:cg)(t:Nat),a=[dH c x,.int (t:Nat)]/\x.bd.length<=1000/\(∃s∈x.bd,s.1<=t)/\d=dW (d7 x t)
def Dm(h:l.getLast?=some x):e5 l (-1)=some x:=by
 have a:l≠[]:=by grind
 have b:0<l.length:=Ew.mpr a;have e:mG l.length (-1)=some (l.length-1):=by unfold mG;grind
 unfold e5;grind
def x4{a:Type}{l:List a}(h:l≠[]):∃x,l.getLast?=some x:=⟨_,Z8 h⟩
def Pl:bP ["registry"] ["registry"] (bh<|aF 27):={}
def OR(c:CL)(C:fX g c)(F:bK g "last_day" "last_day" (aF 27) f m)(G:MG k):bB b w g k j bC 1 f m ["registry"] (aA g<|BF c):=by
 refine cN F Pl (λo d⟨R,e,_⟩=>by grind) λp A i s H E o d t⟨R,e,n⟩=>?_;subst e n;refine eS (cw (eH (ck (ab 0) C.r C.r3 rfl) G.aX) a7) (λh=>?_) λh=>?_
 ·have h:decide (((R.acts.map (hW c)).length:Int)=0)=true:=h;have h:=fB h;rw[bS] at h;have:R.acts=[]:=aaF.mp<|by omega
  have e:eL R=R.lj:=by unfold eL;grind
  rw[e];exact bb<|bj<|ck (ab 0) C.r C.r1 rfl
 ·have h:decide (((R.acts.map (hW c)).length:Int)=0)=false:=h;have h:=iC h;rw[bS] at h;have:R.acts≠[]:=λq=>h<|by grind
  obtain⟨a,l⟩:=x4 this;have e:eL R=a.day:=by unfold eL;rw[l]
  rw[e];exact bb<|bj<|ck (dG (ck (ab 0) C.r C.r3 rfl) (jn a7)<|Dm (x:=hW c a)<|by grind) C.a C.a1 rfl
def RW:bP ["registry","p"] ["registry","p"] (bh<|aF 28):={}
def SD(c:CL)(C:fX b c)(F:bK b "is_still_there" "is_still_there" (aF 28) f t)(G:MG m):bB a w b m k bC 1 f t ["registry","p"] (aA b<|JL c):=by
 refine cN F RW (λv d⟨R,p,e,_⟩=>by grind) λx A h s H E v d y⟨R,p,e,u⟩=>?_;subst e u;have g:(R.parcels.map (dH c)).length=R.parcels.length:=bS _;by_cases n:p<R.parcels.length
 ·have i:R.parcels[p]?=some R.parcels[p]:=d9 n;have j:hI R p=R.parcels[p].bX.isNone:=by unfold hI;rw[i]
  refine bb<|bj<|bU (ue (kK (ab 1)<|eH (ck (ab 0) C.r C.r2 rfl) G.aX) λ_=>rY<|CS<|ck (dG (ck (ab 0) C.r C.r2 rfl) (ab 1)<|fM<|show(R.parcels.map<|dH c)[p]?=some (dH c R.parcels[p]) by rw[hZ,i];rfl) C.p C.p3 rfl) ?_;show Dt.bl (decide ((p:Int)<((R.parcels.map<|dH c).length:Int))&&wm (qZ R.parcels[p].bX))=_;rw[g,kC (by omega),j,ts];cases R.parcels[p].bX<;>rfl
 ·have j:hI R p=false:=by unfold hI;grind
  have o:cI .Lt ((p:Nat):Int) ((R.parcels.map (dH c)).length:Int)=false:=by show decide ((p:Int)<((R.parcels.map<|dH c).length:Int))=false;grind
  refine bb<|bj<|bU (ue (l:=false) (bU (kK (ab 1)<|eH (ck (ab 0) C.r C.r2 rfl) G.aX)<|by rw[o]) λq=>by cases q) ?_;grind
def Qh:bP ["parcel"] ["parcel"] (bh<|aF 29):={}
def Rq(c:CL)(C:fX b c)(F:bK b "last_shares" "last_shares" (aF 29) f j):bB a w b n h bC 1 f j ["parcel"] (aA b<|yw c):=by
 refine cN F Qh (λl d⟨R,e,_⟩=>by grind) λm A g s H E l d q⟨x,e,i,k⟩=>?_;subst e k;obtain⟨y,o⟩:=x4 i;have e:bW x=y.2:=by unfold bW;grind
 rw[e];exact bb<|bj<|jM (dG (ck (ab 0) C.p C.p5 rfl) (jn a7)<|Dm (x:=iT y)<|by grind) a7 rfl
def Ps:bP ["parcel","day"] ["parcel","day"] (bh<|aF 30):={}
def OY(c:CL)(C:fX b c)(F:bK b "is_there_on" "is_there_on" (aF 30) f k):bB a w b r j bC 1 f k ["parcel","day"] (aA b<|BO c):=by
 refine cN F Ps (λn d⟨x,t,e,_⟩=>by grind) λo A h s H E n d u⟨x,t,e,m⟩=>?_;subst e m;refine bb<|bj<|bU (ue (l:=x.bX.all λ(g:Nat)=>decide<|t<g) (kK (ck (ab 0) C.p C.p2 rfl)<|ab 1) λ_=>rY ?_) ?_
 ·cases i:x.bX with
  |none=>exact bU (zA (l:=true) (CS (d:=qZ x.bX)<|ck (ab 0) C.p C.p3 rfl) λq=>by rw[i] at q;cases q)<|by grind
  |some g=>refine bU (zA (CS (d:=qZ x.bX)<|ck (ab 0) C.p C.p3 rfl) λ_=>rY<|kK (ab 1)<|ck (d:=.int (g:Nat)) (ab 0) C.p C.p3<|by show some (qZ x.bX)=_;rw[i];rfl) ?_;rw[i];show Dt.bl (false||decide ((t:Int)<(g:Int)))=Dt.bl (decide<|t<g);simp
 ·show Dt.bl (decide ((x.lv:Int)<=(t:Int))&&_)=Dt.bl (decide (x.lv<=t)&&_);simp
def vE{a b:Type}{f:a->b}{g:b->Option a}(h:∀x,g (f x)=some x):∀l:List a,(l.map f).mapM g=some l
 |[]=>rfl
 |x::l=>by rw[dB,EV,h x,vE h l];rfl
def zV(d:Dt):Option (List Pt):=match d with
 |.aq l=>l.mapM mE
 |_=>none
def Ds(r:List Pt):zV (dR r)=some r:=vE ud r
def pW(d:Dt):Option Nat:=match d with
 |.int i=>some i.toNat
 |_=>none
def rQ(n:Nat):pW (.int (n:Nat))=some n:=by rfl
def LR(d:Dt):Option (List Nat):=match d with
 |.aq l=>l.mapM pW
 |_=>none
def TU(l:List Nat):LR (cQ l)=some l:=by show((l.map λ(n:Nat)=>(n:Int)).map Dt.int).mapM pW=some l;rw[d_];exact vE rQ l
def z7(d:Dt):Option Rat:=match d with
 |.a9 [.int n,.int k]=>some<|mkRat n k.toNat
 |_=>none
def V8(q:Rat):z7 (dF q)=some q:=by show some (mkRat q.num ((q.den:Int)).toNat)=some q;simp
def LS(d:Dt):Option cz:=match d with
 |.cE l=>l.mapM λx=>(z7 x.2).map λq=>(x.1,q)
 |_=>none
def Tb(l:cz):LS (dW l)=some l:=vE (f:=λx:Int×Rat=>(x.1,dF x.2)) (g:=λx=>(z7 x.2).map λq=>(x.1,q)) (λx=>by show(z7<|dF x.2).map _=_;rw[V8];rfl) l
def zK(d:Dt):Option (Nat×cz):=match d with
 |.a9 [a,b]=>(pW a).bind λn=>(LS b).map λs=>(n,s)
 |_=>none
def IF(x:Nat×cz):zK (iT x)=some x:=by simp only[zK,iT,rQ,Tb,Na,Nk]
def LD(d:Dt):Option (Option Nat):=match d with
 |.aS=>some none
 |.int i=>some<|some i.toNat
 |_=>none
def PJ(g:Option Nat):LD (qZ g)=some g:=by
 cases g with
 |none=>rfl
 |some t=>rfl
def Dy(d:Dt):Option cg:=match d with
 |.bA _ [(_,a),(_,b),(_,c),(_,e),(_,.aq f)]=>(zV a).bind λr=>(pW b).bind λs=>(LD c).bind λg=>(LR e).bind λm=>(f.mapM zK).map λh=>⟨r,s,g,m,h⟩
 |_=>none
def OW(c:CL)(x:cg):Dy (dH c x)=some x:=by simp only[Dy,dH,oH,Ds,rQ,PJ,TU,vE IF,Na,Nk]
def Ab(c:CL)(x:cg×Nat):Dt:=.a9 [.int (x.2:Nat),dH c x.1]
def DP(d:Dt):Option (cg×Nat):=match d with
 |.a9 [a,b]=>(pW a).bind λn=>(Dy b).map λx=>(x,n)
 |_=>none
def RG(c:CL)(x:cg×Nat):DP (Ab c x)=some x:=by simp only[DP,Ab,rQ,OW,Na,Nk]
def GH:bP ["registry","day","p","parcel"] ["registry","day"] (bh<|aF 31):={}
def QX(c:CL)(C:fX b c)(F:bK b "parcels_on" "parcels_on" (aF 31) f q)(G:MG k)(o:aU a w b k g "is_there_on" 1 (aA b<|BO c)):bB a w b k g bC 2 f q ["registry","day"] (aA b<|yq c):=by
 refine cN F GH (λy d⟨R,t,e,_⟩=>by grind) λB A h s H E y d n⟨R,t,e,I,v⟩=>?_;subst e v;have j:=GH.nd;have m:=fu;have u:wh (R.parcels.map (dH c))=R.parcels.zipIdx.map (Ab c):=by unfold wh;rw[List.zipIdx_map,d_];rfl
 refine bb (bj (bU (jl (be:=[("p",2),("parcel",3)]) (Ab c) DP (RG c) R.parcels.zipIdx (λx=>l_ x.1 t) (λx=>.int (x.2:Nat)) (λx=>[some<|c6 c R,some<|.int (t:Nat),some<|.int (x.2:Nat),some<|dH c x.1])
  (by rw[<-u];exact U7 (ck (ab 0) C.r C.r2 rfl) G.Y6) (g_ rfl) (λs H C z p=>kc rfl<|eD (cG (i:=2) j rfl<|cj rfl)<|eD (cG (i:=3) j rfl<|cj rfl) ka) (sx b 2 3) (λe J=>rfl)
  (λs H C z p x D=>⟨rS<|dD<|aK o n (ah (ab 3)<|ah (ab 1) au) ⟨x.1,t,rfl,rfl⟩,λ_=>ab 2⟩) (by rw[abf];omega) rfl j) ?_))
 unfold cQ lL cK;simp
def JK:bP ["parcel","day","since","shares"] ["parcel","day"] (bh<|aF 32):={}
def Uv(c:CL)(C:fX b c)(F:bK b "shares_on" "shares_on" (aF 32) f v):bB a w b J l bC 1 f v ["parcel","day"] (aA b<|C1 c):=by
 refine cN F JK (λB d⟨R,t,e,_⟩=>by grind) λI A g s H E B d M⟨x,t,e,N,o,z⟩=>?_;subst e z;have j:=JK.nd;have r:=fu;have k:x.bd.filter (λs=>decide<|s.1<=t)≠[]:=λq=>by
  obtain⟨s,L,h⟩:=o;have:s∈x.bd.filter (λs=>decide<|s.1<=t):=by grind
  grind
 obtain⟨y,n⟩:=x4 k;have e:d7 x t=y.2:=by unfold d7;grind
 rw[e];refine bb (bj (dG (jl (be:=[("since",2),("shares",3)]) iT zK IF x.bd (λs=>decide<|s.1<=t) (λs=>dW s.2) (λs=>[some<|dH c x,some<|.int (t:Nat),some<|.int (s.1:Nat),some<|dW s.2])
  (fc<|ck (ab 0) C.p C.p5 rfl) (g_ rfl) (λs H C D u=>kc rfl<|eD (cG (i:=2) j rfl<|cj rfl)<|eD (cG (i:=3) j rfl<|cj rfl) ka) (sx b 2 3) (λe O=>rfl)
  (λs H C D u y n=>⟨rS<|cW (cw (ab 2)<|ab 1) ?_,λ_=>ab 3⟩) (by omega) rfl j) (jn a7) (Dm<|by grind)))
 show decide ((y.1:Int)<=(t:Int))=decide (y.1<=t);grind
open Sy(area onRing inRing besides)
def gW:2<=bx:=by decide
def ZI:4<=bx:=by decide
abbrev An:=Int×List Int
def iP(a:An):Dt:=.a9 [.int a.1,lL a.2]
structure Nr(p:Pt):Prop where
 a:0<=p.1
 b:p.1<=1000000
 c:0<=p.2
 d:p.2<=1000000
def Nr.p(h:Nr e):Bp e:=⟨by have:=h.a;omega,by have:=h.b;omega,by have:=h.c;omega,by have:=h.d;omega⟩
structure mu(x:cg):Prop where
 aX:x.ring.length<=64
 nr:∀p∈x.ring,Nr p
 i8:Ld.bZ x.ring
 eW:x.eW.length<=2
 ne:x.bd≠[]
 cl:x.bd.length<=1000
 first:∃s∈x.bd,s.1<=x.lv
 Mi:∀s∈x.bd,s.2.length<=2000
 fs:∀s∈x.bd,∀e∈s.2,Fs e.2
def mu.bp(h:mu x):∀p∈x.ring,Bp p:=λp a=>(h.nr p a).p
structure kl(R:aZ):Prop where
 aX:R.parcels.length<=200
 ay:∀x∈R.parcels,mu x
 acts:R.acts.length<=400
def kl.get(h:kl R){p:Nat}(e:R.parcels[p]?=some x):mu x:=h.ay x<|dA e
def wd(g:Option Nat):Int:=match g with
 |some t=>(t:Nat)
 |none=>-1
def ni(l:List Nat):List Int:=l.map λ(n:Nat)=>(n:Int)
def qB(R:aZ)(p:Nat):An:=match R.parcels[p]? with
 |none=>(-4,[])
 |some x=>(0,[wd x.bX,(x.lv:Nat),bR x.ring,(x.eW.length:Nat)]++ni x.eW++k4 x.ring)
def Du(R:aZ)(d:Nat):An:=(((cK R d).length:Nat),ni<|cK R d)
def qy(R:aZ)(p q:Nat):An:=match R.parcels[p]?,R.parcels[q]? with
 |some x,some y=>((iA x.ring y.ring:Nat),[])
 |_,_=>(-4,[])
def zF(R:aZ):An:=((R.acts.length:Nat),[(eL R:Nat),(R.parcels.length:Nat)])
def jU(R:aZ)(q:Pt)(k:Nat):Bool:=(R.parcels[k]?).any λx=>cB x.ring q
def pU(R:aZ)(q:Pt)(k:Nat):Bool:=(R.parcels[k]?).any λx=>b_ x.ring q
def Ac(R:aZ)(q:Pt)(d:Nat):An:=(if((cK R d).any<|jU R q)=true then 1 else 0,ni<|(cK R d).filter λk=>jU R q k||pU R q k)
def oo:List Dt->Dt->Prop:=λa d=>∃n:Int,a=[.int n]/\d=iP (n,[])
def Hf(c:CL):List Dt->Dt->Prop:=λa d=>∃(R:aZ)(p:Nat),a=[c6 c R,.int (p:Nat)]/\kl R/\d=iP (qB R p)
def Ls(c:CL):List Dt->Dt->Prop:=λa d=>∃(R:aZ)(x y t:Nat),a=[c6 c R,.int (x:Nat),.int (y:Nat),.int (t:Nat)]/\kl R/\x<=4294967295/\y<=4294967295/\d=iP (Ac R ((x:Nat),(y:Nat)) t)
def Io(c:CL):List Dt->Dt->Prop:=λa d=>∃(R:aZ)(t:Nat),a=[c6 c R,.int (t:Nat)]/\kl R/\d=iP (Du R t)
def GG(c:CL):List Dt->Dt->Prop:=λa d=>∃(R:aZ)(p q:Nat),a=[c6 c R,.int (p:Nat),.int (q:Nat)]/\kl R/\d=iP (qy R p q)
def Jf(c:CL):List Dt->Dt->Prop:=λa d=>∃R:aZ,a=[c6 c R]/\d=iP (zF R)
def Pw:bP ["number"] ["number"] (bh<|aF 22):={}
def O3(F:bK b "refused" "refused" (aF 22) f i):bB a w b l h bC 1 f i ["number"] (aA b oo):=by refine cN F Pw (λg d⟨R,e,_⟩=>by grind) λk A c s H E g d m⟨n,e,j⟩=>?_;subst e j;exact bb<|bj<|gd (ds:=[.int n,.aq []]) (ah (ab 0)<|ah (gQ (ds:=[]) au) au) gW
def m4{R:aZ}{p:Nat}(c:CL)(h:R.parcels[p]?=some x):(R.parcels.map<|dH c)[p]?=some (dH c x):=by grind
def Gk:bP ["registry","p","parcel","gone","told"] ["registry","p"] (bh<|aF 88):={}
def O_(c:CL)(C:fX b c)(F:bK b "answer_parcel" "answer_parcel" (aF 88) f M)(G:MG l)(L:aU a w b l g "refused" 1 (aA b oo))(J:aU a w b l g "twice_area" 2 (aA b rZ))(I:aU a w b l g "numbers_of" 1 (aA b GV)):bB a w b l g bC 3 f M ["registry","p"] (aA b<|Hf c):=by
 refine cN F Gk (λv d⟨R,p,e,_⟩=>by grind) λO A m s H E v d u⟨R,p,e,D,N⟩=>?_;subst e N;have n:=Gk.nd;have y:=fu;have k:=u.cb<|show 1<=2 by decide
 have j:(R.parcels.map (dH c)).length=R.parcels.length:=bS _;obtain⟨S,Q⟩:=G.c4;refine eS (cw (ab 1)<|eH (ck (ab 0) C.r C.r2 rfl) G.aX) (λh=>?_) λh=>?_
 ·have h:decide (((R.parcels.map (dH c)).length:Int)<=(p:Int))=true:=h;have h:=fB h;rw[j] at h;have e:qB R p=(-4,[]):=by unfold qB;grind
  rw[e];exact bb<|bj<|aK L k (ah (cS Q) au) ⟨-4,rfl,rfl⟩
 ·have h:decide (((R.parcels.map (dH c)).length:Int)<=(p:Int))=false:=h;have h:=iC h;rw[j] at h;have z:p<R.parcels.length:=by omega
  obtain⟨x,o⟩:∃x,R.parcels[p]?=some x:=⟨_,d9 z⟩
  have t:=D.get o;have e:qB R p=(0,[wd x.bX,(x.lv:Nat),bR x.ring,(x.eW.length:Nat)]++ni x.eW++k4 x.ring):=by unfold qB;rw[o]
  rw[e];have T:=t.aX;refine dQ (c_ (i:=2) (dG (ck (ab 0) C.r C.r2 rfl) (ab 1)<|fM<|m4 c o) n) ?_;refine dQ (c_ (i:=3) (d:=.int<|wd x.bX) (bU (wt (d1:=.int<|-1) (d2:=qZ x.bX) (vX (d:=qZ x.bX)<|ck (ab 2) C.p C.p3 rfl) (λ_=>jn a7) λ_=>ck (ab 2) C.p C.p3 rfl)<|by cases x.bX<;>rfl) n) ?_;refine dQ (c_ (i:=4) (d:=.aq [.int<|wd x.bX,.int (x.lv:Nat),.int<|bR x.ring,.int (x.eW.length:Nat)]) (gQ (ah (ab 3)<|ah (ck (ab 2) C.p C.p2 rfl)<|ah (aK J u (ah (ck (ab 2) C.p C.p1 rfl) au) ⟨x.ring,rfl,by omega,t.bp,rfl⟩)<|ah (bU (eH (ck (ab 2) C.p C.p4 rfl) G.aX)<|by grind) au) ZI) n) ?_;have B:=t.eW;have q:(k4 x.ring).length=2*x.ring.length:=by unfold k4;rw[xb];show(x.ring.map λ_=>2).sum=_;rw[List.map_const',List.sum_replicate_nat,acF]
  refine bb<|bj<|bU (gd (ds:=[.int 0,.aq<|[Dt.int<|wd x.bX,.int (x.lv:Nat),.int<|bR x.ring,.int (x.eW.length:Nat)]++(ni x.eW).map .int++(k4 x.ring).map .int]) (ah a7<|ah (lm (lm (ab 4) (ck (d:=.aq<|(ni x.eW).map .int) (ab 2) C.p C.p4 rfl) ?_) (aK I k (ah (ck (ab 2) C.p C.p1 rfl) au) ⟨x.ring,rfl,by omega,rfl⟩) ?_) au) gW) ?_
  ·rw[bS];unfold ni;grind
  ·rw[jY,bS,bS,q];unfold ni;grind
  ·unfold iP lL;grind
def GF:bP ["registry","day","there"] ["registry","day"] (bh<|aF 90):={}
def Rh(c:CL)(F:bK b "answer_there" "answer_there" (aF 90) f q)(G:MG j)(o:aU a w b j g "parcels_on" 2 (aA b<|yq c)):bB a w b j g bC 3 f q ["registry","day"] (aA b<|Io c):=by refine cN F GF (λk d⟨R,p,e,_⟩=>by grind) λu A h s H E k d m⟨R,t,e,n,r⟩=>?_;subst e r;have l:=GF.nd;have v:=n.aX;refine dQ (c_ (i:=2) (aK o m (ah (ab 0)<|ah (ab 1) au) ⟨R,t,rfl,by omega,rfl⟩) l) ?_;refine bb<|bj<|bU (gd (ds:=[.int ((cK R t).length:Nat),cQ<|cK R t]) (ah (bU (eH (ab 2) G.aX)<|by grind)<|ah (ab 2) au) gW) ?_;rfl
def RU:bP ["registry"] ["registry"] (bh<|aF 94):={}
def S_(c:CL)(C:fX b c)(F:bK b "answer_acts" "answer_acts" (aF 94) f m)(G:MG i)(l:aU a w b i g "last_day" 1 (aA b<|BF c)):bB a w b i g bC 2 f m ["registry"] (aA b<|Jf c):=by refine cN F RU (λj d⟨R,e,_⟩=>by grind) λo A h s H E j d k⟨R,e,n⟩=>?_;subst e n;exact bb<|bj<|gd (ds:=[.int (R.acts.length:Nat),.aq [.int (eL R:Nat),.int (R.parcels.length:Nat)]]) (ah (bU (eH (ck (ab 0) C.r C.r3 rfl) G.aX)<|by grind)<|ah (gQ (ah (aK l k (ah (ab 0) au) ⟨R,rfl,rfl⟩)<|ah (bU (eH (ck (ab 0) C.r C.r2 rfl) G.aX)<|by grind) au) gW) au) gW
def Pg:bP ["registry","p","q"] ["registry","p","q"] (bh<|aF 93):={}
def Pe(c:CL)(C:fX b c)(F:bK b "answer_beside" "answer_beside" (aF 93) f I)(G:MG k)(D:aU a w b k i "refused" 1 (aA b oo))(B:aU a w b k i "how_beside" 5 (aA b Ln)):bB a w b k i bC 6 f I ["registry","p","q"] (aA b<|GG c):=by
 refine cN F Pg (λm d⟨R,p,q,e,_⟩=>by grind) λL A j s H E m d v⟨R,p,q,e,z,J⟩=>?_;subst e J;have l:=v.cb<|show 1<=5 by decide
 have g:(R.parcels.map (dH c)).length=R.parcels.length:=bS _;obtain⟨N,M⟩:=G.c4;refine eS (cw (CP (ab 1) (ab 2) G.max rfl)<|eH (ck (ab 0) C.r C.r2 rfl) G.aX) (λh=>?_) λh=>?_
 ·have h:=fB h;rw[g] at h;have e:qy R p q=(-4,[]):=by unfold qy;grind
  rw[e];exact bb<|bj<|aK D l (ah (cS M) au) ⟨-4,rfl,rfl⟩
 ·have h:=iC h;rw[g] at h;obtain⟨x,u⟩:∃x,R.parcels[p]?=some x:=⟨_,d9<|by omega⟩
  obtain⟨y,t⟩:∃x,R.parcels[q]?=some x:=⟨_,d9<|by omega⟩
  have e:qy R p q=(((iA x.ring y.ring:Nat):Int),[]):=by unfold qy;grind
  rw[e];have n:=z.get u;have o:=z.get t;have Q:=n.aX;have O:=o.aX;exact bb<|bj<|gd (ds:=[.int (iA x.ring y.ring:Nat),.aq []]) (ah (aK B v (ah (ck (dG (ck (ab 0) C.r C.r2 rfl) (ab 1)<|fM<|m4 c u) C.p C.p1 rfl)<|ah (ck (dG (ck (ab 0) C.r C.r2 rfl) (ab 2)<|fM<|m4 c t) C.p C.p1 rfl) au) ⟨x.ring,y.ring,rfl,by omega,by omega,n.bp,o.bp,n.i8,o.i8,rfl⟩)<|ah (gQ (ds:=[]) au) au) gW
end Pf
namespace L3
open PySem PySem.Spec PyProof.Rows L2
def T1(k:DE X e a (.int m))(l:a[i]?=some (some<|.int n))(o:X.N.Nodup)(g:X.N[i]?=some x:=by rfl)(f:oO X.ae.scope x:=by first|exact cj rfl|exact gF rfl)(j:X.fn x=true\/X.ae.scope.names.lookup x=some .local:=by first|exact .inl rfl|exact .inr rfl):DS X (.AugAssign (.Name x c) .Add e d) a (.nx (a.set i (some (.int (n+m))))):=PS.aN (Wo o g f k V5 j) λD u H⟨F,b,q⟩=>by obtain⟨v,r,p⟩:=b.kO i _ l;cases p;refine⟨_,r,F,b,λv t s h=>?_⟩;cases h;exact⟨n,m,rfl,rfl,q _ t s<|(b.same s).set<|.int _⟩
end L3
namespace Pf
open PySem PySem.Spec PyProof.Rows L2 L3
open Sy(Pt Ring area onRing inRing besides)
def ui(l:List Nat):cQ l=.aq (l.map λ(k:Nat)=>Dt.int (k:Nat)):=by unfold cQ lL;simp
def FV(h:k∈cK R t):∃x,R.parcels[k]?=some x/\l_ x t=true:=by unfold cK at h;grind
def Ga{R:aZ}:(cK R t).length<=R.parcels.length:=by unfold cK;rw[bS];refine dY (w9 _ _) ?_;simp
def Q_(R:aZ)(t:Nat):(cK R t).Pairwise (·<·):=by
 unfold cK;rw[nR];refine Z5 MY ?_;have:R.parcels.zipIdx.map (·.2)=AL 0 R.parcels.length:=by simp
 rw[<-nR (f:=λx:cg×Nat=>x.2) (R:=(·<·)),this];exact List.pairwise_lt_range'
def N_{l:List Nat}(f:l.Pairwise (·<·))(i:∀k∈l,q k=true->p k=false)(c:d.Perm (ni (l.filter p)++ni (l.filter q)))(j:d.Pairwise (·<=·)):d=ni (l.filter λk=>p k||q k):=by
 have e:(l.filter p++l.filter q).Perm (l.filter λk=>p k||q k):=by
  have:=aaH p<|l.filter λk=>p k||q k;rw[abi,abi] at this;refine aa1 (List.Perm.of_eq ?_) this;congr 1
  ·apply EH;intro k _;cases p k<;>simp
  ·apply EH;intro k g;have:=i k g;cases e:p k<;>cases n:q k<;>simp_all
 unfold ni at c ⊢;rw[<-dw] at c;refine Al (le:=(·<=·)) (λa b _ _ x y=>by omega) j ?_<|c.trans<|e.map _;rw[nR];refine acX ?_<|Z5 MY f;intro a b h;omega
def yi(c:CL):List Dt->Dt->Prop:=λa d=>∃(R:aZ)(l:List Nat)(t m:Nat),a=[c6 c R,cQ l,.int (t:Nat),.int (m:Nat)]/\l.length<=1000/\
 d=.int (if t<eL R\/1000000<t then-1 else if l.all (hI R)=false then-4 else if 200<R.parcels.length+m then-2 else 0)
def pA(R:aZ)(o:Nat)(d:Nat)(b:Nat×Rat)(k:Nat):Nat×Rat:=match R.parcels[k]? with
 |none=>b
 |some x=>if 0<(bG (d7 x d) (o:Nat)).num then(b.1+1,b.2+bG (d7 x d) (o:Nat)*(bR x.ring:Rat)/2) else b
def i7(R:aZ)(o d:Nat)(l:List Nat):Nat×Rat:=l.foldl (pA R o d) (0,0)
def zj(R:aZ)(o d:Nat):An:=(((i7 R o d<|cK R d).1:Nat),[(i7 R o d<|cK R d).2.num,((i7 R o d<|cK R d).2.den:Nat)])
def gh(l:cz):List Int:=(l.map (·.1)).mergeSort λa b=>decide<|a<=b
def oD(l:cz)(o:Int):List Int:=[o,(bG l o).num,((bG l o).den:Nat)]
def oC(R:aZ)(p d:Nat):An:=match R.parcels[p]? with
 |none=>(-4,[])
 |some x=>if l_ x d=true then(((d7 x d).length:Nat),(gh<|d7 x d).flatMap<|oD<|d7 x d) else(-5,[])
structure wj(R:aZ)(o d:Nat):Prop where
 one:∀x∈R.parcels,Fs (bG (d7 x d) (o:Nat)*(bR x.ring:Rat)/2)
 ar:∀x∈R.parcels,(bR x.ring).natAbs<2^100
 sum:∀i,Fs (i7 R o d ((cK R d).take i)).2
def HN(c:CL):List Dt->Dt->Prop:=λa d=>∃(R:aZ)(o t:Nat),a=[c6 c R,.int (o:Nat),.int (t:Nat)]/\kl R/\wj R o t/\d=iP (zj R o t)
def IA(c:CL):List Dt->Dt->Prop:=λa d=>∃(R:aZ)(p t:Nat),a=[c6 c R,.int (p:Nat),.int (t:Nat)]/\kl R/\d=iP (oC R p t)
def KL:bP ["registry","x","y","day","point","there","within","bordering","p"] ["registry","x","y","day"] (bh<|aF 89):={}
def Xq(c:CL)(C:fX b c)(F:bK b "answer_at" "answer_at" (aF 89) f fd)(G:MG v)(h1:aU a w b v g "parcels_on" 2 (aA b<|yq c))(h2:aU a w b v g "is_inside" 3 (aA b zQ))(h3:aU a w b v g "is_on_edge" 3 (aA b zC)):bB a w b v g bC 4 f fd ["registry","x","y","day"] (aA b<|Ls c):=by
 refine cN F KL (λQ d⟨R,x,y,t,e,_⟩=>by grind) λb' A D s H E Q d J⟨R,x,y,t,e,T,hx,hy,ed⟩=>?_;subst e ed;have n:=KL.nd;have Z:=fu;have I:=J.cb<|show 2<=3 by decide
 have hl:=T.aX;have a':=Ga (R:=R) (t:=t);obtain⟨q,L⟩:∃q:Pt,q=(((x:Nat):Int),((y:Nat):Int)):=⟨_,rfl⟩
 have U:Bp q:=by rw[L];constructor<;>simp<;>omega
 have M:∀k∈cK R t,∃z,R.parcels[k]?=some z/\mu z:=λk m=>let⟨z,h,_⟩:=FV m;⟨z,h,T.get h⟩;refine dQ (c_ (i:=4) (d:=dP q) (bU (gd (ds:=[.int (x:Nat),.int (y:Nat)]) (ah (ab 1)<|ah (ab 2) au) gW)<|by rw[L];rfl) n) ?_;refine dQ (c_ (i:=5) (d:=.aq<|(cK R t).map λ(k:Nat)=>Dt.int (k:Nat)) (bU (aK h1 I (ah (ab 0)<|ah (ab 3) au) ⟨R,t,rfl,by omega,rfl⟩)<|ui _) n) ?_;refine dQ (x6 (i:=6) (be:=[("p",8)]) (λ(k:Nat)=>Dt.int (k:Nat)) pW rQ (cK R t) (jU R q) (λ(k:Nat)=>Dt.int (k:Nat)) (λk=>[some<|c6 c R,some<|.int (x:Nat),some<|.int (y:Nat),some<|.int (t:Nat),some<|dP q,some<|.aq<|(cK R t).map λ(k:Nat)=>Dt.int (k:Nat),none,none,some<|.int (k:Nat)])
  (fc<|ab 5) (g_ rfl) (λs H C S N=>cG (i:=8) n rfl<|cj rfl) (mI b 8) (λe he=>rfl)
  (λs H C' S N k m=>⟨rS (dD (by
   obtain⟨z,u,o⟩:=M k m;have O:jU R q k=cB z.ring q:=by unfold jU;grind
   rw[O];have:=o.aX;exact aK h2 J (ah (ck (dG (ck (ab 0) C.r C.r2 rfl) (ab 8)<|fM<|m4 c u) C.p C.p1 rfl)<|ah (ab 4) au) ⟨z.ring,q,rfl,by omega,o.bp,U,rfl⟩)),λ_=>ab 8⟩) (by omega) rfl n) ?_
 refine dQ (x6 (i:=7) (be:=[("p",8)]) (λ(k:Nat)=>Dt.int (k:Nat)) pW rQ (cK R t) (pU R q) (λ(k:Nat)=>Dt.int (k:Nat)) (λk=>[some<|c6 c R,some<|.int (x:Nat),some<|.int (y:Nat),some<|.int (t:Nat),some<|dP q,some<|.aq<|(cK R t).map λ(k:Nat)=>Dt.int (k:Nat),some<|.aq<|((cK R t).filter<|jU R q).map λ(k:Nat)=>Dt.int (k:Nat),none,some<|.int (k:Nat)])
  (fc<|ab 5) (g_ rfl) (λs H C S N=>cG (i:=8) n rfl<|cj rfl) (mI b 8) (λe he=>rfl)
  (λs H C' S N k m=>⟨rS (dD (by
   obtain⟨z,u,o⟩:=M k m;have O:pU R q k=b_ z.ring q:=by unfold pU;grind
   rw[O];have:=o.aX;exact aK h3 J (ah (ck (dG (ck (ab 0) C.r C.r2 rfl) (ab 8)<|fM<|m4 c u) C.p C.p1 rfl)<|ah (ab 4) au) ⟨z.ring,q,rfl,by omega,o.bp,U,rfl⟩)),λ_=>ab 8⟩) (by omega) rfl n) ?_
 rw[<-L];have Y:∀l:List Nat,(l.map λ(k:Nat)=>Dt.int (k:Nat))=(ni l).map .int:=λl=>by unfold ni;simp
 have lf:∀p:Nat->Bool,((cK R t).filter p).length<=200:=by grind
 refine bb<|bj<|bU (gd (ds:=[.int (Ac R q t).1,.aq<|(ni<|(cK R t).filter λk=>jU R q k||pU R q k).map .int]) (ah (bU (wt (d1:=.int 1) (d2:=.int 0) (cw (eH (ab 6) G.aX) a7) (λ_=>a7) λ_=>a7) ?_)<|ah (F4 (ns:=ni ((cK R t).filter<|jU R q)++ni ((cK R t).filter<|pU R q)) (bU (lm (ab 6) (ab 7) ?_) ?_) (λX g1 g2=>N_ (Q_ R t) ?_ g1 g2) G.sorted) au) gW) rfl
 ·rw[bS];show(if decide ((0:Int)<(((cK R t).filter<|jU R q).length:Int))=true then Dt.int 1 else Dt.int 0)=Dt.int (if((cK R t).any<|jU R q)=true then 1 else 0);have:((cK R t).any (jU R q))=decide ((0:Int)<(((cK R t).filter (jU R q)).length:Int)):=by rw[mM,eg,lV];simp
  rw[this];split<;>rfl
 ·grind
 ·grind
 ·intro k m j;obtain⟨z,u,o⟩:=M k m;unfold pU at j;unfold jU;rw[u] at j ⊢;have j:b_ z.ring q=true:=j;show cB z.ring q=false;unfold cB;grind
def FM:bP ["registry","touched","day","made","p"] ["registry","touched","day","made"] (bh<|aF 74):={}
def Pn(c:CL)(C:fX b c)(F:bK b "act_refusal" "act_refusal" (aF 74) f z)(G:MG n)(x:aU a w b n g "last_day" 1 (aA b<|BF c))(v:aU a w b n g "is_still_there" 1 (aA b<|JL c)):bB a w b n g bC 2 f z ["registry","touched","day","made"] (aA b<|yi c):=by
 refine cN F FM (λD d⟨R,l,t,m,e,_⟩=>by grind) λJ A j s H E D d p⟨R,l,t,m,e,Z,B⟩=>?_;rw[ui] at e;subst e B;have o:=FM.nd;have u:=fu;obtain⟨Y,Q⟩:=G.c1;obtain⟨X,O⟩:=G.c2;obtain⟨U,N⟩:=G.c4;obtain⟨T,M⟩:=G.day;obtain⟨S,L⟩:=G.ay;refine eS (ke (cw (ab 2)<|aK x p (ah (ab 0) au) ⟨R,rfl,rfl⟩) λ_=>mh<|cw (ab 2)<|cS M).dt (λh=>?_) λh=>?_
 ·have h:(decide ((t:Int)<(eL R:Int))||decide ((1000000:Int)<(t:Int)))=true:=h;rw[oX,eg,eg] at h;rw[aM<|by omega];exact bb<|bj<|cS Q
 ·have h:(decide ((t:Int)<(eL R:Int))||decide ((1000000:Int)<(t:Int)))=false:=h;rw[rj,o8,o8] at h;rw[aL<|by omega];refine eS (m9 (dD (v7 (l:=l.map<|hI R) (bU (jl (be:=[("p",4)]) (λ(k:Nat)=>Dt.int (k:Nat)) pW rQ l (λ_=>true) (λk=>.bl<|hI R k) (λk=>[some<|c6 c R,some<|.aq<|l.map λ(k:Nat)=>Dt.int (k:Nat),some<|.int (t:Nat),some<|.int (m:Nat),some<|.int (k:Nat)])
   (fc<|ab 1) (g_ rfl) (λs H C I y=>cG (i:=4) o rfl<|cj rfl) (mI b 4) (λe he=>rfl)
   (λs H C' I y k hk=>⟨kF,λ_=>aK v p (ah (ab 0)<|ah (ab 4) au) ⟨R,k,rfl,rfl⟩⟩) (by omega) rfl o) ?_) G.all rfl))) (λh=>?_) (λh=>?_)
  ·rw[jz.mpr λ_ _=>rfl,d_];rfl
  ·rw[h_,AJ] at h;rw[aM<|by exact h];exact bb<|bj<|cS N
  ·rw[Ar,AJ] at h;rw[aL<|by grind];refine eS (cw (jm (eH (ck (ab 0) C.r C.r2 rfl) G.aX)<|ab 3)<|cS L) (λh=>?_) λh=>?_
   ·have h:=fB h;rw[bS] at h;rw[aM<|by omega];exact bb<|bj<|cS O
   ·have h:=iC h;rw[bS] at h;rw[aL<|by omega];exact bb<|bj a7
def Fs.zero:Fs 0:=⟨by show 0<2^20000;omega,by simp⟩
def Lb(h:∀e∈l,Fs e.2)(o:Int):Fs (bG l o):=by
 unfold bG;cases e:l.find? λx=>decide (x.1=o) with
 |none=>exact Fs.zero
 |some x=>grind
def BQ:d7 x t=[]\/∃s∈x.bd,d7 x t=s.2:=by unfold d7;grind
def mu.sh(h:mu x)(t:Nat)(o:Int):Fs (bG (d7 x t) o):=by
 rcases BQ (x:=x) (t:=t) with e|⟨s,a,e⟩;·rw[e];exact Fs.zero
 ·rw[e];exact Lb (h.fs s a) o
def mu.Yh(h:mu x)(t:Nat):(d7 x t).length<=2000:=by
 rcases BQ (x:=x) (t:=t) with e|⟨s,a,e⟩;·grind
 ·rw[e];exact h.Mi s a
def mu.jV(h:mu x)(a:l_ x t=true):∃s∈x.bd,s.1<=t:=by obtain⟨s,b,c⟩:=h.first;unfold l_ at a;grind
def Tr(l:cz)(h:o∈l.map (·.1)):iJ (l.map λx=>(x.1,dF x.2)) o=some (dF<|bG l o):=by
 unfold iJ bG;rw[AE];show(((l.find? λx=>decide<|x.1=o).map λx=>(x.1,dF x.2)).map (·.2))=_;cases e:l.find? λx=>decide (x.1=o) with
 |some x=>rfl
 |none=>grind
def OQ(l:cz)(f:c.Perm (l.map (·.1)))(e:c.Pairwise (·<=·)):c=gh l:=by unfold gh;have g:=ML (le:=λa b:Int=>decide<|a<=b) (by grind) (by grind) (l.map (·.1));refine Al (le:=(·<=·)) (λa b _ _ x y=>by omega) e (by grind)<|f.trans (Aq _ _).symm
def Qq(l:cz)(h:o∈gh l):o∈l.map (·.1):=(Aq _ _).mem_iff.mp h
def Gu(l:cz):(gh l).length=l.length:=by unfold gh;simp
def G7:bP ["registry","owner","day","held","area","p","parcel","share"] ["registry","owner","day"] (bh<|aF 92):={}
def Rv(c:CL)(C:fX b c)(F:bK b "answer_holds" "answer_holds" (aF 92) f fd)(G:MG u)(h1:aU a w b u h "parcels_on" 2 (aA b<|yq c))(h2:aU a w b u h "share_of" 1 (aA b yf))(h3:aU a w b u h "shares_on" 1 (aA b<|C1 c))(h4:aU a w b u h "plus" 3 (aA b C5))(h5:aU a w b u h "area_of" 3 (aA b HZ))(h6:aU a w b u h "twice_area" 2 (aA b rZ)):bB a w b u h bC 4 f fd ["registry","owner","day"] (aA b<|HN c):=by
 refine pS F G7 (λS d⟨R,o,t,e,_⟩=>by grind) λc' A T s H E S d M0 Q⟨R,o,t,e,hR,hB,ed⟩=>?_;subst e ed;have q:=G7.nd;have hl:=hR.aX;have L:=Q.cb<|show 2<=3 by decide
 have M:=Q.cb<|show 1<=3 by decide
 let g:Nat->Nat×Rat:=λi=>i7 R o t<|(cK R t).take i;refine gR (c_ (i:=3) (d:=.int ((g 0).1:Nat)) a7 q) ?_;refine gR (c_ (i:=4) (d:=dF (g 0).2) (gd (ds:=[.int 0,.int 1]) (ah a7<|ah a7 au) gW) q) ?_;refine cZ (P1:=λy m=>y=M0/\m=[some<|c6 c R,some<|.int (o:Nat),some<|.int (t:Nat),some<|.int ((g (cK R t).length).1:Nat),some<|dF (g (cK R t).length).2,none,none,none]) (MS.imp (uh (ds:=(cK R t).map λ(k:Nat)=>Dt.int (k:Nat)) (λi y m=>y=M0/\m=[some<|c6 c R,some<|.int (o:Nat),some<|.int (t:Nat),some<|.int ((g i).1:Nat),some<|dF (g i).2,none,none,none]) (λ_ _=>False)
  (fc<|bU (aK h1 L (ah (ab 0)<|ah (ab 2) au) ⟨R,t,rfl,by omega,rfl⟩)<|ui _) (cG (i:=5) q rfl<|cj rfl) (pO b 5) ⟨rfl,rfl⟩ ?_ jB rfl) ?_) ?_
 ·rintro i d v y m ⟨N,rfl⟩;subst N;rw[hZ] at v;cases Z:(cK R t)[i]? with
  |none=>grind
  |some k=>
   rw[Z] at v;cases v;obtain⟨hi,a'⟩:=gD.mp Z;obtain⟨x,X,Y⟩:=FV<|dA Z;have O:=hR.get X;have mx:x∈R.parcels:=dA X;have sl:=O.aX;have cl:=O.cl;have e1:g (i+1)=pA R o t (g i) k:=by show i7 R o t _=_;unfold i7;rw[nJ hi,EG,a'];rfl
   refine⟨_,rfl,?_⟩;refine gR (c_ (i:=6) (dG (ck (ab 0) C.r C.r2 rfl) (ab 5)<|fM<|m4 c X) q) ?_;refine gR (c_ (i:=7) (aK h2 M (ah (aK h3 M (ah (ab 6)<|ah (ab 2) au) ⟨x,t,rfl,cl,O.jV Y,rfl⟩)<|ah (ab 1) au) ⟨d7 x t,(o:Nat),rfl,rfl⟩) q) ?_;show cf _ _ _ [some<|c6 c R,some<|.int (o:Nat),some<|.int (t:Nat),some<|.int ((g i).1:Nat),some<|dF (g i).2,some<|.int (k:Nat),some<|dH c x,some<|dF<|bG (d7 x t) (o:Nat)] _;obtain⟨l,J⟩:∃l,l=bG (d7 x t) (o:Nat):=⟨_,rfl⟩
   have D:=hB.one x mx;have a1:=hB.ar x mx;have b':Fs l:=by rw[J];exact O.sh t _
   have e2:pA R o t (g i) k=if 0<l.num then((g i).1+1,(g i).2+l*(bR x.ring:Rat)/2) else g i:=by unfold pA;grind
   rw[<-J] at D ⊢;by_cases z:0<l.num
   ·rw[aM z] at e2;refine qu (P1:=λj U=>j=y/\U=.nx [some<|c6 c R,some<|.int (o:Nat),some<|.int (t:Nat),some<|.int ((g<|i+1).1:Nat),some<|dF (g<|i+1).2,some<|.int (k:Nat),some<|dH c x,some<|dF l]) (CT (cW (cw (fx 7) a7)<|kC z) ?_) ?_ ?_
    ·refine gR (T1 (i:=3) (n:=((g i).1:Nat)) a7 rfl q) ?_;refine gR (c_ (i:=4) (aK h4 Q (ah (ab 4)<|ah (aK h5 Q (ah (ab 7)<|ah (aK h6 L (ah (ck (ab 6) C.p C.p1 rfl) au) ⟨x.ring,rfl,by omega,O.bp,rfl⟩) au) ⟨l,bR x.ring,rfl,b',a1,rfl⟩) au) ⟨(g i).2,l*(bR x.ring:Rat)/2,rfl,hB.sum i,D,rfl⟩) q) ?_;refine fj ⟨rfl,?_⟩;grind
    ·rintro M9 B ⟨N,e⟩;subst N;cases e;refine oy (P:=λj I=>j=M9/\I=.nx [some<|c6 c R,some<|.int (o:Nat),some<|.int (t:Nat),some<|.int ((g<|i+1).1:Nat),some<|dF (g<|i+1).2,some<|.int (k:Nat),some<|dH c x,some<|dF l]) (fj ⟨rfl,rfl⟩) ?_;rintro M6 I ⟨rfl,rfl⟩;exact⟨[some<|c6 c R,some<|.int (o:Nat),some<|.int (t:Nat),some<|.int ((g<|i+1).1:Nat),some<|dF (g<|i+1).2,none,none,none],⟨rfl,rfl,rfl,rfl,rfl,trivial⟩,rfl,rfl⟩
    grind
   ·rw[aL z] at e2;refine qu (P1:=λj U=>j=y/\U=.nx [some<|c6 c R,some<|.int (o:Nat),some<|.int (t:Nat),some<|.int ((g<|i+1).1:Nat),some<|dF (g<|i+1).2,some<|.int (k:Nat),some<|dH c x,some<|dF l]) (Di (cW (cw (fx 7) a7)<|mX z)<|fj ⟨rfl,?_⟩) ?_ ?_;·grind
    ·rintro M9 B ⟨N,e⟩;subst N;cases e;refine oy (P:=λj I=>j=M9/\I=.nx [some<|c6 c R,some<|.int (o:Nat),some<|.int (t:Nat),some<|.int ((g<|i+1).1:Nat),some<|dF (g<|i+1).2,some<|.int (k:Nat),some<|dH c x,some<|dF l]) (fj ⟨rfl,rfl⟩) ?_;rintro M6 I ⟨rfl,rfl⟩;exact⟨[some<|c6 c R,some<|.int (o:Nat),some<|.int (t:Nat),some<|.int ((g<|i+1).1:Nat),some<|dF (g<|i+1).2,none,none,none],⟨rfl,rfl,rfl,rfl,rfl,trivial⟩,rfl,rfl⟩
    grind
 ·grind
 ·rintro M1 B ⟨rfl,rfl⟩;have e:g (cK R t).length=i7 R o t (cK R t):=by grind
  rw[e];exact j9 (bb<|bj<|gd (ds:=[.int ((i7 R o t<|cK R t).1:Nat),.aq [.int (i7 R o t<|cK R t).2.num,.int ((i7 R o t<|cK R t).2.den:Nat)]]) (ah (ab 3)<|ah (HK (ab 4) G.list) au) gW) ⟨rfl,rfl⟩
def GB:bP ["registry","p","day","parcel","shares","told","owner"] ["registry","p","day"] (bh<|aF 91):={}
def Rs(c:CL)(C:fX b c)(F:bK b "answer_whose" "answer_whose" (aF 91) f fd)(G:MG B)(h1:aU a w b B h "refused" 1 (aA b oo))(Z:aU a w b B h "is_there_on" 1 (aA b<|BO c))(h3:aU a w b B h "shares_on" 1 (aA b<|C1 c)):bB a w b B h bC 2 f fd ["registry","p","day"] (aA b<|IA c):=by
 refine pS F GB (λO d⟨R,o,t,e,_⟩=>by grind) λc' A J s H E O d T n⟨R,p,t,e,hR,ed⟩=>?_;subst e ed;have z:=GB.nd;have b':=fu;have X:(R.parcels.map (dH c)).length=R.parcels.length:=bS _;obtain⟨t4,c4⟩:=G.c4;obtain⟨t5,c5⟩:=G.c5;by_cases hp:p<R.parcels.length
 ·obtain⟨x,Y⟩:∃x,R.parcels[p]?=some x:=⟨_,d9 hp⟩
  have Q:=hR.get Y;have cl:=Q.cl;refine gR (kI (cW (cw (ab 1)<|eH (ck (ab 0) C.r C.r2 rfl) G.aX)<|mX<|by omega) jK) ?_;refine gR (c_ (i:=3) (dG (ck (ab 0) C.r C.r2 rfl) (ab 1)<|fM<|m4 c Y) z) ?_;cases L:l_ x t with
  |false=>
   have e:oC R p t=(-5,[]):=by unfold oC;grind
   rw[e];exact j9 (bb<|md (cW (m9<|dD<|aK Z n (ah (ab 3)<|ah (ab 2) au) ⟨x,t,rfl,rfl⟩)<|by grind)<|bb<|bj<|aK h1 n (ah (cS c5) au) ⟨-5,rfl,rfl⟩) ⟨rfl,rfl⟩
  |true=>
   obtain⟨l,v⟩:∃l,l=d7 x t:=⟨_,rfl⟩
   have ll:l.length<=2000:=by rw[v];exact Q.Yh t
   have e:oC R p t=(((l.length:Nat):Int),(gh l).flatMap (oD l)):=by unfold oC;grind
   rw[e];refine gR (kI (cW (m9<|dD<|aK Z n (ah (ab 3)<|ah (ab 2) au) ⟨x,t,rfl,rfl⟩)<|by grind) jK) ?_;refine gR (c_ (i:=4) (d:=dW l) (bU (aK h3 n (ah (ab 3)<|ah (ab 2) au) ⟨x,t,rfl,cl,Q.jV L,rfl⟩)<|by rw[v]) z) ?_;refine cZ (i4 (i:=5) (rT (ds:=[]) au) z) ?_;rintro M1 I ⟨d1,⟨q,hq,rfl,rfl⟩,rfl⟩;show cf _ _ _ [some<|c6 c R,some<|.int (p:Nat),some<|.int (t:Nat),some<|dH c x,some<|dW l,some<|.aD q,none] _;let g:Nat->List Dt:=λi=>(((gh l).take i).flatMap<|oD l).map .int;have y:∀i,(g i).length<=6000:=λi=>by
    show((((gh l).take i).flatMap<|oD l).map Dt.int).length<=_;rw[bS,xb];have:∀m:List Int,(m.map λo=>(oD l o).length).sum=3*m.length:=by
     intro m;induction m with
     |nil=>rfl
     |cons e m ih=>rw[dB,Ny,ih];show 3+_=3*(m.length+1);omega
    rw[this,rp,Gu];omega
   refine cZ (P1:=λu j=>u=bo T q (.ob<|.aq<|g (gh l).length)/\j=[some<|c6 c R,some<|.int (p:Nat),some<|.int (t:Nat),some<|dH c x,some<|dW l,some<|.aD q,none]) (MS.imp (uh (λi u j=>u=bo T q (.ob<|.aq<|g i)/\j=[some<|c6 c R,some<|.int (p:Nat),some<|.int (t:Nat),some<|dH c x,some<|dW l,some<|.aD q,none]) (λ_ _=>False)
    (fc<|Pa (S:=gh l) (ab 4) (λa' g1 g2=>OQ l (by rw[d_] at g1;exact g1) g2) G.sorted rfl) (cG (i:=6) z rfl<|cj rfl) (pO b 6) ⟨rfl,rfl⟩ ?_ jB rfl) ?_) ?_
   ·rintro i d N u j ⟨rfl,rfl⟩;rw[hZ] at N;cases k:(gh l)[i]? with
    |none=>grind
    |some o=>
     rw[k] at N;cases N;obtain⟨hi,M⟩:=gD.mp k;have hk:=Qq l<|dA k;have al:=y i;refine⟨_,rfl,?_⟩;refine cZ (j_<|BB (ab 5) (ab 6) bL<|by omega) ?_;rintro M5 D ⟨rfl,d5,rfl,rfl⟩;rw[fi];refine cZ (j_<|Gc (ab 5) (WI (d:=dF<|bG l o) (ab 4) (ab 6) (Tr l hk)<|pD n) bL<|by grind) ?_;rintro M5 D ⟨rfl,d5,rfl,rfl⟩;rw[fi];refine oy (P:=λu U=>u=bo T q (.ob<|.aq<|g<|i+1)/\U=.nx [some<|c6 c R,some<|.int (p:Nat),some<|.int (t:Nat),some<|dH c x,some<|dW l,some<|.aD q,some<|.int o]) (fj ⟨?_,rfl⟩) ?_
     ·congr 3;show g i++[Dt.int o]++[Dt.int (bG l o).num,Dt.int ((bG l o).den:Nat)]=(((gh l).take<|i+1).flatMap<|oD l).map .int;rw[nJ hi,MX,dw,M,MP,Aw];rfl
     ·rintro M6 U ⟨rfl,rfl⟩;exact⟨[some<|c6 c R,some<|.int (p:Nat),some<|.int (t:Nat),some<|dH c x,some<|dW l,some<|.aD q,none],⟨rfl,rfl,rfl,rfl,rfl,rfl,trivial⟩,rfl,rfl⟩
   ·grind
   ·rintro M1 I ⟨rfl,rfl⟩;have e:g (gh l).length=((gh l).flatMap (oD l)).map .int:=by grind
    rw[e];refine pc (i:=5) (p:=q) rfl bL ?_;rw[o_ hq];exact j9 (bb<|bj<|gd (ds:=[.int (l.length:Nat),.aq<|((gh l).flatMap<|oD l).map .int]) (ah (bU (Qd (ab 4) G.aX)<|by rw[bS])<|ah (ab 5) au) gW) ⟨rfl,rfl⟩
 ·have e:oC R p t=(-4,[]):=by unfold oC;grind
  rw[e];exact j9 (bb<|md (cW (cw (ab 1)<|eH (ck (ab 0) C.r C.r2 rfl) G.aX)<|kC<|by omega)<|bb<|bj<|aK h1 n (ah (cS c4) au) ⟨-4,rfl,rfl⟩) ⟨rfl,rfl⟩
end Pf
namespace Pf
open PySem PySem.Spec PyProof.Rows L2 L3
structure z6(mg:ak->Option af):Prop where
 n1:∃t,mg "OPENING"=some (.int 1 t)
 n2:∃t,mg "SPLITTING"=some (.int 2 t)
 n3:∃t,mg "JOINING"=some (.int 3 t)
 n4:∃t,mg "GIVING"=some (.int 4 t)
 n5:∃t,mg "UNDOING"=some (.int 5 t)
 n6:∃t,mg "ASKING_PARCEL"=some (.int 6 t)
 n7:∃t,mg "ASKING_AT"=some (.int 7 t)
 n8:∃t,mg "ASKING_THERE"=some (.int 8 t)
 n9:∃t,mg "ASKING_WHOSE"=some (.int 9 t)
 Ms:∃t,mg "ASKING_HOLDS"=some (.int 10 t)
 Mr:∃t,mg "ASKING_BESIDE"=some (.int 11 t)
def aQ(R:aZ)(n:Nat)(l:List Nat):An:=
 if n=6 then qB R (l.getD 0 0) else if n=7 then Ac R (((l.getD 0 0:Nat):Int),((l.getD 1 0:Nat):Int)) (l.getD 2 0) else if n=8 then Du R (l.getD 0 0) else if n=9 then oC R (l.getD 0 0) (l.getD 1 0) else
 if n=10 then zj R (l.getD 0 0) (l.getD 1 0) else if n=11 then qy R (l.getD 0 0) (l.getD 1 0) else zF R
def Mb(R:aZ)(n:Nat)(l:List Nat):Prop:=(n=6/\l.length=1)\/(n=7/\l.length=3/\l.getD 0 0<=4294967295/\l.getD 1 0<=4294967295)\/(n=8/\l.length=1)\/(n=9/\l.length=2)\/(n=10/\l.length=2/\wj R (l.getD 0 0) (l.getD 1 0))\/(n=11/\l.length=2)\/n=12
def F9(c:CL):List Dt->Dt->Prop:=λa d=>∃(R:aZ)(n:Nat)(l:List Nat),a=[c6 c R,.int (n:Nat),cQ l]/\kl R/\Mb R n l/\d=iP (aQ R n l)
def zk{l:List Nat}(h:i<l.length):e5 ((l.map λ(n:Nat)=>(n:Int)).map Dt.int) ((i:Nat):Int)=some (.int ((l.getD i 0:Nat):Int)):=by refine fM ?_;grind
def Ox:bP ["registry","number","numbers"] ["registry","number","numbers"] (bh<|aF 114):={}
def Oz(c:CL)(F:bK b "answer_question" "answer_question" (aF 114) f fd)(G:z6 k)(h1:aU a w b k g "answer_parcel" 3 (aA b<|Hf c))(h2:aU a w b k g "answer_at" 4 (aA b<|Ls c))(h3:aU a w b k g "answer_there" 3 (aA b<|Io c))(h4:aU a w b k g "answer_whose" 2 (aA b<|IA c))(Z:aU a w b k g "answer_holds" 4 (aA b<|HN c))(Y:aU a w b k g "answer_beside" 6 (aA b<|GG c))(U:aU a w b k g "answer_acts" 2 (aA b<|Jf c)):bB a w b k g bC 7 f fd ["registry","number","numbers"] (aA b<|F9 c):=by
 refine cN F Ox (λds d⟨R,n,l,e,_⟩=>by grind) λa' A B s H E ds d y⟨R,n,l,e,p,q,ed⟩=>?_;subst e ed;have v:=y.cb<|show 2<=6 by decide
 have u:=y.cb<|show 3<=6 by decide
 have t:=y.cb<|show 4<=6 by decide
 obtain⟨t6,g6⟩:=G.n6;obtain⟨t7,g7⟩:=G.n7;obtain⟨t8,g8⟩:=G.n8;obtain⟨t9,g9⟩:=G.n9;obtain⟨M,D⟩:=G.Ms;obtain⟨L,C⟩:=G.Mr;have r:∀m:Nat,decide (((n:Nat):Int)=((m:Nat):Int))=decide (n=m):=by grind
 have j:∀{X:Cx}{I:aG}{z J N:bf}{x:ak}{i S:Nat},DE X (.Name x J) I (cQ l)->i<l.length->DE X (.Subscript (.Name x J) (.Constant (.int (i:Nat)) S N) z) I (.int ((l.getD i 0:Nat):Int)):=λT h=>dG T a7<|zk h;refine eS (cW (cw (ab 1)<|cS g6)<|r 6) (λh=>?_) λh=>?_
 ·have h:=fB h;subst h;have o:l.length=1:=by rcases q with h|h|h|h|h|h|h<;>omega
  exact bb<|bj<|aK h1 u (ah (ab 0)<|ah (j (i:=0) (ab 2)<|by omega) au) ⟨R,_,rfl,p,rfl⟩
 have n6:=iC h;refine eS (cW (cw (ab 1)<|cS g7)<|r 7) (λh=>?_) λh=>?_
 ·have h:=fB h;subst h;have o:l.length=3/\l.getD 0 0<=4294967295/\l.getD 1 0<=4294967295:=by rcases q with h|h|h|h|h|h|h<;>first|omega|exact h.2
  exact bb<|bj<|aK h2 t (ah (ab 0)<|ah (j (i:=0) (ab 2)<|by omega)<|ah (j (i:=1) (ab 2)<|by omega)<|ah (j (i:=2) (ab 2)<|by omega) au) ⟨R,_,_,_,rfl,p,o.2.1,o.2.2,rfl⟩
 have n7:=iC h;refine eS (cW (cw (ab 1)<|cS g8)<|r 8) (λh=>?_) λh=>?_
 ·have h:=fB h;subst h;have o:l.length=1:=by rcases q with h|h|h|h|h|h|h<;>omega
  exact bb<|bj<|aK h3 u (ah (ab 0)<|ah (j (i:=0) (ab 2)<|by omega) au) ⟨R,_,rfl,p,rfl⟩
 have n8:=iC h;refine eS (cW (cw (ab 1)<|cS g9)<|r 9) (λh=>?_) λh=>?_
 ·have h:=fB h;subst h;have o:l.length=2:=by rcases q with h|h|h|h|h|h|h<;>omega
  exact bb<|bj<|aK h4 v (ah (ab 0)<|ah (j (i:=0) (ab 2)<|by omega)<|ah (j (i:=1) (ab 2)<|by omega) au) ⟨R,_,_,rfl,p,rfl⟩
 have n9:=iC h;refine eS (cW (cw (ab 1)<|cS D)<|r 10) (λh=>?_) λh=>?_
 ·have h:=fB h;subst h;have o:l.length=2/\wj R (l.getD 0 0) (l.getD 1 0):=by rcases q with h|h|h|h|h|h|h<;>first|omega|exact h.2
  exact bb<|bj<|aK Z t (ah (ab 0)<|ah (j (i:=0) (ab 2)<|by omega)<|ah (j (i:=1) (ab 2)<|by omega) au) ⟨R,_,_,rfl,p,o.2,rfl⟩
 have Q:=iC h;refine eS (cW (cw (ab 1)<|cS C)<|r 11) (λh=>?_) λh=>?_
 ·have h:=fB h;subst h;have o:l.length=2:=by rcases q with h|h|h|h|h|h|h<;>omega
  exact bb<|bj<|aK Y y (ah (ab 0)<|ah (j (i:=0) (ab 2)<|by omega)<|ah (j (i:=1) (ab 2)<|by omega) au) ⟨R,_,_,rfl,p,rfl⟩
 have O:=iC h;have e:aQ R n l=zF R:=by unfold aQ;grind
 rw[e];exact bb<|bj<|aK U v (ah (ab 0) au) ⟨R,rfl,rfl⟩
end Pf
namespace L3
open PySem PySem.Spec PyProof.Rows L2
def Sl(A:DE X k f (.int i))(z:DE X v f d):ME X (.Dict [some k] [v] u) M f λD r=>∃q,M q=none/\D=bo M q (.ob (.cE [(i,d)]))/\r=.aD q:=
 PE.aN (Uc (Tq A z UY) rfl rfl (λh=>by cases h)<|by grind) λE H Q⟨e,q⟩p c=>by
  have j:=hH (M:=M) (H:=H) (m:=.ob<|.cE []) (o:=.dK [])<|.inr c;have n:=e.mm.eO (p:=p) (m:=.ob<|.cE []) (.inr c)<|.cE .nil;have s:=e.cd.to n<|by rw[j];exact aW.refl _
  refine⟨aE<|bo M p<|.ob<|.cE [],s,λx I a C=>?_⟩;cases C;refine⟨aE<|bo M p<|.ob<|.cE [],s.same a,λy t b B=>?_⟩;have w:=n.same<|a.trans b;refine⟨b _ _<|a _ _ pf,[(.inl i,y)],rfl,by grind,?_⟩;have g:=hH (M:=bo M p<|.ob<|.cE []) (H:=t) (m:=.ob<|.cE [(i,d)]) (o:=.dK [(.inl i,y)])<|.inl<|gc bL;have l:=w.eO (p:=p) (m:=.ob<|.cE [(i,d)]) (.inl<|gc bL)<|.cE<|.cons B .nil;rw[fi] at l g;refine q _ _ _ _ ⟨p,pi e.mm c,rfl,rfl⟩ ?_ l<|.aD p;show aW _ (aI _<|bv t p<|.dK [(.inl i,y)]);rw[g,<-j];exact ca<|a.trans b
def ye(h:a≠b):bo (bo M a m) b n=bo (bo M b n) a m:=by funext x;unfold bo;grind
def tT(k:ME X e M c m)(p:∀M1 d,m M1 d->∃q C j,RE X o M1 c (.aD q)/\M1 q=some (.ob (.bA C j))/\ju X.K C/\fe X.K C f/\j.length<1000/\cf X a (bo M1 q (.ob (.bA C (ny f d j)))) c b)(l:jg e (some (.Attribute o f g)) i.line X.ae=pure false:=by rfl):cf X (.Assign [.Attribute o f g] e i::a) M c b:=by
 refine cZ (P1:=λn h=>h=c/\cf X a n c b) (Wi k (λM1 d r=>?_) l) ?_;·grind
 grind
def jL(k:RE X e M g d)(m:RE X o M g (.aD q))(s:M q=some (.ob<|.bA C j))(r:ju X.K C)(n:fe X.K C f)(p:j.length<1000)(t:ny f d j=fs')(h:cf X a (bo M q<|.ob<|.bA C fs') g b)(l:jg e (some<|.Attribute o f c) i.line X.ae=pure false:=by rfl):cf X (.Assign [.Attribute o f c] e i::a) M g b:=tT k (by grind) l
end L3
namespace Pf
open PySem PySem.Spec PyProof.Rows L2 L3
open Sy(Pt Ring)
def ki(st:cv)(i:Nat):cv:=match st with
 |.ClassDef _ _ _ a _ _ _ _ _ _ _=>a.getD i<|.Pass ⟨0,0,0,0⟩
 |_=>.Pass ⟨0,0,0,0⟩
def y_(c:CL)(M:Mh)(e:List Dt)(Q:Mh->Dt->Prop):Prop:=∃(q:aa)(ring:List Pt)(t:Nat)(a:List Nat)(d:cz),e=[.aD q,dR ring,.int (t:Nat),cQ a,dW d]/\M q=some (.ob (.bA c.cP []))/\
 ∀b,M b=none->Q (bo (bo M b (.ob (.aq [iT (t,d)]))) q (.ob (.bA c.cP (oH ⟨ring,t,none,a,[]⟩ (.aD b))))) .aS
def zm(c:CL)(M:Mh)(a:List Dt)(Q:Mh->Dt->Prop):Prop:=∃(q:aa)(x:kQ),a=[.aD q,.int (x.day:Nat),cQ x.ended,.int (x.jR:Nat),cQ x.eM]/\M q=some (.ob (.bA c.cA []))/\Q (bo M q (.ob (hW c x))) .aS
def T8:bP ["self","ring","since","came","shares"] ["self","ring","since","came","shares"] (bh<|ki (aF 24) 0):={}
def U4(c:CL)(C:fX b c)(F:bK b "__init__" "Parcel.__init__" (ki (aF 24) 0) f v):bB a w b y n bC 1 f v ["self","ring","since","came","shares"] (dS b<|y_ c):=by
 refine kL F T8 (λM k Q⟨q,r,t,D,i,e,_⟩=>by rw[e];rfl) λx A j s H E M k Q B⟨q,ring,t,m,i,e,u,o⟩=>?_;subst e;refine jL (bE<|ab 1) (bE<|ab 0) u C.p C.p1 (by decide) rfl ?_;refine jL (bE<|ab 2) (bE<|ab 0) bL C.p C.p2 (by show 1<1000;decide) rfl ?_;rw[fi];refine jL (bE r4) (bE<|ab 0) bL C.p C.p3 (by show 2<1000;decide) rfl ?_;rw[fi];refine jL (bE<|ab 3) (bE<|ab 0) bL C.p C.p4 (by show 3<1000;decide) rfl ?_;rw[fi];refine tT (rT (ds:=[iT (t,i)]) (ah (gd (ds:=[.int (t:Nat),dW i]) (ah (ab 2)<|ah (ab 4) au) gW) au)<|by show 1<=bx;decide) ?_;rintro M1 d ⟨l,g,rfl,rfl⟩;have h:l≠q:=λz=>by rw[z,bL] at g;cases g
 rw[ba h] at g;refine⟨q,c.cP,_,bE<|ab 0,by rw[ba<|ci h];exact bL,C.p,C.p5,by show 4<1000;decide,?_⟩;rw[ye<|ci h,fi];exact fj<|o l g
def U5:bP ["self","day","ended","made","given"] ["self","day","ended","made","given"] (bh<|ki (aF 25) 0):={}
def Ud(c:CL)(C:fX d c)(F:bK d "__init__" "Act.__init__" (ki (aF 25) 0) f k):bB b w d n h bC 1 f k ["self","day","ended","made","given"] (dS d<|zm c):=by refine kL F U5 (λM l Q⟨q,x,e,_⟩=>by grind) λm A g s H E M l Q o⟨q,x,e,j,i⟩=>?_;subst e;refine jL (bE<|ab 1) (bE<|ab 0) j C.a C.a1 (by decide) rfl ?_;refine jL (bE<|ab 2) (bE<|ab 0) bL C.a C.a2 (by show 1<1000;decide) rfl ?_;rw[fi];refine jL (bE<|ab 3) (bE<|ab 0) bL C.a C.a3 (by show 2<1000;decide) rfl ?_;rw[fi];refine jL (bE<|ab 4) (bE<|ab 0) bL C.a C.a4 (by show 3<1000;decide) rfl ?_;rw[fi];exact fj i
end Pf
namespace Pf
open PySem PySem.Spec PyProof.Rows L2 L3
structure jd where
 pl:aa
 al:aa
 as:List aa
 dU:List aa
def fC(r:aa)(L:jd):List aa:=r::L.pl::L.al::(L.as++L.dU)
structure fY(r:aa)(L:jd):Prop where
 e1:r≠L.pl
 e2:r≠L.al
 e3:L.pl≠L.al
 a1:r∉L.as
 a2:L.pl∉L.as
 a3:L.al∉L.as
 c1:r∉L.dU
 c2:L.pl∉L.dU
 c3:L.al∉L.dU
 na:L.as.Nodup
 nc:L.dU.Nodup
 ac:∀a∈L.as,a∉L.dU
def wJ(R:aZ)(L:jd):List (ak×Dt):=[("opened",.int (R.lj:Nat)),("parcels",.aD L.pl),("acts",.aD L.al)]
structure b7(c:CL)(M0 M:Mh)(r:aa)(R:aZ)(L:jd):Prop where
 bJ:fY r L
 out:∀b,b∉fC r L->M b=M0 b
 fr:∀b∈fC r L,M0 b=none
 ff:M r=some (.ob<|.bA c.cR<|wJ R L)
 gC:M L.pl=some (.ob<|.aq<|L.as.map .aD)
 js:M L.al=some (.ob<|.aq<|R.acts.map<|hW c)
 la:L.as.length=R.parcels.length
 lc:L.dU.length=R.parcels.length
 ay:∀(i:Nat)(a ch:aa)(x:cg),L.as[i]?=some a->L.dU[i]?=some ch->R.parcels[i]?=some x->M a=some (.ob (.bA c.cP (oH x (.aD ch))))/\M ch=some (.ob (.aq (x.bd.map iT)))
def gX{l:List aa}(h:a∈l)(k:b∉l):a≠b:=λz=>k<|z▸h
def sH{l:List aa}(k:a∉l)(h:b∈l):a≠b:=λz=>k<|z▸h
def b7.at(h:b7 c f M r R L){i:Nat}(d:R.parcels[i]?=some x):∃a e,L.as[i]?=some a/\L.dU[i]?=some e:=by have b:=(gD.mp d).1;exact⟨_,_,d9 (by rw[h.la];exact b),d9<|by rw[h.lc];exact b⟩
def cx:b∈fC r L↔b=r\/b=L.pl\/b=L.al\/b∈L.as\/b∈L.dU:=by unfold fC;grind
def b7.Hi(h:b7 c o M r R L)(g:b∈fC r L):(∃l,M b=some (.ob (.aq l)))\/∃C f,M b=some (.ob (.bA C f)):=by
 rcases cx.mp g with rfl|rfl|rfl|g|g;·exact .inr ⟨_,_,h.ff⟩
 ·exact .inl ⟨_,h.gC⟩
 ·exact .inl ⟨_,h.js⟩
 ·obtain⟨i,d⟩:=sW g;have m:=(gD.mp d).1;obtain⟨x,e⟩:∃x,R.parcels[i]?=some x:=⟨_,d9<|by rw[<-h.la];exact m⟩
  obtain⟨a,n,k,j⟩:=h.at e;rw[d] at k;cases k;exact .inr ⟨_,_,(h.ay i _ n x d j e).1⟩
 ·obtain⟨i,d⟩:=sW g;have m:=(gD.mp d).1;obtain⟨x,e⟩:∃x,R.parcels[i]?=some x:=⟨_,d9<|by rw[<-h.lc];exact m⟩
  obtain⟨a,n,k,j⟩:=h.at e;rw[d] at j;cases j;exact .inl ⟨_,(h.ay i a _ x k d e).2⟩
def b7.ft(h:b7 c g M r R L):∀b m,M b=some m->g b=none->(∃l,m=.ob (.aq l))\/∃C f,m=.ob (.bA C f):=λb m a d=>by
 by_cases q:b∈fC r L
 ·rcases h.Hi q with⟨l,e⟩|⟨C,f,e⟩;·grind
  grind
 ·rw[h.out b q,d] at a;cases a
def b7.new(h:b7 c d M r R L)(a:M b=none):b∉fC r L/\d b=none:=by
 have q:b∉fC r L:=λq=>by
  rcases h.Hi q with⟨l,e⟩|⟨C,f,e⟩;·grind
  grind
 exact⟨q,by rw[<-h.out b q];exact a⟩
def b7.le(h:b7 c d M r R L)(a:aE d b=true):aE M b=true:=by
 by_cases q:b∈fC r L
 ·have:=h.fr b q;unfold aE at a;grind
 ·unfold aE;rw[h.out b q];exact a
def Bu{b:Type}{l:List b}(h:l.Nodup){i:Nat}{a:b}(d:l[i]?=some a)(c:l[j]?=some a):i=j:=by obtain⟨k,f⟩:=gD.mp d;obtain⟨g,e⟩:=gD.mp c;exact(Nn h).mp<|f.trans e.symm
def b7.CJ{c:CL}{j:Mh}{M:Mh}{r:aa}{R:aZ}{L:jd}(h:b7 c j M r R L)(l:List kQ):b7 c j (bo M L.al<|.ob<|.aq<|l.map<|hW c) r { R with acts:=l} L where
 bJ:=h.bJ
 out:=λb d=>by rw[ba λz=>d<|cx.mpr<|.inr<|.inr<|.inl z];exact h.out b d
 fr:=h.fr
 ff:=by rw[ba h.bJ.e2];exact h.ff
 gC:=by rw[ba h.bJ.e3];exact h.gC
 js:=bL
 la:=h.la
 lc:=h.lc
 ay:=λi a m x f e k=>by rw[ba<|gX (dA f) h.bJ.a3,ba<|gX (dA e) h.bJ.c3];exact h.ay i a m x f e k
def b7.J3{c:CL}{p:Mh}{M:Mh}{r:aa}{R:aZ}{L:jd}(h:b7 c p M r R L){i:Nat}{a l:aa}{x x':cg}(d:L.as[i]?=some a)(n:L.dU[i]?=some l)(v:R.parcels[i]?=some x)(u:x'.bd=x.bd):b7 c p (bo M a<|.ob<|.bA c.cP<|oH x'<|.aD l) r { R with parcels:=R.parcels.set i x'} L where
 bJ:=h.bJ
 out:=λb m=>by rw[ba λz=>m<|cx.mpr<|by grind];exact h.out b m
 fr:=h.fr
 ff:=by rw[ba<|sH h.bJ.a1<|dA d];exact h.ff
 gC:=by rw[ba<|sH h.bJ.a2<|dA d];exact h.gC
 js:=by rw[ba<|sH h.bJ.a3<|dA d];exact h.js
 la:=by rw[oV];exact h.la
 lc:=by rw[oV];exact h.lc
 ay:=λj b o y k g e=>by
  have s:o≠a:=gX (dA g)<|h.bJ.ac a<|dA d;rw[ba s];have e:(R.parcels.set i x')[j]?=some y:=e;rw[p7] at e;by_cases q:i=j
  ·subst q;rw[d] at k;rw[n] at g;cases k;cases g;rw[aM rfl,aM<|by grind] at e;cases e;exact⟨bL,by rw[u];exact(h.ay i a l x d n v).2⟩
  ·rw[aL q] at e;have t:b≠a:=λz=>q<|Bu h.bJ.na d<|by grind
   rw[ba t];exact h.ay j b o y k g e
def b7.Lr{c:CL}{t:Mh}{M:Mh}{r:aa}{R:aZ}{L:jd}(h:b7 c t M r R L){i:Nat}{a k:aa}{x:cg}(l:List (Nat×cz))(p:L.as[i]?=some a)(e:L.dU[i]?=some k)(w:R.parcels[i]?=some x):b7 c t (bo M k<|.ob<|.aq<|l.map iT) r { R with parcels:=R.parcels.set i { x with bd:=l}} L where
 bJ:=h.bJ
 out:=λb o=>by rw[ba λz=>o<|cx.mpr<|by grind];exact h.out b o
 fr:=h.fr
 ff:=by rw[ba<|sH h.bJ.c1<|dA e];exact h.ff
 gC:=by rw[ba<|sH h.bJ.c2<|dA e];exact h.gC
 js:=by rw[ba<|sH h.bJ.c3<|dA e];exact h.js
 la:=by rw[oV];exact h.la
 lc:=by rw[oV];exact h.lc
 ay:=λj b s y m n f=>by
  have u:b≠k:=sH (h.bJ.ac b<|dA m)<|dA e;rw[ba u];have f:(R.parcels.set i { x with bd:=l})[j]?=some y:=f;rw[p7] at f;by_cases q:i=j
  ·subst q;rw[p] at m;rw[e] at n;cases m;cases n;rw[aM rfl,aM<|by grind] at f;cases f;exact⟨(h.ay i a k x p e w).1,bL⟩
  ·rw[aL q] at f;have v:s≠k:=λz=>q<|Bu h.bJ.nc e<|by grind
   rw[ba v];exact h.ay j b s y m n f
def b7.more(h:b7 c Z M r R L)(O:M a=none)(N:M f=none)(J:f≠a):b7 c Z (bo (bo (bo M f<|.ob<|.aq<|x.bd.map iT) a<|.ob<|.bA c.cP<|oH x<|.aD f) L.pl<|.ob<|.aq<|(L.as++[a]).map .aD) r { R with parcels:=R.parcels++[x]} { L with as:=L.as++[a],dU:=L.dU++[f]}:=by
 obtain⟨q,za⟩:=h.new O;obtain⟨p,zc⟩:=h.new N;have S:a≠r/\a≠L.pl/\a≠L.al/\a∉L.as/\a∉L.dU:=⟨λz=>q<|cx.mpr<|.inl z,λz=>q<|cx.mpr<|.inr<|.inl z,λz=>q<|cx.mpr<|.inr<|.inr<|.inl z,λz=>q<|cx.mpr<|.inr<|.inr<|.inr<|.inl z,λz=>q<|cx.mpr<|.inr<|.inr<|.inr<|.inr z⟩
 have Q:f≠r/\f≠L.pl/\f≠L.al/\f∉L.as/\f∉L.dU:=⟨λz=>p<|cx.mpr<|.inl z,λz=>p<|cx.mpr<|.inr<|.inl z,λz=>p<|cx.mpr<|.inr<|.inr<|.inl z,λz=>p<|cx.mpr<|.inr<|.inr<|.inr<|.inl z,λz=>p<|cx.mpr<|.inr<|.inr<|.inr<|.inr z⟩
 obtain⟨I,H,E,Y,X⟩:=S;obtain⟨D,C,B,A,U⟩:=Q;have j:∀{b:aa}{l:List aa}{y:aa},b∉l->b≠y->b∉l++[y]:=by grind
 refine⟨⟨h.bJ.e1,h.bJ.e2,h.bJ.e3,j h.bJ.a1<|ci I,j h.bJ.a2<|ci H,j h.bJ.a3<|ci E,j h.bJ.c1<|ci D,j h.bJ.c2<|ci C,j h.bJ.c3<|ci B,?_,?_,?_⟩,?_,?_,?_,?_,?_,?_,?_,?_⟩
 ·rw[s_];exact⟨h.bJ.na,by simp,(by grind)⟩
 ·rw[s_];exact⟨h.bJ.nc,by simp,(by grind)⟩
 ·intro b d;rcases eI.mp d with d|d;·exact j (h.bJ.ac b d)<|gX d A
  grind
 ·intro b d;have g:b∉fC r L/\b≠a/\b≠f:=by
   refine⟨λz=>d<|cx.mpr ?_,λz=>d (cx.mpr<|by grind),λz=>d<|cx.mpr<|by grind⟩;rcases cx.mp z with z|z|z|z|z;·grind
   ·grind
   ·grind
   ·grind
   grind
  rw[ba λz=>g.1<|cx.mpr<|.inr<|.inl z,ba g.2.1,ba g.2.2];exact h.out b g.1
 ·intro b d;rcases cx.mp d with z|z|z|z|z;·exact h.fr b<|cx.mpr<|.inl z
  ·exact h.fr b<|cx.mpr<|.inr<|.inl z
  ·exact h.fr b<|cx.mpr<|.inr<|.inr<|.inl z
  ·rcases eI.mp z with z|z;·exact h.fr b<|cx.mpr<|.inr<|.inr<|.inr<|.inl z
   grind
  ·rcases eI.mp z with z|z;·exact h.fr b<|cx.mpr<|.inr<|.inr<|.inr<|.inr z
   grind
 ·rw[ba h.bJ.e1,ba<|ci I,ba<|ci D];exact h.ff
 ·exact bL
 ·rw[ba<|ci h.bJ.e3,ba<|ci E,ba<|ci B];exact h.js
 ·rw[jY,jY,h.la];rfl
 ·rw[jY,jY,h.lc];rfl
 ·intro i b w y n m k;have n:(L.as++[a])[i]?=some b:=n;have m:(L.dU++[f])[i]?=some w:=m;have k:(R.parcels++[x])[i]?=some y:=k;by_cases v:i<R.parcels.length
  ·rw[En<|by rw[h.la];exact v] at n;rw[En<|by rw[h.lc];exact v] at m;rw[En v] at k;have t:=dA n;have s:=dA m;rw[ba<|gX t h.bJ.a2,ba<|gX t Y,ba<|gX t A,ba<|gX s h.bJ.c2,ba<|gX s X,ba<|gX s U];exact h.ay i b w y n m k
  ·have u:=(gD.mp k).1;rw[jY] at u;have u:i<R.parcels.length+1:=u;have e:i=R.parcels.length:=by omega
   rw[Em (by rw[h.la];omega),h.la,e,NL] at n;rw[Em (by rw[h.lc];omega),h.lc,e,NL] at m;rw[Em (by omega),e,NL] at k;cases n;cases m;cases k;exact⟨by rw[ba H,bL],by rw[ba C,ba J,bL]⟩
end Pf
namespace L3
open PySem PySem.Spec PyProof.Rows L2
def lC(M:Mh)(l:List aa):Mh:=λb=>if b∈l then none else M b
def PN:lC (lH M q) l=lC M (q::l):=by funext b;unfold lC lH;grind
def BX:∀(l:List aa){M:Mh},cf X a (lC M l) c b->cf X a M c b
 |[],M,h=>by
  have:lC M []=M:=by rfl
  grind
 |q::l,M,h=>UO q<|BX l<|by rw[PN];exact h
def jw(Q:Dt->Dt->Prop):aG->aG->Prop
 |[],[]=>True
 |_::a,none::b=>jw Q a b
 |some d::a,some c::b=>Q d c/\jw Q a b
 |_,_=>False
def jw.aX:∀{a b:aG},jw Q a b->a.length=b.length
 |[],[],_=>rfl
 |none::a,none::b,h=>by have h:jw Q a b:=h;rw[dI,dI,jw.aX h]
 |some _::a,none::b,h=>by have h:jw Q a b:=h;rw[dI,dI,jw.aX h]
 |some d::a,some c::b,h=>by rw[dI,dI,jw.aX h.2]
def jw.get:∀{a b:aG},jw Q a b->∀(i:Nat)(c:Dt),b[i]?=some (some c)->∃d,a[i]?=some (some d)/\Q d c
 |[],[],_,i,c,e=>by simp at e
 |none::a,none::b,h,0,c,e=>by simp at e
 |none::a,none::b,h,i+1,c,e=>by
  have h:jw Q a b:=h;have:=jw.get h i c<|by grind
  grind
 |some _::a,none::b,h,0,c,e=>by simp at e
 |some _::a,none::b,h,i+1,c,e=>by
  have h:jw Q a b:=h;have:=jw.get h i c<|by grind
  grind
 |some d::a,some f::b,h,0,c,e=>by simp at e;subst e;exact⟨d,rfl,h.1⟩
 |some d::a,some f::b,h,i+1,c,e=>by
  have:=jw.get h.2 i c<|by grind
  grind
end L3
namespace Pf
open PySem PySem.Spec PyProof.Rows L2 L3
def b7.cut(h:b7 c N M r R L)(S:M f=none)(n:Nat):b7 c N (lC (bo (bo M f<|.ob<|.aq<|(L.as.take n).map .aD) r<|.ob<|.bA c.cR<|wJ R { L with pl:=f})<|L.pl::(L.as.drop n++L.dU.drop n)) r { R with parcels:=R.parcels.take n} { pl:=f,al:=L.al,as:=L.as.take n,dU:=L.dU.take n}:=by
 obtain⟨v,zp⟩:=h.new S;have Y:f≠r/\f≠L.pl/\f≠L.al/\f∉L.as/\f∉L.dU:=⟨λz=>v<|cx.mpr<|.inl z,λz=>v<|cx.mpr<|.inr<|.inl z,λz=>v<|cx.mpr<|.inr<|.inr<|.inl z,λz=>v<|cx.mpr<|.inr<|.inr<|.inr<|.inl z,λz=>v<|cx.mpr<|.inr<|.inr<|.inr<|.inr z⟩
 obtain⟨J,Q,I,D,C⟩:=Y;have l:∀{b:aa},b∈L.as.take n->b∈L.as:=MR;have k:∀{b:aa},b∈L.dU.take n->b∈L.dU:=MR;have B:∀{b:aa},b∈L.as.drop n->b∈L.as:=MT;have A:∀{b:aa},b∈L.dU.drop n->b∈L.dU:=MT;have d:∀{b:aa},b≠L.pl->b∉L.as.drop n->b∉L.dU.drop n->∀H:Mh,lC H (L.pl::(L.as.drop n++L.dU.drop n)) b=H b:=λh1 h2 h3 H=>by unfold lC;grind
 have y:∀{b:aa},b∈L.as.take n->b∉L.as.drop n:=λj U=>by have:=h.bJ.na;rw[<-uS n L.as,s_] at this;grind
 have w:∀{b:aa},b∈L.dU.take n->b∉L.dU.drop n:=λj U=>by have:=h.bJ.nc;rw[<-uS n L.dU,s_] at this;grind
 refine⟨⟨ci J,h.bJ.e2,I,λz=>h.bJ.a1<|l z,λz=>D<|l z,λz=>h.bJ.a3<|l z,λz=>h.bJ.c1<|k z,λz=>C<|k z,λz=>h.bJ.c3<|k z,h.bJ.na.sublist<|Nb _ _,h.bJ.nc.sublist<|Nb _ _,λa X z=>h.bJ.ac a (l X)<|k z⟩,?_,?_,?_,?_,?_,?_,?_,?_⟩
 ·intro b j;have g:b≠r/\b≠f/\b≠L.al/\b∉L.as.take n/\b∉L.dU.take n:=⟨λz=>j<|cx.mpr<|.inl z,λz=>j<|cx.mpr<|.inr<|.inl z,λz=>j<|cx.mpr<|.inr<|.inr<|.inl z,λz=>j<|cx.mpr<|.inr<|.inr<|.inr<|.inl z,λz=>j<|cx.mpr<|.inr<|.inr<|.inr<|.inr z⟩
  obtain⟨o,m,u,g4,g5⟩:=g;by_cases q:b∈L.pl::(L.as.drop n++L.dU.drop n)
  ·have e:N b=none:=by refine h.fr b<|cx.mpr ?_;grind
   unfold lC;grind
  ·unfold lC;rw[aL q,ba o,ba m];refine h.out b λz=>?_;rcases cx.mp z with z|z|z|z|z;·grind
   ·grind
   ·grind
   ·rw[<-uS n L.as] at z;grind
   ·rw[<-uS n L.dU] at z;grind
 ·intro b j;rcases cx.mp j with z|z|z|z|z;·exact h.fr b<|cx.mpr<|.inl z
  ·grind
  ·exact h.fr b<|cx.mpr<|.inr<|.inr<|.inl z
  ·exact h.fr b<|cx.mpr<|by grind
  ·exact h.fr b<|cx.mpr<|by grind
 ·rw[d h.bJ.e1 (λz=>h.bJ.a1<|B z) λz=>h.bJ.c1<|A z,bL];rfl
 ·rw[d Q (λz=>D<|B z) λz=>C<|A z,ba J,bL]
 ·rw[d (ci h.bJ.e3) (λz=>h.bJ.a3<|B z) λz=>h.bJ.c3<|A z,ba<|ci h.bJ.e2,ba<|ci I];exact h.js
 ·rw[rp,rp,h.la]
 ·rw[rp,rp,h.lc]
 ·intro i a E x o m u;have o:(L.as.take n)[i]?=some a:=o;have m:(L.dU.take n)[i]?=some E:=m;have u:(R.parcels.take n)[i]?=some x:=u;have t:=dA o;have s:=dA m;have T:i<n:=by grind
  rw[aaC T] at o m u;have q:=h.ay i a E x o m u;rw[d (gX (l t) h.bJ.a2) (y t) λz=>h.bJ.ac a (l t)<|A z,d (gX (k s) h.bJ.c2) (λz=>h.bJ.ac E (B z)<|k s)<|w s,ba<|gX (l t) h.bJ.a1,ba<|gX (l t) D,ba<|gX (k s) h.bJ.c1,ba<|gX (k s) C];exact q
def b7.up(h:b7 c a M r R L):aW (aI (aE M) H) (aI (aE a) H):=λb o e=>by
 unfold aI at e ⊢;by_cases q:aE M b=true;·grind
 ·rw[aL q] at e;rw[aL λz=>q<|h.le z];exact e
def b7.sy(h:b7 c d M r R L)(a:b∈fC r L):aI (aE d) H b=H b:=by unfold aI aE;rw[h.fr b a];rfl
def Jq:∀{c:List aa}{d:List V},bu b H d (c.map .aD)->d=c.map V.ref
 |[],_,.nil=>rfl
 |a::c,_,.cons h t=>by cases h;rw[Jq t];rfl
def b7.dH(h:b7 c B M r R L)(m:Mm b M H){i:Nat}(f:L.as[i]?=some a)(e:R.parcels[i]?=some x):Dx b (aI (aE B) H) (.ref a) (dH c x):=by
 obtain⟨E,k,g,q⟩:=h.at e;rw[f] at g;cases g;obtain⟨t,s⟩:=h.ay i a k x f q e;obtain⟨j,D,p,d⟩:=vO m t;obtain⟨C,o,u⟩:=iE m s;have n:a∈fC r L:=cx.mpr<|by grind
 have l:k∈fC r L:=cx.mpr<|by grind
 have d:=d.same h.up;cases d with
 |cons A d=>
 cases d with
 |cons z d=>
 cases d with
 |cons y d=>
 cases d with
 |cons w d=>
 cases d with
 |cons v d=>
 cases d;cases v;refine .bA (dx:=j) (by rw[h.sy n];exact p)<|.cons A<|.cons z<|.cons y<|.cons w<|.cons (.aq ?_<|u.same h.up) .nil;rw[h.sy l];exact o
def b7.c6(h:b7 c C M r R L)(m:Mm b M H):Dx b (aI (aE C) H) (.ref r) (c6 c R):=by
 obtain⟨l,E,u,e⟩:=vO m h.ff;obtain⟨n,t,y⟩:=iE m h.gC;obtain⟨D,s,w⟩:=iE m h.js;have o:r∈fC r L:=cx.mpr<|.inl rfl;have p:L.pl∈fC r L:=cx.mpr<|.inr<|.inl rfl;have q:L.al∈fC r L:=cx.mpr<|.inr<|.inr<|.inl rfl;have e:=e.same h.up;cases e with
 |cons B e=>
 cases e with
 |cons A e=>
 cases e with
 |cons z e=>
 cases e;cases A;cases z;refine .bA (dx:=l) (by rw[h.sy o];exact u)<|.cons B<|.cons (.aq (xs:=L.as.map V.ref) ?_ ?_)<|.cons (.aq ?_<|w.same h.up) .nil;·rw[h.sy p,t,Jq y]
 ·refine y4 (by rw[bS,bS,h.la]) λi v d g f=>?_;rw[hZ] at g f;cases k:L.as[i]? with
  |none=>grind
  |some a=>
   cases j:R.parcels[i]? with
   |none=>grind
   |some x=>rw[k] at g;rw[j] at f;cases g;cases f;exact h.dH m k j
 ·rw[h.sy q];exact s
def Vq(c:CL)(r:aa)(R:aZ)(L:jd)(d b:Dt):Prop:=d=b\/(d=.aD r/\b=Pf.c6 c R)\/∃(i:Nat)(a:aa)(x:cg),L.as[i]?=some a/\R.parcels[i]?=some x/\d=.aD a/\b=Pf.dH c x
def b7.vw{c:CL}{k:Mh}{M:Mh}{r:aa}{R:aZ}{L:jd}{K:ax}(h:b7 c k M r R L){ρ ρ':aG}(q:jw (Vq c r R L) ρ ρ'):Vw K M k ρ ρ' where
 ft:=h.ft
 cd:=λH u f=>by
  refine⟨λb l=>f.cd.tr b<|h.le l,f.cd.aX.trans q.aX,λi t e=>?_⟩;obtain⟨d,s,p⟩:=q.get i t e;obtain⟨v,o,g⟩:=f.cd.kO i d s;refine⟨v,o,?_⟩;rcases p with rfl|⟨rfl,rfl⟩|⟨j,a,x,n,m,rfl,rfl⟩;·exact g.same h.up
  ·cases g;exact h.c6 f.mm
  ·cases g;exact h.dH f.mm n m
end Pf
namespace L3
open PySem PySem.Spec PyProof.Rows L2
def Vp(j:DE X a c (.a9 l))(g:X.mg "len"=none)(i:Gl X "len":=by rfl)(b:aB [a] X.ae=(false,aO a X.ae)::aB [] X.ae:=by rfl):DE X (.Call (.Name "len" p) [a] [] d) c (.int l.length):=
 jI xJ (ah j au b) (λF n H Q o h k=>by
  obtain⟨v,rfl,e⟩:=hE h;cases e with
  |a9 f m=>exact⟨_,_,rfl,.inr<|et bm f,by rw[m.length];exact k _ H (aW.refl H)<|.int _⟩) g (by rfl) i (by decide) (by decide) b rfl
def WO(h:DE X a d c)(b:c=.a9 l\/c=.aq l):DI X e a d l:=by
 rcases b with rfl|rfl;·exact C2 h
 ·exact fc h
def Uy(g:DE X a h c)(b:c=.a9 l\/c=.aq l)(d:X.mg "len"=none)(e:Gl X "len":=by rfl)(f:aB [a] X.ae=(false,aO a X.ae)::aB [] X.ae:=by rfl):DE X (.Call (.Name "len" p) [a] [] i) h (.int l.length):=by
 rcases b with rfl|rfl;·exact Vp g d e f
 ·exact eH g d e f
def yL(J:Nat->Mh->aG->Prop)(y:DI X q e p r)(z:PG X q g)(n:oN X.K g B)(E:J 0 M p)(D:∀i d,r[i]?=some d->∀k c,J i k c->∃f,B d c=some f/\cf X j k f λM2 o=>match o with|.nx l=>J (i+1) M2 l|.rt d=>False)(v:∀k c,J r.length k c->cf X a k c b)(u:o5 (aH X.prog X.w) X.A X.ae X.xe)(C:X.cX=true)(t:∀x,kU e X.ae x=pure x:=by intro _;rfl):cf X (.For q e j [] s::a) M p b:=qu (uh J (λ_ _=>False) y z n E D u C t) (λM1 m h=>v M1 m h) (λM1 d h=>h.elim)
end L3
namespace Pf
open PySem PySem.Spec PyProof.Rows L2 L3
open Sy(Pt Ring)
def gP(t:Option Nat)(b:List cg)(p:Nat):List cg:=b.modify p λx=>{ x with bX:=t}
def jP(t:Nat)(a:List Nat)(b:cz)(g:List Pt):cg:=⟨g,t,none,a,[(t,b)]⟩
def f_(R:aZ)(a:List Nat)(e:cz)(b:List (List Pt))(t:Nat):aZ:={ R with parcels:=a.foldl (gP<|some t) R.parcels++b.map (jP t a e),acts:=R.acts++[⟨t,a,b.length,[]⟩]}
def BA(c:CL)(M:Mh)(i:List Dt)(Q:Mh->Dt->Prop):Prop:=∃(g:Mh)(r:aa)(R:aZ)(L:jd)(b:List Nat)(a:List (List Pt))(t:Nat)(e:Dt)(f:Nat)(d:cg),i=[.aD r,cQ b,e,.int (t:Nat)]/\(e=.a9 (a.map dR)\/e=.aq (a.map dR))/\b7 c g M r R L/\
 b[0]?=some f/\R.parcels[f]?=some d/\d.bd≠[]/\(∀p∈b,p<R.parcels.length)/\R.parcels.length+a.length<=1000/\R.acts.length<=1000/\∀h j,b7 c g h r (f_ R b (bW d) a t) j->Q h (.int (R.parcels.length:Nat))
def II(c:CL)(M:Mh)(h:List Dt)(Q:Mh->Dt->Prop):Prop:=∃(f:Mh)(r:aa)(R:aZ)(L:jd)(p:Nat)(x:cg)(d:cz)(t:Nat),h=[.aD r,.int (p:Nat),dW d,.int (t:Nat)]/\b7 c f M r R L/\R.parcels[p]?=some x/\x.bd.length<=1000/\R.acts.length<=1000/\
 ∀g i,b7 c f g r { R with parcels:=R.parcels.set p { x with bd:=x.bd++[(t,d)]},acts:=R.acts++[⟨t,[],0,[p]⟩]} i->Q g .aS
def xR{a:List cg}(h:a[p]?=some x):a.modify p f=a.set p (f x):=by apply ro;grind
def yg(t:Option Nat):∀(l:List Nat)(a:List cg),(l.foldl (gP t) a).length=a.length
 |[],a=>rfl
 |p::l,a=>by rw[kv,yg t l];exact List.length_modify _ _ _
def Kh(c:CL)(h:lG X.prog X.w X.K X.mg X.ai "Parcel" c.cP 1 (dS X.K<|y_ c))(m:dn 2 X.A)(s:RA X (e::i) M l [dR ring,.int (t:Nat),cQ eW,dW sh])(o:Gl X "Parcel":=by rfl)(r:aB (e::i) X.ae=(false,aO e X.ae)::aB i X.ae:=by rfl)(k:(eK j<|aB i X.ae).any (·.1)=false:=by rfl):
 ME X (.Call (.Name "Parcel" p) (e::i) [] j) M l λM1 d=>∃a f,M a=none/\M f=none/\f≠a/\M1=bo (bo M f (.ob (.aq ((jP t eW sh ring).bd.map iT)))) a (.ob (.bA c.cP (oH (jP t eW sh ring) (.aD f))))/\d=.aD a:=by
 refine yN h m s (λq n=>⟨q,ring,t,eW,sh,rfl,bL,λf b=>⟨rfl,q,f,n,?_,?_,?_,rfl⟩⟩) o (by decide) r k
 ·have g:f≠q:=λz=>by rw[z,bL] at b;cases b
  rw[ba g] at b;exact b
 ·exact λz=>by rw[z,bL] at b;cases b
 ·have g:f≠q:=λz=>by rw[z,bL] at b;cases b
  rw[ye<|ci g,fi];rfl
def La(c:CL)(h:lG X.prog X.w X.K X.mg X.ai "Act" c.cA 1 (dS X.K<|zm c))(g:dn 2 X.A)(l:RA X (e::a) M f [.int (x.day:Nat),cQ x.ended,.int (x.jR:Nat),cQ x.eM])(j:Gl X "Act":=by rfl)(k:aB (e::a) X.ae=(false,aO e X.ae)::aB a X.ae:=by rfl)(d:(eK b<|aB a X.ae).any (·.1)=false:=by rfl):
 RE X (.Call (.Name "Act" p) (e::a) [] b) M f (hW c x):=
 B1 (yN h g l (λq i=>⟨q,x,rfl,bL,rfl,q,i,by rw[fi],rfl⟩) j (by decide) k d)
def rW{L:jd}{i:Nat}(h:L.as[i]?=some a):(L.as.map Dt.aD)[i]?=some (.aD a):=by grind
def Go:bP ["registry","ended","rings","day","first","shares","p","ring"] ["registry","ended","rings","day"] (bh<|aF 33):={}
def OZ(c:CL)(C:fX k c)(F:bK k "replace_parcels" "replace_parcels" (aF 33) f fd)(G:MG mg)(h1:aU b w k mg I "last_shares" 1 (aA k<|yw c))(h2:lG b w k mg I "Parcel" c.cP 1 (dS k<|y_ c))(h3:lG b w k mg I "Act" c.cA 1 (dS k<|zm c)):bB b w k mg I bC 3 f fd ["registry","ended","rings","day"] (dS k<|BA c):=by
 refine kL F Go (λM ds Q⟨_,_,_,_,_,_,_,_,_,_,e,_⟩=>by grind) λv' A e' s H E M ds Q hr⟨M0,r,R,L,l,u,t,J,p0,v,e,a',hA,s',f',i',j',l',t',hQ⟩=>?_;subst e;have nd:=Go.nd;have r':=fu;have g':=hr.cb<|show 1<=2 by decide
 have e0:e5 ((l.map λ(n:Nat)=>(n:Int)).map Dt.int) 0=some (.int (p0:Nat)):=fM (j:=0)<|by grind
 have V0:Vw k M M0 [some (.aD r),some (cQ l),some J,some (.int (t:Nat)),none,none,none,none] [some (c6 c R),some (cQ l),some J,some (.int (t:Nat)),none,none,none,none]:=hA.vw ⟨.inr<|.inl ⟨rfl,rfl⟩,.inl rfl,.inl rfl,.inl rfl,trivial⟩;have V1:Vw k M M0 [some (.aD r),some (cQ l),some J,some (.int (t:Nat)),some (.int (R.parcels.length:Nat)),none,none,none] [some (c6 c R),some (cQ l),some J,some (.int (t:Nat)),none,none,none,none]:=hA.vw ⟨.inr<|.inl ⟨rfl,rfl⟩,.inl rfl,.inl rfl,.inl rfl,trivial⟩;refine cZ (i4 (i:=4) (tZ V0 (d:=.int (R.parcels.length:Nat)) (bU (eH (ck (ab 0) C.r C.r2 rfl) G.aX)<|by grind)<|.int _) nd) ?_;rintro M1 q' ⟨d1,⟨rfl,rfl⟩,rfl⟩;have fl:Fl (dW (bW v)):=.cE λy hy=>by
  obtain⟨z,_,rfl⟩:=cY.mp hy;exact .a9 λd hd=>by
   rcases cO.mp hd with rfl|hd;·exact .int _
   ·rcases cO.mp hd with rfl|hd;·exact .int _
    grind
 refine cZ (i4 (i:=5) (tZ V1 (aK h1 g' (ah (dG (ck (ab 0) C.r C.r2 rfl) (dG (ab 1) a7 e0)<|fM<|m4 c f') au) ⟨v,rfl,i',rfl⟩) fl) nd) ?_;rintro M2 p' ⟨d2,⟨rfl,rfl⟩,rfl⟩;let S:Nat->aZ:=λi=>{ R with parcels:=(l.take i).foldl (gP<|some t) R.parcels}
 have l1:∀i,(S i).parcels.length=R.parcels.length:=λi=>yg _ _ _;refine yL (λi B D=>b7 c M0 B r (S i) L/\D=[some<|.aD r,some<|cQ l,some J,some<|.int (t:Nat),some<|.int (R.parcels.length:Nat),some<|dW<|bW v,none,none]) (fc<|bU (ab 1)<|ui l) (cG (i:=6) nd rfl<|cj rfl) (pO k 6) ⟨hA,rfl⟩ ?_ ?_ jB rfl
 ·rintro i d hd B D ⟨h,rfl⟩;rw[hZ] at hd;cases Y:l[i]? with
  |none=>grind
  |some p=>
   rw[Y] at hd;cases hd;obtain⟨hi,X⟩:=gD.mp Y;have hp:p<(S i).parcels.length:=by rw[l1];exact j' p<|dA Y
   obtain⟨x,hx⟩:∃x,(S i).parcels[p]?=some x:=by grind
   obtain⟨a,O,ha,hc⟩:=h.at hx;obtain⟨g1,g2⟩:=h.ay p a O x ha hc hx;refine⟨_,rfl,?_⟩;refine jL (fs':=oH { x with bX:=some t}<|.aD O) (bE<|ab 3) (r8 (gM (bE<|ab 0) h.ff C.r C.r2 rfl) (bE<|ab 6) h.gC<|fM<|rW ha) g1 C.p C.p3 (by show 5<1000;decide) rfl ?_;have N:=h.J3 (x':={ x with bX:=some t}) ha hc hx rfl;have eR:S (i+1)={ S i with parcels:=(S i).parcels.set p { x with bX:=some t}}:=by
    show({ R with parcels:=_}:aZ)={ R with parcels:=_}
    congr 1;rw[nJ hi,EG,X];exact xR hx
   rw[<-eR] at N;refine oy (P:=λB o=>b7 c M0 B r (S<|i+1) L/\o=.nx [some<|.aD r,some<|cQ l,some J,some<|.int (t:Nat),some<|.int (R.parcels.length:Nat),some<|dW<|bW v,some<|.int (p:Nat),none]) (fj ⟨N,rfl⟩) ?_;rintro M6 o ⟨h6,rfl⟩;exact⟨[some<|.aD r,some<|cQ l,some J,some<|.int (t:Nat),some<|.int (R.parcels.length:Nat),some<|dW<|bW v,none,none],⟨rfl,rfl,rfl,rfl,rfl,rfl,trivial⟩,h6,rfl⟩
 rintro M3 o' ⟨h,rfl⟩;rw[bS] at h;have eE:S l.length={ R with parcels:=l.foldl (gP<|some t) R.parcels}:=by grind
 obtain⟨E1,b'⟩:∃E1,E1=l.foldl (gP (some t)) R.parcels:=⟨_,rfl⟩
 have lE:E1.length=R.parcels.length:=by grind
 rw[eE,<-b'] at h;let R2:Nat->aZ:=λi=>{ R with parcels:=E1++(u.take i).map (jP t l<|bW v)}
 refine yL (λi B D=>(∃T,b7 c M0 B r (R2 i) T)/\D=[some (.aD r),some (cQ l),some J,some (.int (t:Nat)),some (.int (R.parcels.length:Nat)),some (dW (bW v)),none,none]) (WO (ab 2) a') (cG (i:=7) nd rfl (cj rfl)) (pO k 7) ⟨⟨L,?_⟩,rfl⟩ ?_ ?_ jB rfl;·grind
 ·rintro i d hd B D ⟨⟨T,N⟩,rfl⟩;rw[hZ] at hd;cases Y:u[i]? with
  |none=>grind
  |some g=>
   rw[Y] at hd;cases hd;obtain⟨hi,X⟩:=gD.mp Y;refine⟨_,rfl,?_⟩;have k':(T.as.map Dt.aD).length<bx:=by rw[bS,N.la];grind
   refine cZ (j_<|xS (q:=T.pl) (ds:=T.as.map .aD) (R:=λM1 d=>∃a O,B a=none/\B O=none/\O≠a/\M1=bo (bo B O (.ob (.aq ((jP t l (bW v) g).bd.map iT)))) a (.ob (.bA c.cP (oH (jP t l (bW v) g) (.aD O))))/\d=.aD a) (gM (bE (ab 0)) N.ff C.r C.r2 rfl) (ME.imp (Kh c h2 hr (jk (ah (ab 7) (ah (ab 3) (ah (ab 1) (ah (ab 5) au)))))) ?_) k' rfl rfl rfl N.gC) ?_
   ·rintro M1 d ⟨a,O,g1,g2,g3,rfl,rfl⟩;refine⟨(by grind),?_⟩;have n1:T.pl≠a:=λz=>by rw[<-z,N.gC] at g1;cases g1
    have n2:T.pl≠O:=λz=>by rw[<-z,N.gC] at g2;cases g2
    rw[ba n1,ba n2];exact N.gC
   ·rintro M5 c' ⟨rfl,d5,M1,d,⟨a,O,g1,g2,g3,rfl,rfl⟩,rfl,rfl⟩;have hm:=N.more (x:=jP t l (bW v) g) g1 g2 g3;rw[dw] at hm;have eR:R2 (i+1)={ R2 i with parcels:=(R2 i).parcels++[jP t l (bW v) g]}:=by
     show({ R with parcels:=_}:aZ)={ R with parcels:=_}
     congr 1;rw[nJ hi,dw,X,<-Aw];rfl
    rw[<-eR] at hm;refine oy (P:=λB o=>(∃T,b7 c M0 B r (R2 (i+1)) T)/\o=.nx [some (.aD r),some (cQ l),some J,some (.int (t:Nat)),some (.int (R.parcels.length:Nat)),some (dW (bW v)),none,some (dR g)]) (fj ⟨⟨_,hm⟩,rfl⟩) ?_;rintro M6 o ⟨h6,rfl⟩;exact⟨[some<|.aD r,some<|cQ l,some J,some<|.int (t:Nat),some<|.int (R.parcels.length:Nat),some<|dW<|bW v,none,none],⟨rfl,rfl,rfl,rfl,rfl,rfl,trivial⟩,h6,rfl⟩
 rintro M4 n' ⟨⟨L4,Z⟩,rfl⟩;rw[bS] at Z;have eF:R2 u.length={ R with parcels:=E1++u.map (jP t l<|bW v)}:=by grind
 rw[eF] at Z;refine cZ (j_<|xS (q:=L4.al) (ds:=R.acts.map<|hW c) (R:=λM1 d=>M1=M4/\d=hW c ⟨t,l,u.length,[]⟩) (gM (bE<|ab 0) Z.ff C.r C.r3 rfl) (ME.imp (La c h3 hr (x:=⟨t,l,u.length,[]⟩)<|jk<|ah (ab 3)<|ah (ab 1)<|ah (bU (d':=.int (u.length:Nat)) (Uy (ab 2) a' G.aX)<|by grind)<|ah (gQ (ds:=[]) au) au) ?_) (by grind) rfl rfl rfl Z.js) ?_
 ·rintro M1 d ⟨rfl,rfl⟩;exact⟨⟨rfl,rfl⟩,Z.js⟩
 rintro M5 c' ⟨rfl,d5,M1,d,⟨rfl,rfl⟩,rfl,rfl⟩;have h5:=Z.CJ<|R.acts++[⟨t,l,u.length,[]⟩]
 rw[dw] at h5;have eG:({ R with parcels:=E1++u.map (jP t l<|bW v),acts:=R.acts++[⟨t,l,u.length,[]⟩]}:aZ)=f_ R l (bW v) u t:=by rw[b'];rfl
 refine j9 (bb<|bj<|ab 4)<|hQ _ L4 ?_;grind
def qN(b:List cg)(p:Nat):List cg:=b.modify p λx=>{ x with bd:=x.bd.dropLast}
def m_(R:aZ)(a:kQ):aZ:={ R with parcels:=a.eM.foldl qN<|a.ended.foldl (gP none)<|R.parcels.take<|R.parcels.length-a.jR,acts:=R.acts.dropLast}
def J4(c:CL)(M:Mh)(e:List Dt)(Q:Mh->Dt->Prop):Prop:=∃(b:Mh)(r:aa)(R:aZ)(L:jd)(l:List kQ)(a:kQ),e=[.aD r]/\b7 c b M r R L/\R.acts=l++[a]/\a.jR<=R.parcels.length/\(∀p∈a.ended,p<R.parcels.length-a.jR)/\a.eM.length<=1/\
 (∀p∈a.eM,∃x,(a.ended.foldl (gP none) (R.parcels.take (R.parcels.length-a.jR)))[p]?=some x/\x.bd≠[])/\∀d f,b7 c b d r (m_ R a) f->Q d .aS
def Qz:bP ["registry","p","shares","day"] ["registry","p","shares","day"] (bh<|aF 34):={}
def QH(c:CL)(C:fX g c)(F:bK g "change_shares" "change_shares" (aF 34) f X)(T:lG b w g D k "Act" c.cA 1 (dS g<|zm c)):bB b w g D k bC 3 f X ["registry","p","shares","day"] (dS g<|II c):=by
 refine kL F Qz (λM i Q⟨_,_,_,_,_,_,_,_,e,_⟩=>by grind) λZ A n s H E M i Q J⟨M0,r,R,L,p,x,l,t,e,h,o,N,O,S⟩=>?_;subst e;have I:=fu;obtain⟨a,v,u,y⟩:=h.at o;obtain⟨U,B⟩:=h.ay p a v x u y o;refine cZ (j_ (xS (q:=v) (ds:=x.bd.map iT) (R:=λM1 d=>M1=M/\d=iT (t,l)) (gM (r8 (gM (bE<|ab 0) h.ff C.r C.r2 rfl) (bE<|ab 1) h.gC<|fM<|rW u) U C.p C.p5 rfl)
  (ME.imp (bE<|gd (ds:=[.int (t:Nat),dW l]) (ah (ab 3)<|ah (ab 2) au) gW) ?_) (by grind) rfl rfl rfl B)) ?_
 ·rintro M1 d ⟨rfl,rfl⟩;exact⟨⟨rfl,rfl⟩,B⟩
 rintro M5 m ⟨rfl,Y,M1,d,⟨rfl,rfl⟩,rfl,rfl⟩;have j:=h.Lr (x.bd++[(t,l)]) u y o;rw[dw] at j;refine cZ (j_ (xS (q:=L.al) (ds:=R.acts.map<|hW c) (R:=λM2 d=>M2=bo M1 v (.ob<|.aq<|x.bd.map iT++[iT (t,l)])/\d=hW c ⟨t,[],0,[p]⟩) (gM (bE<|ab 0) j.ff C.r C.r3 rfl)
  (ME.imp (La c T J (x:=⟨t,[],0,[p]⟩)<|jk<|ah (ab 3)<|ah (gQ (ds:=[]) au)<|ah a7<|ah (gQ (ds:=[.int (p:Nat)]) (ah (ab 1) au)<|by grind) au) ?_) (by grind) rfl rfl rfl j.js)) ?_
 ·rintro M2 d ⟨rfl,rfl⟩;exact⟨⟨rfl,rfl⟩,j.js⟩
 rintro M5 m ⟨rfl,Y,M2,d,⟨rfl,rfl⟩,rfl,rfl⟩;have z:=j.CJ<|R.acts++[⟨t,[],0,[p]⟩]
 rw[dw] at z;exact fj<|S _ L z
def Jy:bP ["registry","act","p"] ["registry"] (bh<|aF 35):={}
def TZ(c:CL)(C:fX m c)(F:bK m "take_back" "take_back" (aF 35) f fd)(G:MG mg):bB g w m mg j' bC 1 f fd ["registry"] (dS m<|J4 c):=by
 refine kL F Jy (λM ds Q⟨_,_,_,_,_,_,e,_⟩=>by grind) λq' A e' s H E M ds Q hr⟨M0,r,R,L,l,a,e,h,hl,hm,f',m',a',hQ⟩=>?_;subst e;have nd:=Jy.nd;have b':M L.al=some (.ob (.aq (l.map (hW c)++[hW c a]))):=by rw[h.js,hl,dw];rfl
 refine cZ (i4 (i:=1) (J_ (gM (bE<|ab 0) h.ff C.r C.r3 rfl) b') nd) ?_;rintro M1 l' ⟨d1,⟨rfl,rfl⟩,rfl⟩;have J:=h.CJ l;obtain⟨n,hn⟩:∃n,n=R.parcels.length-a.jR:=⟨_,rfl⟩
 refine tT (VA (j:=(n:Nat)) (gM (bE<|ab 0) J.ff C.r C.r2 rfl) (RE.mk (PE.aN (Xc (JR (gM (bE<|ab 0) J.ff C.r C.r2 rfl) J.gC G.aX)<|bE<|ck (ab 1) C.a C.a3 rfl).to λσ H' Q'⟨cm,k⟩=>⟨cm,λv H2 s2 m2 x2=>k v H2 s2 m2 (by
  have:(((L.as.map Dt.aD).length:Int)-((a.jR:Nat):Int))=((n:Nat):Int):=by rw[bS,J.la];grind
  grind)⟩)) J.gC) ?_
 rintro M2 d ⟨Y,S,rfl,rfl⟩;have np:Y≠r:=λz=>by rw[z,J.ff] at S;cases S
 refine⟨r,c.cR,_,bE<|ab 0,by rw[ba<|ci np];exact J.ff,C.r,C.r2,by show 3<1000;decide,?_⟩;have h2:=J.cut S n;have e1:dL (L.as.map Dt.aD) none (some ((n:Nat):Int))=(L.as.take n).map .aD:=by rw[qF,n_]
 rw[e1];refine BX (L.pl::(L.as.drop n++L.dU.drop n)) ?_;have e2:ny "parcels" (.aD Y) (wJ { R with acts:=l} L)=wJ { R with acts:=l} { L with pl:=Y}:=rfl;rw[e2];generalize lC (bo (bo (bo M L.al<|.ob<|.aq<|l.map<|hW c) Y<|.ob<|.aq<|(L.as.take n).map .aD) r<|.ob<|.bA c.cR<|wJ { R with acts:=l} { L with pl:=Y}) (L.pl::(L.as.drop n++L.dU.drop n))=M3 at h2 ⊢;obtain⟨L2,g'⟩:∃L2:jd,L2={ pl:=Y,al:=L.al,as:=L.as.take n,dU:=L.dU.take n}:=⟨_,rfl⟩
 rw[<-g'] at h2;let D:Nat->aZ:=λi=>{ R with parcels:=(a.ended.take i).foldl (gP none)<|R.parcels.take n,acts:=l}
 have l1:∀i,(D i).parcels.length=n:=λi=>by show((a.ended.take i).foldl (gP none)<|R.parcels.take n).length=n;rw[yg,rp];omega
 refine yL (λi y u=>b7 c M0 y r (D i) L2/\u=[some<|.aD r,some<|hW c a,none]) (fc<|bU (ck (d:=cQ a.ended) (ab 1) C.a C.a2 rfl)<|ui a.ended) (cG (i:=2) nd rfl<|cj rfl) (pO m 2) ⟨h2,rfl⟩ ?_ ?_ jB rfl
 ·rintro i d U y u ⟨h,rfl⟩;rw[hZ] at U;cases O:a.ended[i]? with
  |none=>grind
  |some p=>
   rw[O] at U;cases U;obtain⟨hi,T⟩:=gD.mp O;have hp:p<(D i).parcels.length:=by rw[l1,hn];exact f' p<|dA O
   obtain⟨x,B⟩:∃x,(D i).parcels[p]?=some x:=⟨_,d9 hp⟩
   obtain⟨b,ch,X,hc⟩:=h.at B;obtain⟨g1,g2⟩:=h.ay p b ch x X hc B;refine⟨_,rfl,?_⟩;refine jL (fs':=oH { x with bX:=none}<|.aD ch) (bE r4) (r8 (gM (bE<|ab 0) h.ff C.r C.r2 rfl) (bE<|ab 2) h.gC<|fM<|rW X) g1 C.p C.p3 (by show 5<1000;decide) rfl ?_;have h':=h.J3 (x':={ x with bX:=none}) X hc B rfl;have eR:D (i+1)={ D i with parcels:=(D i).parcels.set p { x with bX:=none}}:=by
    show({ R with parcels:=_,acts:=l}:aZ)={ R with parcels:=_,acts:=l}
    congr 1;rw[nJ hi,EG,T];exact xR B
   rw[<-eR] at h';refine oy (P:=λy o=>b7 c M0 y r (D<|i+1) L2/\o=.nx [some<|.aD r,some<|hW c a,some<|.int (p:Nat)]) (fj ⟨h',rfl⟩) ?_;rintro M6 o ⟨h6,rfl⟩;exact⟨[some<|.aD r,some<|hW c a,none],⟨rfl,rfl,trivial⟩,h6,rfl⟩
 rintro M4 k' ⟨h4,rfl⟩;rw[bS] at h4;obtain⟨I,i'⟩:∃I,I=a.ended.foldl (gP none) (R.parcels.take n):=⟨_,rfl⟩
 have eE:D a.ended.length={ R with parcels:=I,acts:=l}:=by grind
 rw[eE] at h4;rw[<-hn,<-i'] at a';refine yL (λi y u=>b7 c M0 y r { R with parcels:=(a.eM.take i).foldl qN I,acts:=l} L2/\u=[some<|.aD r,some<|hW c a,none]) (fc<|bU (ck (d:=cQ a.eM) (ab 1) C.a C.a4 rfl)<|ui a.eM) (cG (i:=2) nd rfl<|cj rfl) (pO m 2) ⟨h4,rfl⟩ ?_ ?_ jB rfl
 ·rintro i d U y u ⟨h,rfl⟩;rw[hZ] at U;cases O:a.eM[i]? with
  |none=>grind
  |some p=>
   rw[O] at U;cases U;obtain⟨hi,T⟩:=gD.mp O;have i0:i=0:=by omega
   subst i0;obtain⟨x,B,Z⟩:=a' p<|dA O;have h:b7 c M0 y r { R with parcels:=I,acts:=l} L2:=h;obtain⟨b,ch,X,hc⟩:=h.at B;obtain⟨g1,g2⟩:=h.ay p b ch x X hc B;have eC:x.bd.map iT=x.bd.dropLast.map iT++[iT (x.bd.getLast Z)]:=by
    conv=>lhs;rw[<-MB Z]
    grind
   rw[eC] at g2;refine⟨_,rfl,?_⟩;refine cZ (j_<|J_ (gM (r8 (gM (bE<|ab 0) h.ff C.r C.r2 rfl) (bE<|ab 2) h.gC<|fM<|rW X) g1 C.p C.p5 rfl) g2) ?_;rintro M5 d' ⟨rfl,d5,rfl,rfl⟩;have h':=h.Lr x.bd.dropLast X hc B;have eR:(a.eM.take 1).foldl qN I=I.set p { x with bd:=x.bd.dropLast}:=by rw[nJ hi,EG,T];exact xR B
   refine oy (P:=λy o=>b7 c M0 y r { R with parcels:=(a.eM.take<|0+1).foldl qN I,acts:=l} L2/\o=.nx [some<|.aD r,some<|hW c a,some<|.int (p:Nat)]) (fj<|by grind) ?_;rintro M6 o ⟨h6,rfl⟩;exact⟨[some<|.aD r,some<|hW c a,none],⟨rfl,rfl,trivial⟩,h6,rfl⟩
 rintro M5 d' ⟨h5,rfl⟩;rw[bS,EJ] at h5;refine fj<|hQ _ L2 ?_;have:m_ R a={ R with parcels:=a.eM.foldl qN I,acts:=l}:=by unfold m_;grind
 grind
def qL(m:cz)(i:Int):Option Rat:=(m.find? λx=>decide<|x.1=i).map (·.2)
def nB(l m:cz):Bool:=decide (l.length=m.length)&&l.all λx=>decide<|qL m x.1=some x.2
def uJ(l:cz):List (Int×Dt):=l.map λx=>(x.1,dF x.2)
def IK(m:cz)(i:Int):iJ (uJ m) i=(qL m i).map dF:=by unfold iJ qL uJ;rw[AE];show(((m.find? λx=>decide<|x.1=i).map λx=>(x.1,dF x.2)).map (·.2))=_;cases m.find? λx=>decide (x.1=i)<;>rfl
def Wk(p q:Rat):tA (.tuple [.int p.num,.int (p.den:Int)]) (.tuple [.int q.num,.int (q.den:Int)])=decide (q=p):=by
 have:=vW (p.num,(p.den:Int)) (q.num,(q.den:Int));rw[this,mM,eg,eg];constructor
 ·intro h;injection h with a b;exact Rat.ext a.symm<|by omega
 grind
def pI(I:Inv X z σ H s)(C:X.A.in1.units+64<cH)(D:di X.K H O (uJ m))(d:KV O a):
 ∀{l:cz}{B:List (bg×V)}{t:List (bg×af)},di X.K H B (uJ l)->KV B t->aba X.A.in1 s a t (l.all λx=>decide<|qL m x.1=some x.2)
 |[],_,_,r,f=>by cases r;cases f;exact .nil
 |(i,q)::l,_,_,r,f=>by
  cases r with
  |@cons _ v rk _ _ R dt=>
   cases f with
   |@cons _ b _ L h J=>
    obtain⟨g,u⟩:=b;obtain⟨k,S⟩:=h;have k:(eX i:bg)=g:=k;subst k;have Q:=pI I C D d dt J;obtain⟨U,T⟩:=D.val i;rw[rB];show aba X.A.in1 s a _ (decide (qL m i=some q)&&_);cases e:qL m i with
    |none=>
     have p:=T<|by rw[IK,e];rfl
     have n:l5 a (.inl i)=none:=ik.TW<|by rw[<-p];exact d.val<|.inl i
     exact .miss n
    |some c=>
     obtain⟨w,p,j⟩:=U (dF c)<|by rw[IK,e];rfl
     obtain⟨y,n,E⟩:=ik.vK (v:=w) (o:=l5 a<|.inl i)<|by rw[<-p];exact d.val<|.inl i
     obtain⟨as,N⟩:=Dp.nj I _ v u (qQ R) S;obtain⟨bs,M⟩:=Dp.nj I _ w y (qQ j) E;have Y:=PySem.W.keq_at (A:=X.A) N M (by rfl) (by rfl) C;have Z:decide (some c=some q)=decide (c=q):=by grind
     rw[Z,<-Wk q c];exact .hit n Y Q
def X_(K:ax):R2:=λx y H Q=>∃(a b:aa)(d c:List (bg×V))(l m:cz),x=.ref a/\y=.ref b/\H a=some (.dK d)/\H b=some (.dK c)/\di K H d (uJ l)/\di K H c (uJ m)/\Q (.bl (!nB l m)) H
def UW(t:X.A.in1.units+64<cH):eP X (gw .NotEq) (X_ X.K):=by
 intro e s E H x y v u Q I n k h;obtain⟨a,b,R,O,l,m,rfl,rfl,B,z,g,f,q⟩:=h;cases(show v=c7 a from n);cases(show u=c7 b from k);obtain⟨L,p,j,d,D⟩:=oE I.a_<|.inl B;obtain⟨J,o,i,c,C⟩:=oE I.a_<|.inl z;have N:j.length=l.length:=by rw[<-d.length,g.length];exact bS _
 have M:i.length=m.length:=by rw[<-c.length,f.length];exact bS _
 refine PySem.W.keq_ne (knd:=cF X.prog X.w) p o D C (by grind) (λ_=>pI I t f c g d) ⟨.bl _,H,I,?_,q⟩;show _=lY _;congr 1;unfold nB;grind
def UG(i:DE X a c (dW l))(h:DE X b c (dW m))(g:X.A.in1.units+64<cH):DT X (.Compare a [.NotEq] [b] f) c (!nB l m):=
 qA (UW g) i h (qK b) λF x y H Q n j k=>by
  cases n with
  |cE e p=>
   cases j with
   |cE d o=>exact⟨_,_,_,_,l,m,rfl,rfl,bm _ _ e,bm _ _ d,p.same bm,o.same bm,k _ H (aW.refl H)<|.bl _⟩
def RY(s:DE X a f (.aq [.int i,.int j]))(o:X.mg "max"=none)(r:X.cX=true)(q:Gl X "max":=by rfl)(d:aB [a] X.ae=(false,aO a X.ae)::aB [] X.ae:=by rfl):DE X (.Call (.Name "max" p) [a] [] g) f (.int<|max i j):=
 jI (W1 r) (ah s au d) (λF w H Q x h k=>by
  obtain⟨v,rfl,l⟩:=hE h;cases l with
  |aq n t=>
   have e:=bu.ints (ns:=[i,j]) t;refine⟨_,[i,j],rfl,by rw[<-e];exact bi.of<|bm _ _ n,by grind,λm c b=>?_⟩;have B:=b i<|by simp
   have A:=b j<|by simp
   have z:m=i\/m=j:=by grind
   have u:m=max i j:=by omega
   rw[u];exact k _ H (aW.refl H)<|.int _) o (by rfl) q (by decide) (by decide) d rfl
end Pf
namespace L3
open PySem PySem.Spec PyProof.Rows L2
def Xf{g}(h:RA X q M f e)(m:e.length<=bx):RE X (.Tuple q g l) M f (.a9 e):=RE.mk (PE.aN (Ka h) λs H Q⟨r,k⟩=>⟨r,λi t j b d=>⟨by rw[d.length];exact m,λp c=>by have n:=jJ b.tr c;have a:=gJ (o:=.a9 i) c;exact k _ _ (j.trans<|ca a) (b.same a)<|.a9 (cV.of<|lh n)<|d.same<|ca a⟩⟩)
def Xu(h:RE X e M a d)(q:d=d'):RE X e M a d':=by grind
def gL(h:RE X e M c d)(p:b M (.rt d)):cf X (.Return (some e) f::a) M c b:=Co (MS.imp (J9 h)<|by grind)
def tS{R:Mh->Dt->Prop}(h:ME X e M f R)(p:∀c d,R c d->b c (.rt d)):cf X (.Return (some e) g::a) M f b:=Co (MS.imp (J9 h)<|by grind)
def gA(g:RT X c M e k)(i:k=true->cf X A M e λf o=>∃d,o=.rt d/\b f o)(j:k=false->cf X a M e b):cf X (.If c A [] h::a) M e b:=by
 cases k with
 |true=>exact Co<|C0 g i λq=>by cases q
 |false=>
  refine qu (P1:=λf o=>f=M/\o=.nx e) (C0 g (λq=>by cases q) λ_=>fj ⟨rfl,rfl⟩) ?_<|by grind
  grind
def k9(n:RE X e M g d)(o:X.N.Nodup)(h:cf X a M (g.set i<|some d) b)(l:X.N[i]?=some x:=by rfl)(j:oO X.ae.scope x:=by first|exact cj rfl|exact gF rfl)(k:jg e (some (.Name x c)) f.line X.ae=pure false:=by rfl)(m:X.fn x=true\/X.ae.scope.names.lookup x=some .local:=by first|exact .inl rfl|exact .inr rfl):cf X (.Assign [.Name x c] e f::a) M g b:=cZ (i4 n o l j k m) (by grind)
end L3
namespace Pf
open PySem PySem.Spec PyProof.Rows L2 L3
open Sy(Pt Ring)
def cU(R:aZ)(l:List Nat)(t m:Nat):Int:=if t<eL R\/1000000<t then-1 else if l.all (hI R)=false then-4 else if 200<R.parcels.length+m then-2 else 0
def mv(a b n e:Nat):Bool:=!(decide (1000<a)||decide (1000<b)||decide (a=b))&&(decide (0<e)&&decide (e<=1000)&&(decide (0<n)&&decide (n<=e)))
def KW:List Dt->Dt->Prop:=λc d=>∃a b n e:Nat,c=[.int (a:Nat),.int (b:Nat),.int (n:Nat),.int (e:Nat)]/\d=.bl (mv a b n e)
def FJ(h:cU R [p] t m=0):∃x,R.parcels[p]?=some x/\x.bX=none/\R.parcels.length+m<=200/\eL R<=t/\t<=1000000:=by
 unfold cU at h;split at h;·cases h
 ·split at h;·cases h
  ·split at h;·cases h
   ·rename_i c a b;rw[abB,rB,acA,E3] at a;unfold hI at a;cases e:R.parcels[p]? with
    |none=>grind
    |some x=>rw[e] at a;have a:x.bX.isNone=true:=a;exact⟨x,rfl,Aj.mp a,by omega,by omega,by omega⟩
def ly(R:aZ):aZ×An:=match R.acts.getLast? with
 |none=>(R,(-5,[]))
 |some a=>(m_ R a,((R.acts.length-1:Nat),[]))
def hJ(R:aZ)(p t a b n e:Nat):aZ×An:=
 if mv a b n e=false then(R,(-1,[])) else if cU R [p] t 0≠0 then(R,(cU R [p] t 0,[])) else match R.parcels[p]? with
 |none=>(R,(-4,[]))
 |some x=>if bG (bW x) (a:Nat)<mkRat n e then(R,(-5,[])) else
  let g:=eM (bW x) (a:Nat) (b:Nat)<|mkRat n e
  ({ R with parcels:=R.parcels.set p { x with bd:=x.bd++[(t,g)]},acts:=R.acts++[⟨t,[],0,[p]⟩]},(0,[(bG g (a:Nat)).num,((bG g (a:Nat)).den:Nat)]))
structure zH(R:aZ)(a:kQ):Prop where
 jR:a.jR<=R.parcels.length
 ended:∀p∈a.ended,p<R.parcels.length-a.jR
 one:a.eM.length<=1
 ch:∀p∈a.eM,∃x,(a.ended.foldl (gP none) (R.parcels.take (R.parcels.length-a.jR)))[p]?=some x/\x.bd≠[]
def Kr(c:CL)(M:Mh)(e:List Dt)(Q:Mh->Dt->Prop):Prop:=∃(b:Mh)(r:aa)(R:aZ)(L:jd),e=[.aD r]/\b7 c b M r R L/\(∀a,R.acts.getLast?=some a->zH R a)/\∀d f,b7 c b d r (ly R).1 f->Q d (iP (ly R).2)
def Kl(c:CL)(M:Mh)(g:List Dt)(Q:Mh->Dt->Prop):Prop:=∃(d:Mh)(r:aa)(R:aZ)(L:jd)(p t a b n e:Nat),g=[.aD r,.int (p:Nat),.int (t:Nat),.int (a:Nat),.int (b:Nat),.int (n:Nat),.int (e:Nat)]/\b7 c d M r R L/\kl R/\
 ∀f h,b7 c d f r (hJ R p t a b n e).1 h->Q f (iP (hJ R p t a b n e).2)
def VO:bP ["a","b","n","d"] ["a","b","n","d"] (bh<|aF 77):={}
def JV(a b:Nat):decide ((a:Int)<(b:Int))=decide (a<b):=by grind
def JW(a b:Nat):decide ((a:Int)<=(b:Int))=decide (a<=b):=by grind
def Ca(a b:Nat):decide ((a:Int)=(b:Int))=decide (a=b):=by grind
def VI(F:bK g "is_gift" "is_gift" (aF 77) f o)(G:MG l):bB c w g l k bC 1 f o ["a","b","n","d"] (aA g KW):=by
 refine cN F VO (λt d⟨_,_,_,_,e,_⟩=>by grind) λu A i s H E t d y⟨a,b,n,e,p,q⟩=>?_;subst p q;obtain⟨x,j⟩:=G.be;obtain⟨v,m⟩:=G.zY;refine eS (cW (ke (cw (ab 0)<|cS j) λ_=>ke (cw (ab 1)<|cS j) λ_=>mh<|cw (ab 0)<|ab 1).dt<|show _=(decide (1000<a)||decide (1000<b)||decide (a=b)) from ?_) (λh=>?_) λh=>?_
 ·show(decide (((1000:Nat):Int)<(a:Int))||(decide (((1000:Nat):Int)<(b:Int))||decide ((a:Int)=(b:Int))))=_;grind
 ·have r:mv a b n e=false:=by unfold mv;grind
  rw[r];exact bb<|bj fm
 ·refine bb<|bj<|bU (ue (ym a7 (ab 3)<|cS m) λ_=>rY<|ym a7 (ab 2)<|ab 3) ?_;unfold mv;rw[h,ab8,ts];show Dt.bl ((decide (((0:Nat):Int)<(e:Int))&&decide ((e:Int)<=((1000:Nat):Int)))&&(decide (((0:Nat):Int)<(n:Int))&&decide ((n:Int)<=(e:Int))))=_;rw[JV,JV,JW,JW]
def Uu:bP ["registry"] ["registry"] (bh<|aF 79):={}
def Uh(c:CL)(C:fX g c)(F:bK g "answer_undo" "answer_undo" (aF 79) f O)(G:MG t)(N:aU b w g t i "refused" 1 (aA g oo))(J:aU b w g t i "take_back" 1 (dS g<|J4 c)):bB b w g t i bC 2 f O ["registry"] (dS g<|Kr c):=by
 refine kL F Uu (λM z Q⟨_,_,_,_,e,_⟩=>by grind) λU A p s H E M z Q y⟨B,r,R,L,e,h,u,n⟩=>?_;subst e;obtain⟨t5,X⟩:=G.c5;cases m:R.acts.getLast? with
 |none=>
  have x:ly R=(R,(-5,[])):=by unfold ly;rw[m]
  rw[x] at n;have T:R.acts=[]:=List.getLast?_eq_none_iff.mp m;refine gA (k:=true) (Cp (h.vw (ρ:=[some<|.aD r]) (ρ':=[some<|c6 c R]) ⟨.inr<|.inl ⟨rfl,rfl⟩,trivial⟩)<|cW (cw (eH (ck (ab 0) C.r C.r3 rfl) G.aX) a7)<|by rw[T];rfl) (λ_=>?_) λq=>by cases q
  exact gL (bE<|aK N y (ah (cS X) au) ⟨-5,rfl,rfl⟩) ⟨_,rfl,n _ L h⟩
 |some a=>
  have x:ly R=(m_ R a,(((R.acts.length-1:Nat):Int),[])):=by unfold ly;rw[m]
  rw[x] at n;obtain⟨l,v⟩:=List.getLast?_eq_some_iff.mp m;have A:=u a m;have ne:R.acts.length≠0:=by grind
  refine gA (k:=false) (Cp (h.vw (ρ:=[some<|.aD r]) (ρ':=[some<|c6 c R]) ⟨.inr<|.inl ⟨rfl,rfl⟩,trivial⟩)<|cW (cw (eH (ck (ab 0) C.r C.r3 rfl) G.aX) a7)<|mX<|by grind) (λq=>by cases q) λ_=>?_;refine cZ (j_<|oq (R:=λY d=>d=.aS/\∃Z,b7 c B Y r (m_ R a) Z) J y (jk (ah (ab 0) au)) ⟨B,r,R,L,l,a,rfl,h,v,A.jR,A.ended,A.one,A.ch,(by grind)⟩) ?_;rintro M2 D ⟨rfl,d2,_,L2,j⟩;refine gL (Xu (Xf (ot (JR (gM (bE<|ab 0) j.ff C.r C.r3 rfl) j.js G.aX)<|ot (bE<|gQ (ds:=[]) au) yX) gW) (d':=iP ((R.acts.length-1:Nat),[])) ?_)<|n _ L2 j;have S:(m_ R a).acts=R.acts.dropLast:=rfl;rw[bS,S,aaZ];rfl
def Jt:bP ["registry","p","day","a","b","n","d","refusal","shares","part","after"] ["registry","p","day","a","b","n","d"] (bh<|aF 78):={}
def VS(l:cz):Fl (dW l):=.cE λy a=>by
 obtain⟨z,_,rfl⟩:=cY.mp a;exact .a9 λd hd=>by
  rcases cO.mp hd with rfl|hd;·exact .int _
  ·rcases cO.mp hd with rfl|hd;·exact .int _
   grind
def vm(h:x.bd≠[]):∃s∈x.bd,bW x=s.2:=by obtain⟨y,a⟩:=x4 h;exact⟨y,List.mem_of_getLast? a,by unfold bW;grind⟩
def RZ(h:0<n)(g:n<=e)(f:e<=1000):Fs (mkRat (n:Nat) e):=by
 have d:(mkRat (n:Nat) e).den<=1000:=by rw[NA,aL<|by omega];exact dY (ab1 _ _) f
 have c:(mkRat (n:Nat) e).num.natAbs<=1000:=by
  rw[xm,aL<|by omega];have i:(0:Int)<=((e.gcd ((n:Int)).natAbs:Nat):Int):=sZ _;have h:=ab7 (show(0:Int)<=(n:Int) by omega) i;have g:=acH (Int.ediv_le_self ((e.gcd ((n:Int)).natAbs:Nat):Int)<|by omega)<|show(n:Int)<=1000 by omega
  omega
 have b:1000<2^20000:=by omega
 have a:1000<2^4450:=by omega
 exact⟨sY c b,sY d a⟩
def UR(c:CL)(C:fX k c)(F:bK k "answer_give" "answer_give" (aF 78) f fd)(G:MG v)(h1:aU j w k v l "refused" 1 (aA k oo))(h2:aU j w k v l "is_gift" 1 (aA k KW))(h3:aU j w k v l "act_refusal" 2 (aA k<|yi c))(h4:aU j w k v l "last_shares" 1 (aA k<|yw c))(h5:aU j w k v l "fraction" 2 (aA k vV))(h6:aU j w k v l "is_less" 1 (aA k J5))(h7:aU j w k v l "share_of" 1 (aA k yf))(h8:aU j w k v l "shares_given" 4 (aA k IQ))(h9:aU j w k v l "change_shares" 3 (dS k<|II c)):
 bB j w k v l bC 5 f fd ["registry","p","day","a","b","n","d"] (dS k<|Kl c):=by
 refine kL F Jt (λM ds Q⟨_,_,_,_,_,_,_,_,_,_,e,_⟩=>by grind) λn' A b' s H E M ds Q Z⟨M0,r,R,L,p,t,a,b,n,e,ee,h,hR,B⟩=>?_;subst ee;have Y:=Jt.nd;have l':=fu;have m:=Z.cb<|show 1<=4 by decide
 have S:=Z.cb<|show 2<=4 by decide
 have c':=Z.cb<|show 3<=4 by decide
 obtain⟨t1,c1⟩:=G.c1;obtain⟨t5,c5⟩:=G.c5;refine gA (gK<|m9<|dD<|aK h2 m (ah (ab 3)<|ah (ab 4)<|ah (ab 5)<|ah (ab 6) au) ⟨a,b,n,e,rfl,rfl⟩) (λhg=>?_) λhg=>?_
 ·have hg:mv a b n e=false:=by grind
  have I:hJ R p t a b n e=(R,(-1,[])):=by unfold hJ;grind
  rw[I] at B;exact gL (bE<|aK h1 m (ah (cS c1) au) ⟨-1,rfl,rfl⟩) ⟨_,rfl,B _ L h⟩
 have hg:mv a b n e=true:=by grind
 have gg:a<=1000/\b<=1000/\a≠b/\0<e/\e<=1000/\0<n/\n<=e:=by unfold mv at hg;grind
 obtain⟨ga,gb,m',ge,h',gn,g'⟩:=gg;let N:aG:=[some<|.aD r,some<|.int (p:Nat),some<|.int (t:Nat),some<|.int (a:Nat),some<|.int (b:Nat),some<|.int (n:Nat),some<|.int (e:Nat),none,none,none,none]
 let y:aG:=[some<|c6 c R,some<|.int (p:Nat),some<|.int (t:Nat),some<|.int (a:Nat),some<|.int (b:Nat),some<|.int (n:Nat),some<|.int (e:Nat),none,none,none,none]
 have V0:Vw k M M0 N y:=h.vw ⟨.inr<|.inl ⟨rfl,rfl⟩,.inl rfl,.inl rfl,.inl rfl,.inl rfl,.inl rfl,.inl rfl,trivial⟩;refine k9 (i:=7) (d:=.int<|cU R [p] t 0) (tZ V0 (aK h3 S (ah (ab 0)<|ah (gQ (ds:=[.int (p:Nat)]) (ah (ab 1) au)<|by grind)<|ah (ab 2)<|ah a7 au) ⟨R,[p],t,0,rfl,by grind,rfl⟩)<|.int _) Y ?_;have V1:Vw k M M0 (N.set 7 (some (.int (cU R [p] t 0)))) y:=h.vw ⟨.inr<|.inl ⟨rfl,rfl⟩,.inl rfl,.inl rfl,.inl rfl,.inl rfl,.inl rfl,.inl rfl,trivial⟩;refine gA (gK<|cw (ab 7) a7) (λz=>?_) λz=>?_
 ·have z:(!decide (cU R [p] t 0=0))=true:=z;have z:cU R [p] t 0≠0:=by grind
  have I:hJ R p t a b n e=(R,(cU R [p] t 0,[])):=by unfold hJ;grind
  rw[I] at B;exact gL (bE<|aK h1 m (ah (ab 7) au) ⟨_,rfl,rfl⟩) ⟨_,rfl,B _ L h⟩
 have z:(!decide (cU R [p] t 0=0))=false:=z;have z:cU R [p] t 0=0:=by grind
 obtain⟨x,hx,e',_,_,_⟩:=FJ z;have U:=hR.get hx;obtain⟨sm,O,T⟩:=vm U.ne;have k':(bW x).length<=2000:=by rw[T];exact U.Mi sm O
 have D:∀o,Fs (bG (bW x) o):=λo=>by rw[T];exact Lb (U.fs sm O) o
 have fq:=RZ gn g' h';refine k9 (i:=8) (d:=dW<|bW x) (tZ V1 (aK h4 m (ah (dG (ck (ab 0) C.r C.r2 rfl) (ab 1)<|fM<|m4 c hx) au) ⟨x,rfl,U.ne,rfl⟩)<|VS _) Y ?_;refine k9 (i:=9) (d:=dF<|mkRat (n:Nat) e) (bE<|aK h5 S (ah (ab 5)<|ah (ab 6) au) ⟨n,e,rfl,ge,?_,rfl⟩) Y ?_;·omega
 refine gA (gK<|dD<|aK h6 m (ah (aK h7 m (ah (ab 8)<|ah (ab 3) au) ⟨bW x,(a:Nat),rfl,rfl⟩)<|ah (ab 9) au) ⟨bG (bW x) (a:Nat),mkRat (n:Nat) e,rfl,D _,fq,rfl⟩) (λJ=>?_) λJ=>?_
 ·have J:=fB J;have I:hJ R p t a b n e=(R,(-5,[])):=by unfold hJ;grind
  rw[I] at B;exact gL (bE<|aK h1 m (ah (cS c5) au) ⟨-5,rfl,rfl⟩) ⟨_,rfl,B _ L h⟩
 have J:=iC J;obtain⟨g,d'⟩:∃g,g=eM (bW x) (a:Nat) (b:Nat) (mkRat (n:Nat) e):=⟨_,rfl⟩
 have I:hJ R p t a b n e=({ R with parcels:=R.parcels.set p { x with bd:=x.bd++[(t,g)]},acts:=R.acts++[⟨t,[],0,[p]⟩]},(0,[(bG g (a:Nat)).num,((bG g (a:Nat)).den:Nat)])):=by unfold hJ;grind
 rw[I] at B;have a':0<mkRat (n:Nat) e:=by
  have h0:0<(mkRat (n:Nat) e).num:=by rw[xm,aL<|by omega];refine aav (by omega) (sZ _) ?_;rw[EE];exact acB.mpr<|abK _ _
  rw[Rat.lt_iff];show(0:Int)*_<(mkRat (n:Nat) e).num*((1:Nat):Int);omega
 refine k9 (i:=10) (d:=dW g) (bE<|aK h8 Z (ah (ab 8)<|ah (ab 3)<|ah (ab 4)<|ah (ab 9) au) ⟨bW x,(a:Nat),(b:Nat),mkRat (n:Nat) e,rfl,by omega,by omega,D _,D _,fq,a',mS.mp J,by rw[d']⟩) Y ?_;have i':=U.cl;have o':=hR.acts;refine cZ (j_<|oq (R:=λM' d=>d=.aS/\∃L',b7 c M0 M' r { R with parcels:=R.parcels.set p { x with bd:=x.bd++[(t,g)]},acts:=R.acts++[⟨t,[],0,[p]⟩]} L') h9 c' (jk<|ah (ab 0)<|ah (ab 1)<|ah (ab 10)<|ah (ab 2) au) ⟨M0,r,R,L,p,x,g,t,rfl,h,hx,i',by omega,(by grind)⟩) ?_;rintro M2 j' ⟨rfl,d2,_,L2,f'⟩;exact gL (bE<|gd (ds:=[.int 0,.aq [.int (bG g (a:Nat)).num,.int ((bG g (a:Nat)).den:Nat)]]) (ah a7<|ah (HK (aK h7 m (ah (ab 10)<|ah (ab 3) au) ⟨g,(a:Nat),rfl,rfl⟩) G.list) au) gW)<|B _ L2 f'
end Pf
namespace L2
open PySem
def dn.Zo(r:dn k A):A.in1.units+64<cH:=by have:=r.un;grind
end L2
namespace Pf
open PySem PySem.Spec PyProof.Rows L2 L3
open Sy(Pt Ring area wayOk cut tidy bare rolled fine joined onRing inRing)
def Th(h:p∈bare r):p∈r:=by unfold ce at h;grind
def Be(h:p∈de r i):p∈r:=by unfold de at h;grind
def Iv(h:p∈tidy r):p∈r:=Th<|Be h
def IN(hw:w≠[])(h:p∈(cut r w).1\/p∈(cut r w).2):p∈r\/p∈w:=by
 have e:w.headD (0,0)∈w:=by
  cases w with
  |nil=>grind
  |cons a l=>grind
 have d:w.getLastD (0,0)∈w:=by grind
 have b:∀{z:Pt},z∈fine r [w.headD (0,0),w.getLastD (0,0)]->z∈r\/z∈w:=λ{z}c=>by
  rcases Ld.vz c with h|h;·grind
  grind
 rcases h with h|h
 ·rcases eI.mp (Iv h) with h|h;·exact b<|Be<|MT h
  ·exact .inr<|(List.dropLast_sublist w).mem h
 ·rcases eI.mp (Iv h) with h|h;·exact b<|Be<|MR h
  grind
def Cu:∀{l:List Nat}{p:Pt},p∈bQ l->∃a b,a∈l/\b∈l/\p=(((a:Nat):Int),((b:Nat):Int))
 |[],_,h=>by cases h
 |[_],_,h=>by cases h
 |a::b::l,p,h=>by
  rcases cO.mp h with h|h;·grind
  ·obtain⟨c,d,g,f,e⟩:=Cu h;grind
def CC:∀l:List Nat,(bQ l).length<=l.length
 |[]=>cs _
 |[_]=>j0 _
 |a::b::l=>by have:=CC l;show(bQ l).length+1<=l.length+1+1;omega
def Kk(l:List Nat):so (ni l)=bQ l:=by
 have h:=Kq (ni l) (λx a=>by obtain⟨n,_,rfl⟩:=cY.mp a;omega)
 have e:(ni l).map fz=l:=by
  unfold ni;rw[d_]
  conv=>rhs;rw[<-Fa l]
  rfl
 grind
def Nr.h(h:Nr e):Bh e:=⟨by have:=h.a;omega,by have:=h.b;omega,by have:=h.c;omega,by have:=h.d;omega⟩
def WE(h:∀n∈l,n<=4294967295):∀p∈bQ l,Bh p:=λp c=>by obtain⟨a,b,e,d,rfl⟩:=Cu c;have:=h a e;have:=h b d;constructor<;>simp<;>omega
def gN(R:aZ)(p t:Nat)(l:List Nat):aZ×An:=
 if cU R [p] t 2≠0 then(R,(cU R [p] t 2,[])) else match R.parcels[p]? with
 |none=>(R,(-4,[]))
 |some x=>if l.length%2=1\/dJ x.ring (bQ l)=false then(R,(-3,[])) else
  if 64<(cut x.ring<|bQ l).1.length\/64<(cut x.ring<|bQ l).2.length then(R,(-2,[])) else
  (f_ R [p] (bW x) [(cut x.ring<|bQ l).1,(cut x.ring<|bQ l).2] t,((R.parcels.length:Nat),[bR (cut x.ring<|bQ l).1,bR (cut x.ring<|bQ l).2]))
def fV(R:aZ)(p q t:Nat):aZ×An:=
 if p=q then(R,(-1,[])) else if cU R [p,q] t 1≠0 then(R,(cU R [p,q] t 1,[])) else match R.parcels[p]?,R.parcels[q]? with
 |some x,some y=>if nB (bW x) (bW y)=false then(R,(-5,[])) else match fh x.ring y.ring with
  |none=>(R,(-3,[]))
  |some g=>(f_ R [min p q,max p q] (bW<|if p<q then x else y) [g] t,((R.parcels.length:Nat),[bR g]))
 |_,_=>(R,(-4,[]))
def Jb(c:CL)(M:Mh)(d:List Dt)(Q:Mh->Dt->Prop):Prop:=∃(a:Mh)(r:aa)(R:aZ)(L:jd)(p t:Nat)(l:List Nat),d=[.aD r,.int (p:Nat),.int (t:Nat),cQ l]/\b7 c a M r R L/\kl R/\l.length<=200/\(∀n∈l,n<=4294967295)/\
 ∀b e,b7 c a b r (gN R p t l).1 e->Q b (iP (gN R p t l).2)
def Lf(c:CL)(M:Mh)(d:List Dt)(Q:Mh->Dt->Prop):Prop:=∃(a:Mh)(r:aa)(R:aZ)(L:jd)(p q t:Nat),d=[.aD r,.int (p:Nat),.int (q:Nat),.int (t:Nat)]/\b7 c a M r R L/\kl R/\
 (∀x y,R.parcels[p]?=some x->R.parcels[q]?=some y->x.bX=none->y.bX=none->p≠q->Ld.iR x.ring y.ring)/\∀b e,b7 c a b r (fV R p q t).1 e->Q b (iP (fV R p q t).2)
def Hy:bP ["registry","p","day","numbers","refusal","ring","way","parts","first","part"] ["registry","p","day","numbers"] (bh<|aF 75):={}
def Q6(c:CL)(C:fX m c)(F:bK m "answer_split" "answer_split" (aF 75) f fd)(G:MG J)(Y:aU b w m J o "refused" 1 (aA m oo))(h3:aU b w m J o "act_refusal" 2 (aA m<|yi c))(h4:aU b w m J o "points_of" 1 (aA m BZ))(h5:aU b w m J o "goes_through" 6 (aA m Ha))(h6:aU b w m J o "split_ring" 4 (aA m IS))(h7:aU b w m J o "twice_area" 2 (aA m rZ))(h8:aU b w m J o "replace_parcels" 3 (dS m<|BA c)):bB b w m J o bC 7 f fd ["registry","p","day","numbers"] (dS m<|Jb c):=by
 refine kL F Hy (λM Z Q⟨_,_,_,_,_,_,_,e,_⟩=>by grind) λo' A d' s H E M Z Q T⟨M0,r,R,L,p,t,l,ee,h,hR,n',g',y⟩=>?_;subst ee;have B:=Hy.nd;have m':=fu;have v:=T.cb<|show 1<=6 by decide
 have S:=T.cb<|show 2<=6 by decide
 have f':=T.cb<|show 3<=6 by decide
 have e':=T.cb<|show 4<=6 by decide
 obtain⟨t2,c2⟩:=G.c2;obtain⟨t3,c3⟩:=G.c3;obtain⟨tm,cm⟩:=G.mp;let a':aG:=[some<|.aD r,some<|.int (p:Nat),some<|.int (t:Nat),some<|cQ l,none,none,none,none,none,none]
 let O:aG:=[some<|c6 c R,some<|.int (p:Nat),some<|.int (t:Nat),some<|cQ l,none,none,none,none,none,none]
 have V0:Vw m M M0 a' O:=h.vw ⟨.inr<|.inl ⟨rfl,rfl⟩,.inl rfl,.inl rfl,.inl rfl,trivial⟩;refine k9 (i:=4) (d:=.int<|cU R [p] t 2) (tZ V0 (aK h3 S (ah (ab 0)<|ah (gQ (ds:=[.int (p:Nat)]) (ah (ab 1) au)<|by grind)<|ah (ab 2)<|ah a7 au) ⟨R,[p],t,2,rfl,by grind,rfl⟩)<|.int _) B ?_;refine gA (gK<|cw (ab 4) a7) (λN=>?_) λN=>?_
 ·have N:(!decide (cU R [p] t 2=0))=true:=N;have N:cU R [p] t 2≠0:=by grind
  have I:gN R p t l=(R,(cU R [p] t 2,[])):=by unfold gN;grind
  rw[I] at y;exact gL (bE<|aK Y v (ah (ab 4) au) ⟨_,rfl,rfl⟩) ⟨_,rfl,y _ L h⟩
 have N:(!decide (cU R [p] t 2=0))=false:=N;have N:cU R [p] t 2=0:=by grind
 obtain⟨x,X,h',j',_,_⟩:=FJ N;have U:=hR.get X;have e0:gN R p t l=if l.length%2=1\/dJ x.ring (bQ l)=false then(R,(-3,[])) else
  if 64<(cut x.ring<|bQ l).1.length\/64<(cut x.ring<|bQ l).2.length then(R,(-2,[])) else
  (f_ R [p] (bW x) [(cut x.ring<|bQ l).1,(cut x.ring<|bQ l).2] t,(((R.parcels.length:Nat):Int),[bR (cut x.ring<|bQ l).1,bR (cut x.ring<|bQ l).2])):=by
  unfold gN;grind
 obtain⟨a,ch,ha,hc⟩:=h.at X;obtain⟨g1,g2⟩:=h.ay p a ch x ha hc X;have ln:((l.map λ(n:Nat)=>(n:Int)).map Dt.int).length=l.length:=by grind
 refine gA (gK<|cw (C_ (eH (ab 3) G.aX) a7<|by decide) a7) (λD=>?_) λD=>?_
 ·have D:(!decide (((((l.map λ(n:Nat)=>(n:Int)).map Dt.int).length:Int)%2)=0))=true:=D;rw[ln] at D;have D:((l.length:Int)%2)≠0:=by grind
  have I:gN R p t l=(R,(-3,[])):=by grind
  rw[I] at y;exact gL (bE<|aK Y v (ah (cS c3) au) ⟨-3,rfl,rfl⟩) ⟨_,rfl,y _ L h⟩
 have D:(!decide (((((l.map λ(n:Nat)=>(n:Int)).map Dt.int).length:Int)%2)=0))=false:=D;rw[ln] at D;have D:((l.length:Int)%2)=0:=by grind
 refine k9 (i:=5) (d:=dR x.ring) (gM (r8 (gM (bE<|ab 0) h.ff C.r C.r2 rfl) (bE<|ab 1) h.gC<|fM<|rW ha) g1 C.p C.p1 rfl) B ?_;have l':(ni l).length=l.length:=bS _;refine k9 (i:=6) (d:=dR<|bQ l) (bE<|aK h4 v (ah (ab 3) au) ⟨ni l,l.length/2,rfl,by omega,by omega,by rw[Kk]⟩) B ?_;have pl:=CC l;have rl:=U.aX;have bw:=WE g';have br:∀p∈x.ring,Bh p:=λp hp=>(U.nr p hp).h;refine gA (gK<|m9<|dD<|aK h5 T (ah (ab 5)<|ah (ab 6) au) ⟨x.ring,bQ l,rfl,by omega,by omega,br,bw,rfl⟩) (λhw=>?_) λhw=>?_
 ·have hw:dJ x.ring (bQ l)=false:=by grind
  have I:gN R p t l=(R,(-3,[])):=by grind
  rw[I] at y;exact gL (bE<|aK Y v (ah (cS c3) au) ⟨-3,rfl,rfl⟩) ⟨_,rfl,y _ L h⟩
 have hw:dJ x.ring (bQ l)=true:=by grind
 have e2:gN R p t l=if 64<(cut x.ring (bQ l)).1.length\/64<(cut x.ring (bQ l)).2.length then(R,(-2,[])) else
  (f_ R [p] (bW x) [(cut x.ring<|bQ l).1,(cut x.ring<|bQ l).2] t,(((R.parcels.length:Nat):Int),[bR (cut x.ring<|bQ l).1,bR (cut x.ring<|bQ l).2])):=by
  grind
 have b':bQ l≠[]:=λq=>by unfold dJ at hw;grind
 obtain⟨k,hk⟩:∃k,k=cut x.ring (bQ l):=⟨_,rfl⟩
 have km:∀z,z∈k.1\/z∈k.2->Bp z:=λz hz=>by
  rw[hk] at hz;rcases IN b' hz with q|q;·exact U.bp z q
  ·exact(bw z q).p
 refine k9 (i:=7) (d:=.a9 [dR k.1,dR k.2]) (bE<|aK h6 e' (ah (ab 5)<|ah (ab 6) au) ⟨x.ring,bQ l,rfl,by omega,br,bw,U.i8,hw,by rw[hk]⟩) B ?_;rw[<-hk] at e2;refine gA (gK (cw (RY (i:=(k.1.length:Nat)) (j:=(k.2.length:Nat)) (jl (be:=[("part",9)]) dR zV Ds [k.1,k.2] (λ_=>true) (λg=>.int (g.length:Nat)) (λg=>[some<|.aD r,some<|.int (p:Nat),some<|.int (t:Nat),some<|cQ l,some<|.int<|cU R [p] t 2,some<|dR x.ring,some<|dR<|bQ l,some<|.a9 [dR k.1,dR k.2],none,some<|dR g])
  (C2<|ab 7) (g_ rfl) (λs H C cl fp=>cG (i:=9) B rfl<|cj rfl) (mI m 9) (λe he=>rfl)
  (λs H C' cl fp g hg=>⟨kF,λ_=>bU (eH (ab 9) G.aX)<|by grind⟩) (by grind) rfl B) G.max rfl) (cS cm))) (λu=>?_) (λu=>?_)
 ·have u:=fB u;have I:gN R p t l=(R,(-2,[])):=by grind
  rw[I] at y;exact gL (bE<|aK Y v (ah (cS c2) au) ⟨-2,rfl,rfl⟩) ⟨_,rfl,y _ L h⟩
 have u:=iC u;have I:gN R p t l=(f_ R [p] (bW x) [k.1,k.2] t,(((R.parcels.length:Nat):Int),[bR k.1,bR k.2])):=by grind
 rw[I] at y;have p':=hR.acts;refine cZ (i4 (i:=8) (oq (R:=λM' d=>d=.int (R.parcels.length:Nat)/\∃L',b7 c M0 M' r (f_ R [p] (bW x) [k.1,k.2] t) L') h8 f' (jk (ah (ab 0) (ah (gQ (ds:=[.int (p:Nat)]) (ah (ab 1) au) (by grind)) (ah (ab 7)<|ah (ab 2) au))))
  ⟨M0,r,R,L,[p],[k.1,k.2],t,.a9 [dR k.1,dR k.2],p,x,rfl,.inl rfl,h,rfl,X,U.ne,λq hq=>?_,by grind,by omega,(by grind)⟩) B) ?_
 ·grind
 rintro M2 k' ⟨d2,⟨rfl,L2,i'⟩,rfl⟩;refine gL (bE (gd (ds:=[.int (R.parcels.length:Nat),.aq [.int<|bR k.1,.int<|bR k.2]]) (ah (ab 8) (ah (jl (be:=[("part",9)]) dR zV Ds [k.1,k.2] (λ_=>true) (λg=>.int<|bR g) (λg=>[some<|.aD r,some<|.int (p:Nat),some<|.int (t:Nat),some<|cQ l,some<|.int<|cU R [p] t 2,some<|dR x.ring,some<|dR<|bQ l,some<|.a9 [dR k.1,dR k.2],some<|.int (R.parcels.length:Nat),some<|dR g])
  (C2<|ab 7) (g_ rfl) (λs H C cl fp=>cG (i:=9) B rfl<|cj rfl) (mI m 9) (λe he=>rfl)
  (λs H C' cl fp g hg=>⟨kF,λ_=>aK h7 S (ah (ab 9) au) ⟨g,rfl,?_,?_,rfl⟩⟩) (by grind) rfl B) au)) gW)) (y _ L2 i')
 ·grind
 grind
def Qs(h:cU R [p,q] t m=0):∃x y,R.parcels[p]?=some x/\R.parcels[q]?=some y/\x.bX=none/\y.bX=none/\R.parcels.length+m<=200/\eL R<=t/\t<=1000000:=by
 unfold cU at h;split at h;·cases h
 ·split at h;·cases h
  ·split at h;·cases h
   ·rename_i d a c;rw[abB,rB,rB,acA,E3,dc] at a;unfold hI at a;cases e:R.parcels[p]? with
    |none=>grind
    |some x=>
     cases b:R.parcels[q]? with
     |none=>grind
     |some y=>rw[e,b] at a;have a:x.bX.isNone=true/\y.bX.isNone=true:=a;exact⟨x,y,rfl,rfl,Aj.mp a.1,Aj.mp a.2,by omega,by omega,by omega⟩
def xV(h:dz g=true):g.length<=64/\∀p∈g,Nr p:=by unfold dz at h;simp only[dc,eg,iu] at h;obtain⟨_,i,f,_⟩:=h;refine⟨i,λp e=>?_⟩;obtain⟨a,b,c,d⟩:=f p e;exact⟨a,b,c,d⟩
def PY(e:c.Perm [(p:Int),(q:Int)])(d:c.Pairwise (·<=·)):c=ni [min p q,max p q]:=by
 refine Al (le:=(·<=·)) (λa b _ _ x y=>by omega) d ?_<|e.trans ?_
 ·show([((min p q:Nat):Int),((max p q:Nat):Int)]).Pairwise (·<=·);grind
 ·show[(p:Int),(q:Int)].Perm [((min p q:Nat):Int),((max p q:Nat):Int)];grind
def HG:bP ["registry","p","q","day","refusal","one","other","ring","number"] ["registry","p","q","day"] (bh<|aF 76):={}
def Tz(c:CL)(C:fX l c)(F:bK l "answer_join" "answer_join" (aF 76) f fd)(G:MG I)(h1:aU j w l I m "refused" 1 (aA l oo))(h3:aU j w l I m "act_refusal" 2 (aA l<|yi c))(h4:aU j w l I m "last_shares" 1 (aA l<|yw c))(h5:aU j w l I m "join_rings" 6 (aA l Kn))(h7:aU j w l I m "twice_area" 2 (aA l rZ))(h8:aU j w l I m "replace_parcels" 3 (dS l<|BA c)):bB j w l I m bC 7 f fd ["registry","p","q","day"] (dS l<|Lf c):=by
 refine kL F HG (λM ds Q⟨_,_,_,_,_,_,_,e,_⟩=>by grind) λk' A b' s H E M ds Q Z⟨M0,r,R,L,p,q,t,ee,h,hR,X,v⟩=>?_;subst ee;have O:=HG.nd;have j':=fu;have o:=Z.cb<|show 1<=6 by decide
 have Y:=Z.cb<|show 2<=6 by decide
 have d':=Z.cb<|show 3<=6 by decide
 obtain⟨t1,c1⟩:=G.c1;obtain⟨t3,c3⟩:=G.c3;obtain⟨t5,c5⟩:=G.c5;refine gA (gK<|cw (ab 1)<|ab 2) (λn=>?_) λn=>?_
 ·have n:=fB n;have B:fV R p q t=(R,(-1,[])):=by unfold fV;grind
  rw[B] at v;exact gL (bE<|aK h1 o (ah (cS c1) au) ⟨-1,rfl,rfl⟩) ⟨_,rfl,v _ L h⟩
 have n:=iC n;have n:p≠q:=by omega
 let a':aG:=[some<|.aD r,some<|.int (p:Nat),some<|.int (q:Nat),some<|.int (t:Nat),none,none,none,none,none]
 let N:aG:=[some<|c6 c R,some<|.int (p:Nat),some<|.int (q:Nat),some<|.int (t:Nat),none,none,none,none,none]
 have V0:Vw l M M0 a' N:=h.vw ⟨.inr<|.inl ⟨rfl,rfl⟩,.inl rfl,.inl rfl,.inl rfl,trivial⟩;refine k9 (i:=4) (d:=.int<|cU R [p,q] t 1) (tZ V0 (aK h3 Y (ah (ab 0)<|ah (gQ (ds:=[.int (p:Nat),.int (q:Nat)]) (ah (ab 1)<|ah (ab 2) au) gW)<|ah (ab 3)<|ah a7 au) ⟨R,[p,q],t,1,rfl,by grind,rfl⟩)<|.int _) O ?_;refine gA (gK<|cw (ab 4) a7) (λD=>?_) λD=>?_
 ·have D:(!decide (cU R [p,q] t 1=0))=true:=D;have D:cU R [p,q] t 1≠0:=by grind
  have B:fV R p q t=(R,(cU R [p,q] t 1,[])):=by unfold fV;grind
  rw[B] at v;exact gL (bE<|aK h1 o (ah (ab 4) au) ⟨_,rfl,rfl⟩) ⟨_,rfl,v _ L h⟩
 have D:(!decide (cU R [p,q] t 1=0))=false:=D;have D:cU R [p,q] t 1=0:=by grind
 obtain⟨x,y,U,T,gx,gy,g',_,_⟩:=Qs D;have J:=hR.get U;have u:=hR.get T;have e0:fV R p q t=if nB (bW x) (bW y)=false then(R,(-5,[])) else match fh x.ring y.ring with
  |none=>(R,(-3,[]))
  |some g=>(f_ R [min p q,max p q] (bW<|if p<q then x else y) [g] t,(((R.parcels.length:Nat):Int),[bR g])):=by
  unfold fV;grind
 obtain⟨a,ch,ha,hc⟩:=h.at U;obtain⟨b,dh,hb,hd⟩:=h.at T;obtain⟨g1,g2⟩:=h.ay p a ch x ha hc U;obtain⟨k1,k2⟩:=h.ay q b dh y hb hd T;refine k9 (i:=5) (d:=.aD a) (r8 (gM (bE<|ab 0) h.ff C.r C.r2 rfl) (bE<|ab 1) h.gC<|fM<|rW ha) O ?_;refine k9 (i:=6) (d:=.aD b) (r8 (gM (bE<|ab 0) h.ff C.r C.r2 rfl) (bE<|ab 2) h.gC<|fM<|rW hb) O ?_;have V1:Vw l M M0 [some (.aD r),some (.int (p:Nat)),some (.int (q:Nat)),some (.int (t:Nat)),some (.int (cU R [p,q] t 1)),some (.aD a),some (.aD b),none,none] [some (c6 c R),some (.int (p:Nat)),some (.int (q:Nat)),some (.int (t:Nat)),none,some (dH c x),some (dH c y),none,none]:=h.vw ⟨.inr<|.inl ⟨rfl,rfl⟩,.inl rfl,.inl rfl,.inl rfl,.inr (by grind),.inr (by grind),trivial⟩
 refine gA (Cp V1<|UG (aK h4 o (ah (ab 5) au) ⟨x,rfl,J.ne,rfl⟩) (aK h4 o (ah (ab 6) au) ⟨y,rfl,u.ne,rfl⟩) Z.Zo) (λhs=>?_) λhs=>?_
 ·have hs:nB (bW x) (bW y)=false:=by grind
  have B:fV R p q t=(R,(-5,[])):=by grind
  rw[B] at v;exact gL (bE<|aK h1 o (ah (cS c5) au) ⟨-5,rfl,rfl⟩) ⟨_,rfl,v _ L h⟩
 have hs:nB (bW x) (bW y)=true:=by grind
 rw[aL<|by grind] at e0;have S:=X x y U T gx gy n;refine k9 (i:=7) (d:=dO<|fh x.ring y.ring) (U9 h5 Z (ot (gM (bE<|ab 5) g1 C.p C.p1 rfl)<|ot (gM (bE<|ab 6) k1 C.p C.p1 rfl) yX) ⟨x.ring,y.ring,rfl,J.aX,u.aX,J.bp,u.bp,J.i8,u.i8,S,rfl⟩) O ?_;cases hj:fh x.ring y.ring with
 |none=>
  rw[hj] at e0;have B:fV R p q t=(R,(-3,[])):=e0;rw[B] at v;refine gA (k:=true) (gK<|vX (d:=dO none)<|ab 7) (λ_=>?_) λq=>by cases q
  exact gL (bE<|aK h1 o (ah (cS c3) au) ⟨-3,rfl,rfl⟩) ⟨_,rfl,v _ L h⟩
 |some g=>
  rw[hj] at e0;have B:fV R p q t=(f_ R [min p q,max p q] (bW (if p<q then x else y)) [g] t,(((R.parcels.length:Nat):Int),[bR g])):=e0;rw[B] at v;refine gA (k:=false) (gK<|vX (d:=dO<|some g)<|ab 7) (λq=>by cases q) λ_=>?_;obtain⟨gg,f',_⟩:=Ld.Gd J.i8 u.i8 S hj;obtain⟨gl,gn⟩:=xV f';have l':=hR.acts;have lp:=(gD.mp U).1;have lq:=(gD.mp T).1;have hz:R.parcels[min p q]?=some (if p<q then x else y):=by grind
  have c':(if p<q then x else y).bd≠[]:=by
   by_cases z:p<q;·rw[aM z];exact J.ne
   ·rw[aL z];exact u.ne
  refine cZ (i4 (i:=8) (oq (R:=λM' d=>d=.int (R.parcels.length:Nat)/\∃L',b7 c M0 M' r (f_ R [min p q,max p q] (bW (if p<q then x else y)) [g] t) L') h8 d' (jk (ah (ab 0) (ah (F4 (ns:=[(p:Int),(q:Int)]) (gQ (ds:=[.int (p:Nat),.int (q:Nat)]) (ah (ab 1)<|ah (ab 2) au) gW) (λi' a1 a2=>PY a1 a2) G.sorted) (ah (gQ (ds:=[dR g]) (ah (ab 7) au)<|by grind)<|ah (ab 3) au))))
   ⟨M0,r,R,L,[min p q,max p q],[g],t,.aq [dR g],min p q,if p<q then x else y,rfl,.inr rfl,h,rfl,hz,c',λk hk=>?_,by grind,by omega,(by grind)⟩) O) ?_
  ·grind
  rintro M2 h' ⟨d2,⟨rfl,L2,e'⟩,rfl⟩;exact gL (bE<|gd (ds:=[.int (R.parcels.length:Nat),.aq [.int<|bR g]]) (ah (ab 8)<|ah (gQ (ah (aK h7 Y (ah (ab 7) au) ⟨g,rfl,by omega,λz hz=>(gn z hz).p,rfl⟩) au)<|by grind) au) gW)<|v _ L2 e'
end Pf
namespace L3
open PySem PySem.Spec PyProof.Rows L2
structure KD(P:a0)(w:aT)(K:ax)(D:aa)(kvs:List (Int×Int)):Prop where
 ex:∃(o:bD)(es:Array Fe)(ep:Nat)(vs:List (bg×af)),K.lookup D=some o/\o.ExactDict/\o.data=.dict es ep/\PySem.KeysOf (cF P w) es/\Pairs (cF P w) es.toList vs/\(vs.map (·.1)).Nodup/\
  ∀i n,(kvs.lookup i=some n)->∃t,l5 vs (.inl i)=some (.int n t)
def Tu(O:X.mg x=some (.ref D))(R:KD X.prog X.w X.K D f)(S:DE X i z (.int j))(N:f.lookup j=some n)(T:Gl X x:=by rfl)(g:(x==("__debug__":ak))=false:=by decide)(M:uB i:=by intro _ _;rfl):DE X (.Subscript (.Name x p) i J) z (.int n):=by obtain⟨o,es,ep,vs,h1,c,h3,h4,Z,Y,U⟩:=R.ex;intro a s l H Q I h;obtain⟨F,cd,q⟩:=h;refine CF MC.lookup M<|bH (Ct (v:=V.ref D) T O rfl g a s l H (λx d=>x=V.ref D/\d=H) I ⟨rfl,rfl⟩) λu B⟨x,d,I1,E,e1,e2⟩=>?_;subst e1 e2;obtain rfl:u=c7 D:=E;refine bH (S a B l d _ I1 ⟨F,cd,λv b e c=>(⟨c,e⟩:Dx X.K (aI F b) v (.int j)/\aW d b)⟩) λiv e⟨y,b,r,C,dy,A⟩=>?_;cases dy;have m:e.heap.get? D=some o:=r.lN D o h1;obtain⟨t,L⟩:=U j n N;refine⟨⟨o,m,c.1⟩,acD (r9 (k:=.inl j) C) (Heap.DictOf.mapOf ⟨o,es,ep,m,c,h3,h4,Z,Y⟩) L ?_⟩;exact⟨.int n,b,r.jb _,⟨t,rfl⟩,q _ b A<|.int n⟩
def OM(i:DE X a c (.int n))(h:DE X b c (.a9 [.int 1,.int 2]))(g:mN .NotIn b=false:=by rfl):DT X (.Compare a [.NotIn] [b] d) c (!(decide (n=1)||decide (n=2))):=
 qA Op i h g λF x y H Q m l k=>by
  cases m;cases l with
  |@a9 t p _ f j=>
   have e:=bu.ints (ns:=[1,2]) j;subst e;refine⟨t,_,rfl,.inr<|et bm f,rfl,rfl,?_⟩;have o:(if true=true then !z4 (V.int n) ([1,2].map V.int) else z4 (V.int n) ([1,2].map V.int))=!(decide (n=1)||decide (n=2)):=by rw[aM rfl];congr 1;show(((1:Int)==n)||(((2:Int)==n)||false))=_;grind
   rw[o];exact k _ H (aW.refl H)<|.bl _
def S3(e:X.mg x=some (.ref T))(h:∀H,cV X.K H T b)(g:∀H,bu X.K H b i)(f:Gl X x:=by rfl)(a:(x==("__debug__":ak))=false:=by decide):DE X (.Name x d) l (.a9 i):=PE.aN (Ct (v:=V.ref T) f e rfl a) λj H Q⟨F,c,k⟩=>k _ H (aW.refl H)<|.a9 (h _)<|g _
end L3
namespace Pf
open PySem PySem.Spec PyProof.Rows L2 L3
open Sy(Pt Ring area)
structure CD where
 cC:aa
 cD:aa
structure uH(K:ax)(e:CD):Prop where
 c:ju K e.cC
 c1:fe K e.cC "number"
 c2:fe K e.cC "numbers"
 c3:fe K e.cC "row"
 c4:fe K e.cC "behind"
 d:ju K e.cD
 d1:fe K e.cD "registry"
structure mF where
 bY:Nat
 bT:List Nat
 d8:List Nat
 hG:Nat
def r_(e:CD)(x:mF):Dt:=.bA e.cC [("number",.int (x.bY:Nat)),("numbers",cQ x.bT),("row",cQ x.d8),("behind",.int (x.hG:Nat))]
def oJ:List (Int×Int):=[(1,2),(2,2),(3,3),(4,6),(5,0),(6,1),(7,3),(8,1),(9,2),(10,2),(11,2),(12,0)]
structure Mz(P:a0)(w:aT)(K:ax)(mg:ak->Option af):Prop where
 d8:∃T,mg "CALLS_WITH_ROW"=some (.ref T)/\∀H,cV K H T [.int 1,.int 2]
 args:∃D,mg "ARGUMENTS"=some (.ref D)/\KD P w K D oJ
def Cg(e:CD)(M:Mh)(a:List Dt)(Q:Mh->Dt->Prop):Prop:=∃(q:aa)(x:mF),a=[.aD q,.int (x.bY:Nat),cQ x.bT,cQ x.d8,.int (x.hG:Nat)]/\M q=some (.ob (.bA e.cC []))/\Q (bo M q (.ob (r_ e x))) .aS
def nh(d:Dt):List (ak×Dt):=[("registry",d)]
def JF(e:CD)(M:Mh)(a:List Dt)(Q:Mh->Dt->Prop):Prop:=∃(q:aa),a=[.aD q]/\M q=some (.ob (.bA e.cD []))/\Q (bo M q (.ob (.bA e.cD (nh .aS)))) .aS
def pu(o t:Nat)(g:List Pt):aZ:=⟨t,[jP t [] [((o:Nat),1)] g],[]⟩
def K9(c:CL)(M:Mh)(d:List Dt)(Q:Mh->Dt->Prop):Prop:=∃(a:Mh)(r:aa)(o t:Nat)(g:List Pt),d=[.aD r,.int (o:Nat),.int (t:Nat),dR g]/\a r=none/\M=bo a r (.ob (.bA c.cR []))/\∀b e,b7 c a b r (pu o t g) e->Q b .aS
def pB(n:Int)(l:List Int):List Int:=if l.length=0 then[1,n] else[(l.length:Int)+3,n,(l.length:Int)]++l++[0]
def Kd:List Dt->Dt->Prop:=λa d=>∃(n:Int)(l:List Int),a=[.int n,lL l]/\l.length<=2000000/\d=lL (pB n l)
def m8(n:Nat):Bool:=decide (n=1)||decide (n=2)
def gk(a:List Nat)(p n k z:Nat):mF:=if m8 n=true then⟨n,(a.drop<|p+1).take k,(a.drop<|p+1+k+1).take z,p+1+k+1+z⟩ else⟨n,(a.drop<|p+1).take k,[],p+1+k⟩
def Ku(e:CD):List Dt->Dt->Prop:=λb d=>∃(a:List Nat)(p n k z:Nat),b=[.ip (ni a),.int (p:Nat)]/\a[p]?=some n/\oJ.lookup (n:Int)=some (k:Int)/\(m8 n=true->a[p+1+k]?=some z)/\d=r_ e (gk a p n k z)
def UK:bP ["number","found"] ["number","found"] (bh<|aF 116):={}
def Vc(F:bK b "told" "told" (aF 116) f o)(G:MG k):bB a w b k j bC 1 f o ["number","found"] (aA b Kd):=by
 refine cN F UK (λg d⟨n,l,e,_⟩=>by grind) λq A i s H E g d r⟨n,l,e,t,p⟩=>?_;subst e p;have m:=fu;have c:(l.map Dt.int).length=l.length:=bS _;refine eS (cw (eH (ab 1) G.aX) a7) (λh=>?_) λh=>?_
 ·have h:=fB h;rw[c] at h;have e:pB n l=[1,n]:=aM<|by omega
  rw[e];exact bb<|bj<|gQ (ds:=[.int 1,.int n]) (ah a7<|ah (ab 0) au) gW
 ·have h:=iC h;rw[c] at h;have e:pB n l=[(l.length:Int)+3,n,(l.length:Int)]++l++[0]:=aL<|by omega
  rw[e];refine bb<|bj<|bU (lm (lm (gQ (ds:=[.int<|(l.length:Int)+3,.int n,.int (l.length:Int)]) (ah (bU (jm (eH (ab 1) G.aX) a7)<|by rw[c])<|ah (ab 0)<|ah (bU (eH (ab 1) G.aX)<|by rw[c]) au)<|by grind) (ab 1)<|by grind) (gQ (ds:=[.int 0]) (ah a7 au)<|by grind)<|by grind) ?_;unfold lL;grind
def SY:bP ["self","number","numbers","row","behind"] ["self","number","numbers","row","behind"] (bh<|ki (aF 109) 0):={}
def RX(e:CD)(C:uH b e)(F:bK b "__init__" "Call.__init__" (ki (aF 109) 0) f j):bB a w b n g bC 1 f j ["self","number","numbers","row","behind"] (dS b<|Cg e):=by refine kL F SY (λM l Q⟨q,x,e,_⟩=>by grind) λm A d s H E M l Q o⟨q,x,k,i,h⟩=>?_;subst k;refine jL (bE<|ab 1) (bE<|ab 0) i C.c C.c1 (by decide) rfl ?_;refine jL (bE<|ab 2) (bE<|ab 0) bL C.c C.c2 (by show 1<1000;decide) rfl ?_;rw[fi];refine jL (bE<|ab 3) (bE<|ab 0) bL C.c C.c3 (by show 2<1000;decide) rfl ?_;rw[fi];refine jL (bE<|ab 4) (bE<|ab 0) bL C.c C.c4 (by show 3<1000;decide) rfl ?_;rw[fi];exact fj h
def Sc:bP ["self"] ["self"] (bh<|ki (aF 110) 0):={}
def Tl(e:CD)(C:uH b e)(F:bK b "__init__" "Desk.__init__" (ki (aF 110) 0) f j):bB a w b n g bC 1 f j ["self"] (dS b<|JF e):=by refine kL F Sc (λM l Q⟨q,e,_⟩=>by grind) λm A c s H E M l Q o⟨q,k,i,h⟩=>?_;subst k;refine jL (bE r4) (bE<|ab 0) i C.d C.d1 (by decide) rfl ?_;exact fj h
def Us:bP ["self","owner","day","ring"] ["self","owner","day","ring"] (bh<|ki (aF 26) 0):={}
def Va(c:CL)(C:fX j c)(F:bK j "__init__" "Registry.__init__" (ki (aF 26) 0) f fd)(h2:lG h w j Z y "Parcel" c.cP 1 (dS j<|y_ c)):bB h w j Z y bC 3 f fd ["self","owner","day","ring"] (dS j<|K9 c):=by
 refine kL F Us (λM I Q⟨_,_,_,_,_,e,_⟩=>by grind) λa' A J s H E M I Q hr⟨M0,r,o,t,g,ee,h0,hM,hQ⟩=>?_;subst ee hM;refine jL (bE<|ab 2) (bE<|ab 0) bL C.r C.r1 (by decide) rfl ?_;rw[fi];refine tT (TQ<|Kh c h2 hr (ring:=g) (t:=t) (eW:=[]) (sh:=[((o:Nat),1)])<|ot (bE<|ab 3)<|ot (bE<|ab 2)<|ot (bE<|gQ (ds:=[]) au)<|ot (B1<|Sl (ab 1)<|gd (ds:=[.int 1,.int 1]) (ah a7<|ah a7 au) gW) yX) ?_;rintro M1 d ⟨M2,d2,p,⟨a,v,O,N,hn,rfl,rfl⟩,m,rfl,rfl⟩;have D:a≠r:=λz=>by rw[z,bL] at O;cases O
 have B:v≠r:=λz=>by rw[z,bL] at N;cases N
 rw[ba D] at O;rw[ba B] at N;have T:p≠a:=λz=>by rw[z,bL] at m;cases m
 rw[ba T] at m;have S:p≠v:=λz=>by rw[z,bL] at m;cases m
 rw[ba S] at m;have q:p≠r:=λz=>by rw[z,bL] at m;cases m
 rw[ba q] at m;refine⟨r,c.cR,_,bE<|ab 0,by rw[ba<|ci q,ba<|ci D,ba<|ci B];exact bL,C.r,C.r2,by show 1<1000;decide,?_⟩;refine tT (rT (ds:=[]) au) ?_;rintro M3 d ⟨l,k,rfl,rfl⟩;have u:l≠r:=λz=>by rw[z,bL] at k;cases k
 rw[ba u] at k;have L:l≠p:=λz=>by rw[z,bL] at k;cases k
 rw[ba L] at k;have X:l≠a:=λz=>by rw[z,bL] at k;cases k
 rw[ba X] at k;have U:l≠v:=λz=>by rw[z,bL] at k;cases k
 rw[ba U,ba u] at k;refine⟨r,c.cR,_,bE<|ab 0,by rw[ba<|ci u];exact bL,C.r,C.r3,by show 2<1000;decide,?_⟩;refine fj<|hQ _ ⟨p,l,[a],[v]⟩ ⟨⟨ci q,ci u,ci L,by grind,by grind,by grind,by grind,by grind,by grind,by simp,by simp,by grind⟩,?_,?_,?_,?_,?_,rfl,rfl,?_⟩
 ·intro b n;have R:b≠r/\b≠p/\b≠l/\b≠a/\b≠v:=by refine⟨λz=>n<|cx.mpr<|.inl z,λz=>n<|cx.mpr<|.inr<|.inl z,λz=>n<|cx.mpr<|.inr<|.inr<|.inl z,λz=>n (cx.mpr<|by grind),λz=>n<|cx.mpr<|by grind⟩
  obtain⟨b1,b2,b3,b4,b5⟩:=R;rw[ba b1,ba b3,ba b1,ba b2,ba b4,ba b5,ba b1]
 ·intro b n;rcases cx.mp n with z|z|z|z|z;·grind
  ·grind
  ·grind
  ·grind
  grind
 ·rw[bL];rfl
 ·rw[ba q,ba<|ci L,ba q,bL];rfl
 ·rw[ba u,bL];rfl
 ·intro i b dh x R g2 g3;have hi:i=0:=by grind
  subst hi;cases R;cases g2;cases g3;exact⟨by rw[ba D,ba<|ci X,ba D,ba<|ci T,bL],by rw[ba B,ba<|ci U,ba B,ba<|ci S,ba hn,bL]⟩
def G_(d:CD)(h:lG X.prog X.w X.K X.mg X.ai "Call" d.cC 1 (dS X.K<|Cg d))(g:dn 2 X.A)(l:RA X (e::a) M f [.int (x.bY:Nat),cQ x.bT,cQ x.d8,.int (x.hG:Nat)])(j:Gl X "Call":=by rfl)(k:aB (e::a) X.ae=(false,aO e X.ae)::aB a X.ae:=by rfl)(c:(eK b<|aB a X.ae).any (·.1)=false:=by rfl):
 RE X (.Call (.Name "Call" p) (e::a) [] b) M f (r_ d x):=
 B1 (yN h g l (λq i=>⟨q,x,rfl,bL,rfl,q,i,by rw[fi],rfl⟩) j (by decide) k c)
def Lc(a:List Nat)(i j:Nat):((dL (ni a) (some (i:Int))<|some (j:Int)).map Dt.int)=(ni<|(a.drop i).take<|j-i).map .int:=by rw[UT];unfold ni;simp
def Lv{n:Nat}(h:a[i]?=some n):e5 (ni a) ((i:Nat):Int)=some (n:Int):=fM<|by unfold ni;grind
def IR:bP ["calls","place","number","behind","numbers","size"] ["calls","place"] (bh<|aF 111):={}
def Ut(d:CD)(F:bK b "read_call" "read_call" (aF 111) f O)(v:Mz a w b q)(t:lG a w b q g "Call" d.cC 1 (dS b<|Cg d)):bB a w b q g bC 3 f O ["calls","place"] (aA b<|Ku d):=by
 refine pS F IR (λu d⟨_,_,_,_,_,e,_⟩=>by grind) λU A l s H E u S M r⟨c,p,n,k,z,e,C,I,m,R⟩=>?_;subst e R;have j:=IR.nd;obtain⟨T,L,y⟩:=v.d8;obtain⟨D,N,B⟩:=v.args;have J:∀H,bu b H [V.int 1,V.int 2] [.int 1,.int 2]:=λH=>.cons (.int 1)<|.cons (.int 2) .nil;refine gR (c_ (i:=2) (d:=.int (n:Nat)) (K8 (ab 0) (ab 1)<|Lv C) j) ?_;refine gR (c_ (i:=3) (d:=.int ((p+1+k:Nat):Int)) (bU (jm (jm (ab 1) a7)<|Tu N B (ab 2) I)<|by rfl) j) ?_;refine gR (c_ (i:=4) (d:=cQ<|(c.drop<|p+1).take k) (bU (GX (ab 0) (gB (i:=((p+1:Nat):Int))<|bU (jm (ab 1) a7)<|by rfl)<|gB<|ab 3)<|by rw[Lc,show p+1+k-(p+1)=k by omega];rfl) j) ?_;have Q:(!(decide ((n:Int)=1)||decide ((n:Int)=2)))=!m8 n:=by
  unfold m8;congr 2;·grind
  grind
 refine gA (gK<|cW (OM (ab 2)<|S3 L y J) Q) (λh=>?_) λh=>?_
 ·have h:m8 n=false:=by grind
  have o:gk c p n k z=⟨n,(c.drop (p+1)).take k,[],p+1+k⟩:=by unfold gk;grind
  rw[o];exact gL (G_ d t r (x:=⟨n,(c.drop<|p+1).take k,[],p+1+k⟩)<|jk<|ah (ab 2)<|ah (ab 4)<|ah (gQ (ds:=[]) au)<|ah (ab 3) au) ⟨_,rfl,rfl,rfl⟩
 ·have h:m8 n=true:=by grind
  have m:=m h;have o:gk c p n k z=⟨n,(c.drop (p+1)).take k,(c.drop (p+1+k+1)).take z,p+1+k+1+z⟩:=by unfold gk;grind
  rw[o];refine gR (c_ (i:=5) (d:=.int (z:Nat)) (K8 (ab 0) (ab 3)<|Lv m) j) ?_;exact gL (G_ d t r (x:=⟨n,(c.drop<|p+1).take k,(c.drop<|p+1+k+1).take z,p+1+k+1+z⟩)<|jk<|ah (ab 2)<|ah (ab 4)<|ah (bU (GX (ab 0) (gB (i:=((p+1+k+1:Nat):Int))<|bU (jm (ab 3) a7)<|by rfl)<|gB (i:=((p+1+k+1+z:Nat):Int))<|bU (jm (jm (ab 3) a7)<|ab 5)<|by rfl)<|by rw[Lc,show p+1+k+1+z-(p+1+k+1)=z by omega];rfl)<|ah (bU (d':=.int ((p+1+k+1+z:Nat):Int)) (jm (jm (ab 3) a7)<|ab 5)<|by rfl) au) ⟨rfl,rfl⟩
def kJ(c:CL)(e:CD)(a M:Mh)(k:aa)(S:Option aZ):Prop:=a k=none/\match S with
 |none=>M=bo a k (.ob<|.bA e.cD<|nh .aS)
 |some R=>∃r L,b7 c (bo a k (.ob (.bA e.cD (nh (.aD r))))) M r R L
def lD(S:Option aZ)(o t:Nat)(l:List Nat):Option aZ×An:=if 1000<o\/1000000<t\/l.length%2=1 then(S,(-1,[])) else if dz (bQ l)=false then(S,(-3,[])) else(some<|pu o t<|bQ l,(0,[bR<|bQ l]))
def Kt(c:CL)(e:CD)(M:Mh)(d:List Dt)(Q:Mh->Dt->Prop):Prop:=∃(a:Mh)(k:aa)(S:Option aZ)(o t:Nat)(l:List Nat),d=[.aD k,.int (o:Nat),.int (t:Nat),cQ l]/\kJ c e a M k S/\l.length<=200/\(∀n∈l,n<=4294967295)/\
 ∀b,kJ c e a b k (lD S o t l).1->Q b (iP (lD S o t l).2)
def B6(h:kJ c e b M k S):∃d,M k=some (.ob (.bA e.cD (nh d)))/\(S=none->d=.aS)/\∀R,S=some R->∃r L,d=.aD r/\b7 c (bo b k (.ob (.bA e.cD (nh (.aD r))))) M r R L:=by
 obtain⟨f,h⟩:=h;cases S with
 |none=>have h:M=_:=h;exact⟨.aS,by rw[h];exact bL,(λ_=>rfl),(λR q=>by cases q)⟩
 |some R=>
  obtain⟨r,L,h⟩:=h;have a:k∉fC r L:=λz=>by have:=h.fr k z;rw[bL] at this;grind
  exact⟨.aD r,by rw[h.out k a];exact bL,(λq=>by cases q),(by grind)⟩
def b7.frame{c:CL}{n M M1 e:Mh}{r:aa}{R:aZ}{L:jd}(h:b7 c n M r R L)(j:∀b∈fC r L,M1 b=none)(d:∀b∈fC r L,e b=M b)(g:∀b,b∉fC r L->e b=M1 b):b7 c M1 e r R L where
 bJ:=h.bJ
 out:=g
 fr:=j
 ff:=by rw[d r<|cx.mpr<|.inl rfl];exact h.ff
 gC:=by rw[d _<|cx.mpr<|.inr<|.inl rfl];exact h.gC
 js:=by rw[d _<|cx.mpr<|.inr<|.inr<|.inl rfl];exact h.js
 la:=h.la
 lc:=h.lc
 ay:=λi a f x m l k=>by rw[d a (cx.mpr<|by grind),d f<|cx.mpr<|by grind];exact h.ay i a f x m l k
def Jw:bP ["desk","owner","day","numbers","ring"] ["desk","owner","day","numbers"] (bh<|aF 112):={}
def T9(c:CL)(C:fX g c)(e:CD)(Ce:uH g e)(F:bK g "answer_open" "answer_open" (aF 112) f fd)(G:MG y)(h1:aU a w g y j "refused" 1 (aA g oo))(h4:aU a w g y j "points_of" 1 (aA g BZ))(h5:aU a w g y j "may_be" 5 (aA g DK))(h6:lG a w g y j "Registry" c.cR 3 (dS g<|K9 c))(h7:aU a w g y j "twice_area" 2 (aA g rZ)):bB a w g y j bC 6 f fd ["desk","owner","day","numbers"] (dS g<|Kt c e):=by
 refine kL F Jw (λM ds Q⟨_,_,_,_,_,_,e,_⟩=>by grind) λa' A x s H E M ds Q T⟨M0,k,S,o,t,l,ee,h,d',e',D⟩=>?_;subst ee;have nd:=Jw.nd;have B:=T.cb<|show 1<=5 by decide
 have Z:=T.cb<|show 2<=5 by decide
 have Y:=T.cb<|show 4<=5 by decide
 obtain⟨t1,c1⟩:=G.c1;obtain⟨t3,c3⟩:=G.c3;obtain⟨tm,cm⟩:=G.be;obtain⟨td,cd⟩:=G.day;have ln:((l.map λ(n:Nat)=>(n:Int)).map Dt.int).length=l.length:=by grind
 refine gA (gK<|cW (ke (cw (ab 1)<|cS cm) λ_=>ke (cw (ab 2)<|cS cd) λ_=>mh<|cw (C_ (eH (ab 3) G.aX) a7<|by decide) a7).dt<|show _=decide (1000<o\/1000000<t\/l.length%2=1) from ?_) (λJ=>?_) λJ=>?_
 ·rw[ln];show(decide ((1000:Int)<(o:Int))||(decide ((1000000:Int)<(t:Int))||!decide (((l.length:Int)%2)=0)))=_;grind
 ·have J:=fB J;have N:lD S o t l=(S,(-1,[])):=by unfold lD;grind
  rw[N] at D;exact gL (bE<|aK h1 B (ah (cS c1) au) ⟨-1,rfl,rfl⟩) ⟨_,rfl,D _ h⟩
 have J:=iC J;have b':(ni l).length=l.length:=bS _;have pl:=CC l;refine k9 (i:=4) (d:=dR<|bQ l) (bE<|aK h4 B (ah (ab 3) au) ⟨ni l,l.length/2,rfl,by omega,by omega,by rw[Kk]⟩) nd ?_;refine gA (gK<|m9<|dD<|aK h5 T (ah (ab 4) au) ⟨bQ l,rfl,by omega,rfl⟩) (λhw=>?_) λhw=>?_
 ·have hw:dz (bQ l)=false:=by grind
  have N:lD S o t l=(S,(-3,[])):=by unfold lD;grind
  rw[N] at D;exact gL (bE<|aK h1 B (ah (cS c3) au) ⟨-3,rfl,rfl⟩) ⟨_,rfl,D _ h⟩
 have hw:dz (bQ l)=true:=by grind
 have N:lD S o t l=(some (pu o t (bQ l)),(0,[bR (bQ l)])):=by unfold lD;grind
 rw[N] at D;obtain⟨dk,hk,g',f'⟩:=B6 h;refine tT (yN (R:=λM1 d=>∃r L,M r=none/\d=.aD r/\b7 c M M1 r (pu o t (bQ l)) L) h6 Y (jk (ah (ab 1) (ah (ab 2) (ah (ab 4) au)))) λq hq=>⟨M,q,o,t,bQ l,rfl,hq,rfl,(by grind)⟩) ?_;rintro M1 d ⟨r,L,c',rfl,u⟩;have I:k∉fC r L:=λz=>by have:=u.fr k z;grind
 refine⟨k,e.cD,nh dk,bE<|ab 0,by rw[u.out k I];exact hk,Ce.d,Ce.d1,by show 1<1000;decide,?_⟩;have e2:ny "registry" (.aD r) (nh dk)=nh (.aD r):=rfl;rw[e2];have fin:∀M4,kJ c e M0 M4 k (some (pu o t (bQ l)))->cf (mr bC a w g y j ["desk","owner","day","numbers","ring"] "answer_open" (bh (aF 112)) f a' A x s H E).oM ((iF (aF 112)).drop 4) M4 [some (.aD k),some (.int (o:Nat)),some (.int (t:Nat)),some (cQ l),some (dR (bQ l))] λM' o=>match o with|.nx _=>Q M' .aS|.rt d=>Q M' d:=λM4 h4=>by obtain⟨gl,gn⟩:=xV hw;exact gL (bE<|gd (ds:=[.int 0,.aq [.int<|bR<|bQ l]]) (ah a7<|ah (gQ (ah (aK h7 Z (ah (ab 4) au) ⟨bQ l,rfl,by omega,λz hz=>(gn z hz).p,rfl⟩) au)<|by show 1<=bx;decide) au) gW)<|D _ h4
 obtain⟨h0,h⟩:=h;cases S with
 |none=>
  have h:M=_:=h;refine fin _ ⟨h0,r,L,u.frame (λb m=>?_) (λb m=>ba<|gX m I) λb m=>?_⟩
  ·have v:=gX m I;have:=u.fr b m;rw[h,ba v] at this;rw[ba v];omega
  ·by_cases q:b=k;·rw[q,bL,bL]
   ·rw[ba q,ba q,u.out b m,h,ba q]
 |some R0=>
  obtain⟨O,U,h⟩:=h;refine BX (fC O U)<|fin _ ⟨h0,r,L,u.frame (λb m=>?_) (λb m=>?_) λb m=>?_⟩
  ·have v:=gX m I;have X:b∉fC O U:=(h.new<|u.fr b m).1;have:=u.fr b m;rw[h.out b X,ba v] at this;rw[ba v];omega
  ·have X:b∉fC O U:=(h.new<|u.fr b m).1;unfold lC;rw[aL X];exact ba<|gX m I
  ·unfold lC;by_cases z:b∈fC O U
   ·rw[aM z];have:=h.fr b z;have v:b≠k:=λq=>by rw[q,bL] at this;grind
    rw[ba v] at this;rw[ba v];grind
   ·rw[aL z];by_cases q:b=k;·rw[q,bL,bL]
    ·rw[ba q,ba q,u.out b m,h.out b z,ba q]
end Pf
namespace L3
open PySem PySem.Spec PyProof.Rows L2
def zU(K:ax)(T:Mh->Mh->List Dt->(Mh->Dt->Prop)->Prop):Sp:=λf H Q _=>∃e M c P,bu K (aI (aE M) H) f c/\Mm K M H/\T e M c P/\
 ∀v a b d,P b d->aW (aI (aE M) H) (aI (aE b) a)->Mm K b a->Dx K (aI (aE e) a) v d->Q v a
def ZO(K:ax)(M:Mh)(e:aG)(f:Mh)(P:Mh->Dt->Prop):TS:=λD c H=>Cm K M H c e/\∀v a b d,P b d->aW (aI (aE M) H) (aI (aE b) a)->Mm K b a->Dx K (aI (aE f) a) v d->D.rt v a
def wS(X:Cx)(a:List cv)(M:Mh)(b:aG)(c:Mh)(P:Mh->Dt->Prop):Prop:=dr X a<|ZO X.K M b c P
def zh{a:Mh}{M c:Mh}{H:Hp}(h:∀b,aE a b=true->aE c b=true):aW (aI (aE c) H) (aI (aE a) H):=λb o e=>by unfold aI at e ⊢;grind
def Dr(h:cf X a M g λf o=>∃d,o=.rt d/\c f d)(k:∀f d,c f d->∀b,aE j b=true->aE f b=true):wS X a M g j c:=dr.aN h λD n H⟨i,q⟩=>⟨i,(by grind),λv l f d⟨r,e,p⟩s m x=>by cases e;exact q v l f d p s m<|x.same<|zh (M:=M)<|k f d p⟩
def BP(l:RT X c M e false)(k:wS X a M e w b):wS X (.If c A [] f::a) M e w b:=by
 have n:MS X (.If c A [] f) M e λg o=>g=M/\o=.nx e:=C0 l (λq=>by cases q) λ_=>fj ⟨rfl,rfl⟩;refine dr.aN (rN n k) λD z H⟨u,q⟩=>⟨u,λh B g i⟨t,r⟩s c=>?_,(by grind)⟩
 subst t;cases r;exact⟨c,λv y M2 d p j m x=>q v y M2 d p (s.trans j) m x⟩
def Sd(V:∀H c,Cm X.K M H c i->Cd X.K (aE g) H c ρ')(h:DE X e ρ' d)(p:b M d):wS X (.Return (some e) j::a) M i g b:=dr.aN (rN (Dc h) qr) λD c H⟨f,q⟩=>⟨aE g,V H c f,λv k s x=>q v k M d p (ca s) (f.mm.same s) x⟩
def YZ(F:bK e x j b f L)(S:bP N u (bh b))(I:∀o M l Q,T o M l Q->l.length=u.length)(n:∀(i:af)(A:b8)(g:List fA)(s:am)(H:Hp)(E:XK)(o M:Mh)(l:List Dt)(Q:Mh->Dt->Prop),dn k (A.deeper (mV j (bh b) s.heap.objs.size f i))->T o M l Q->
 wS (mr bC c w e C r N j (bh b) f i A g s H E).oM (iF b) M (sr N l) o Q):bB c w e C r bC (k+1) f L u (zU e T):=by
 refine F.ok S (λz H Q E⟨o,M,l,R,a,_,t,_⟩=>by rw[a.length];grind) λi A g s H z Q E J h=>?_;obtain⟨o,M,l,R,a,m,t,q⟩:=h;exact⟨_,n i A g s H E o M l R J t,⟨m,vD m.tr a⟩,λv U O d p B D y=>q v U O d p B D y⟩
end L3
namespace Pf
open PySem PySem.Spec PyProof.Rows L2 L3
open Sy(Pt Ring area)
def iO(R:aZ)(n:Nat)(l a:List Nat):aZ×An:=if n=2 then gN R (l.getD 0 0) (l.getD 1 0) a else if n=3 then fV R (l.getD 0 0) (l.getD 1 0) (l.getD 2 0) else if n=4 then hJ R (l.getD 0 0) (l.getD 1 0) (l.getD 2 0) (l.getD 3 0) (l.getD 4 0) (l.getD 5 0) else ly R
structure MA(R:aZ):Prop where
 nH:∀(p q:Nat)(x y:cg),R.parcels[p]?=some x->R.parcels[q]?=some y->x.bX=none->y.bX=none->p≠q->Ld.iR x.ring y.ring
 sA:∀a,R.acts.getLast?=some a->zH R a
def L0(n:Nat):Nat:=if n=1 then 2 else if n=2 then 2 else if n=3 then 3 else if n=4 then 6 else if n=6 then 1 else if n=7 then 3 else if n=8 then 1 else if n=9 then 2 else if n=10 then 2 else if n=11 then 2 else 0
structure qS(x:mF):Prop where
 lo:1<=x.bY
 hi:x.bY<=12
 aX:x.bT.length=L0 x.bY
 nb:∀n∈x.bT,n<=4294967295
 rl:x.d8.length<=200
 rb:∀n∈x.d8,n<=4294967295
def Lp(c:CL)(M:Mh)(d:List Dt)(Q:Mh->Dt->Prop):Prop:=∃(a:Mh)(r:aa)(R:aZ)(L:jd)(x:mF),d=[.aD r,.int (x.bY:Nat),cQ x.bT,cQ x.d8]/\b7 c a M r R L/\kl R/\MA R/\qS x/\2<=x.bY/\x.bY<=5/\
 ∀b e,b7 c a b r (iO R x.bY x.bT x.d8).1 e->Q b (iP (iO R x.bY x.bT x.d8).2)
def eV(S:Option aZ)(x:mF):Option aZ×An:=
 if x.bY=1 then lD S (x.bT.getD 0 0) (x.bT.getD 1 0) x.d8 else match S with
 |none=>(none,(-8,[]))
 |some R=>if x.bY<=5 then(some (iO R x.bY x.bT x.d8).1,(iO R x.bY x.bT x.d8).2) else(some R,aQ R x.bY x.bT)
structure D8(S:Option aZ)(x:mF):Prop where
 ff:∀R,S=some R->kl R/\MA R/\(x.bY=10->wj R (x.bT.getD 0 0) (x.bT.getD 1 0))
def Jz(c:CL)(e:CD)(b M:Mh)(f:List Dt)(Q:Mh->Dt->Prop):Prop:=∃(k:aa)(S:Option aZ)(x:mF),f=[.aD k,r_ e x]/\kJ c e b M k S/\qS x/\D8 S x/\
 (∀a d,Q a d->kJ c e b a k (eV S x).1)/\∀a,kJ c e b a k (eV S x).1->Q a (iP (eV S x).2)
def WU:bP ["registry","number","numbers","row"] ["registry","number","numbers","row"] (bh<|aF 113):={}
def V_(c:CL)(F:bK b "answer_act" "answer_act" (aF 113) f fd)(G:z6 o)(h1:aU a w b o g "answer_split" 7 (dS b<|Jb c))(h2:aU a w b o g "answer_join" 7 (dS b<|Lf c))(Z:aU a w b o g "answer_give" 5 (dS b<|Kl c))(Y:aU a w b o g "answer_undo" 2 (dS b<|Kr c)):
 bB a w b o g bC 8 f fd ["registry","number","numbers","row"] (dS b<|Lp c):=by
 refine kL F WU (λM ds Q⟨_,_,_,_,_,e,_⟩=>by grind) λa' A z s H E M ds Q t⟨u,r,R,L,x,ee,h,I,O,B,n2,n5,m⟩=>?_;subst ee;have C:=t.cb<|show 5<=7 by decide
 have D:=t.cb<|show 2<=7 by decide
 obtain⟨t2,g2⟩:=G.n2;obtain⟨t3,g3⟩:=G.n3;obtain⟨t4,g4⟩:=G.n4;have j:∀{X:Cx}{J:aG}{v N S:bf}{y:ak}{i T:Nat},DE X (.Name y N) J (cQ x.bT)->i<x.bT.length->DE X (.Subscript (.Name y N) (.Constant (.int (i:Nat)) T S) v) J (.int ((x.bT.getD i 0:Nat):Int)):=λU h=>dG U a7<|zk h;have l:=B.aX;refine gA (gK<|cW (cw (ab 1)<|cS g2)<|Ca x.bY 2) (λq=>?_) λq=>?_
 ·have q:=fB q;rw[q] at l;have l:x.bT.length=2:=l;have n:iO R x.bY x.bT x.d8=gN R (x.bT.getD 0 0) (x.bT.getD 1 0) x.d8:=by unfold iO;grind
  rw[n] at m;refine tS (R:=λk d=>Q k d) (oq h1 t (jk<|ah (ab 0)<|ah (j (i:=0) (ab 2)<|by omega)<|ah (j (i:=1) (ab 2)<|by omega)<|ah (ab 3) au) ⟨u,r,R,L,_,_,x.d8,rfl,h,I,B.rl,B.rb,m⟩) λk d p=>⟨d,rfl,p⟩
 have q2:=iC q;refine gA (gK<|cW (cw (ab 1)<|cS g3)<|Ca x.bY 3) (λq=>?_) λq=>?_
 ·have q:=fB q;rw[q] at l;have l:x.bT.length=3:=l;have n:iO R x.bY x.bT x.d8=fV R (x.bT.getD 0 0) (x.bT.getD 1 0) (x.bT.getD 2 0):=by unfold iO;grind
  rw[n] at m;refine tS (R:=λk d=>Q k d) (oq h2 t (jk<|ah (ab 0)<|ah (j (i:=0) (ab 2)<|by omega)<|ah (j (i:=1) (ab 2)<|by omega)<|ah (j (i:=2) (ab 2)<|by omega) au) ⟨u,r,R,L,_,_,_,rfl,h,I,O.nH _ _,m⟩) λk d p=>⟨d,rfl,p⟩
 have q3:=iC q;refine gA (gK<|cW (cw (ab 1)<|cS g4)<|Ca x.bY 4) (λq=>?_) λq=>?_
 ·have q:=fB q;rw[q] at l;have l:x.bT.length=6:=l;have n:iO R x.bY x.bT x.d8=hJ R (x.bT.getD 0 0) (x.bT.getD 1 0) (x.bT.getD 2 0) (x.bT.getD 3 0) (x.bT.getD 4 0) (x.bT.getD 5 0):=by unfold iO;grind
  rw[n] at m;refine tS (R:=λk d=>Q k d) (oq Z C (jk<|ah (ab 0)<|ah (j (i:=0) (ab 2)<|by omega)<|ah (j (i:=1) (ab 2)<|by omega)<|ah (j (i:=2) (ab 2)<|by omega)<|ah (j (i:=3) (ab 2)<|by omega)<|ah (j (i:=4) (ab 2)<|by omega)<|ah (j (i:=5) (ab 2)<|by omega) au) ⟨u,r,R,L,_,_,_,_,_,_,rfl,h,I,m⟩) λk d p=>⟨d,rfl,p⟩
 have q4:=iC q;have n:iO R x.bY x.bT x.d8=ly R:=by unfold iO;grind
 rw[n] at m;exact tS (R:=λk d=>Q k d) (oq Y D (jk<|ah (ab 0) au) ⟨u,r,R,L,rfl,h,O.sA,m⟩) λk d p=>p
def yQ(h:kJ c e f M k S):∀b,aE f b=true->aE M b=true:=λb a=>by
 obtain⟨g,h⟩:=h;have d:b≠k:=λz=>by unfold aE at a;grind
 cases S with
 |none=>have h:M=_:=h;unfold aE;rw[h,ba d];exact a
 |some R=>obtain⟨r,L,h⟩:=h;refine h.le ?_;unfold aE;rw[ba d];exact a
def QN(h:kJ c e t M k (some R))(m:Mm a M H):Dx a (aI (aE t) H) (.ref k) (.bA e.cD<|nh<|c6 c R):=by
 obtain⟨d,l,_,p⟩:=B6 h;obtain⟨r,L,rfl,o⟩:=p R rfl;obtain⟨i,q,n,g⟩:=vO m l;cases g with
 |cons s g=>
 cases g;cases s;refine .bA (dx:=i) (fs:=[("registry",V.ref r)]) ?_<|.cons ?_ .nil
 ·unfold aI aE;rw[h.1];exact n
 ·refine(o.c6 m).same<|zh (M:=M) λb f=>?_;have j:b≠k:=λz=>by unfold aE at f;rw[z,h.1] at f;cases f
  unfold aE;rw[ba j];exact f
def Sz:bP ["desk","call"] ["desk","call"] (bh<|aF 115):={}
def Tj(c:CL)(e:CD)(j:uH g e)(F:bK g "answer_call" "answer_call" (aF 115) f fd)(G1:MG B)(G:z6 B)(h1:aU a w g B m "answer_open" 6 (dS g<|Kt c e))(h2:aU a w g B m "refused" 1 (aA g oo))(h3:aU a w g B m "answer_act" 8 (dS g<|Lp c))(h4:aU a w g B m "answer_question" 7 (aA g<|F9 c)):
 bB a w g B m bC 9 f fd ["desk","call"] (zU g<|Jz c e):=by
 refine YZ F Sz (λM0 M ds Q⟨_,_,_,e,_⟩=>by grind) λg' A O s H E M0 M ds Q J⟨k,S,x,ee,h,u,hS,hD,t⟩=>?_;subst ee;have X:=J.cb<|show 6<=8 by decide
 have Y:=J.cb<|show 1<=8 by decide
 have U:=J.cb<|show 7<=8 by decide
 obtain⟨t1,C⟩:=G.n1;obtain⟨t5,g5⟩:=G.n5;obtain⟨t8,g8⟩:=G1.c8;have l:=u.aX;have T:∀o d,Q o d->∀b,aE M0 b=true->aE o b=true:=λo d q=>yQ<|hD o d q;obtain⟨dk,hk,y,Z⟩:=B6 h;by_cases q1:x.bY=1
 ·have z:eV S x=lD S (x.bT.getD 0 0) (x.bT.getD 1 0) x.d8:=by unfold eV;grind
  rw[z] at t;rw[q1] at l;have l:x.bT.length=2:=l;refine Dr (gA (k:=true) (gK<|cW (cw (ck (ab 1) j.c j.c1 rfl)<|cS C)<|by rw[q1];rfl) (λ_=>?_) λq=>by cases q) T;exact tS (R:=λo d=>Q o d) (oq h1 X (jk<|ah (ab 0)<|ah (dG (ck (d:=cQ x.bT) (ab 1) j.c j.c2 rfl) a7<|zk (i:=0)<|by omega)<|ah (dG (ck (d:=cQ x.bT) (ab 1) j.c j.c2 rfl) a7<|zk (i:=1)<|by omega)<|ah (ck (ab 1) j.c j.c3 rfl) au) ⟨M0,k,S,_,_,x.d8,rfl,h,u.rl,u.rb,t⟩)<|by grind
 refine BP (gK<|cW (cw (ck (ab 1) j.c j.c1 rfl)<|cS C)<|mX<|by omega) ?_;cases S with
 |none=>
  have z:eV none x=(none,(-8,[])):=by unfold eV;grind
  rw[z] at t;have y:=y rfl;subst y;refine Dr (gA (k:=true) (KR (d:=.aS)<|gM (bE<|ab 0) hk j.d j.d1 rfl) (λ_=>?_) λq=>by cases q) T;exact gL (bE<|aK h2 Y (ah (cS g8) au) ⟨-8,rfl,rfl⟩) ⟨_,rfl,_,rfl,t _ h⟩
 |some R=>
  obtain⟨r,L,rfl,hA⟩:=Z R rfl;obtain⟨D,a',b'⟩:=hS.ff R rfl;refine BP (KR (d:=.aD r)<|gM (bE<|ab 0) hk j.d j.d1 rfl) ?_;have e':=u.lo;have f':=u.hi;by_cases q5:x.bY<=5
  ·have z:eV (some R) x=(some (iO R x.bY x.bT x.d8).1,(iO R x.bY x.bT x.d8).2):=by unfold eV;grind
   rw[z] at t;refine Dr (gA (k:=true) (gK<|cW (cw (ck (ab 1) j.c j.c1 rfl)<|cS g5)<|kC<|by omega) (λ_=>?_) λq=>by cases q) T;exact tS (R:=λo d=>Q o d) (oq h3 J (ot (gM (bE<|ab 0) hk j.d j.d1 rfl)<|jk<|ah (ck (ab 1) j.c j.c1 rfl)<|ah (ck (ab 1) j.c j.c2 rfl)<|ah (ck (ab 1) j.c j.c3 rfl) au) ⟨_,r,R,L,x,rfl,hA,D,a',u,by omega,q5,λo L' h'=>t o ⟨h.1,r,L',h'⟩⟩)<|by grind
  ·have z:eV (some R) x=(some R,aQ R x.bY x.bT):=by unfold eV;grind
   rw[z] at t;refine BP (gK<|cW (cw (ck (ab 1) j.c j.c1 rfl)<|cS g5)<|mX<|by omega) ?_;refine Sd (ρ':=[some<|.bA e.cD<|nh<|c6 c R,some<|r_ e x]) (λH' c' I=>?_) (aK h4 U (ah (ck (ab 0) j.d j.d1 rfl)<|ah (ck (ab 1) j.c j.c1 rfl)<|ah (ck (ab 1) j.c j.c2 rfl) au) ⟨R,x.bY,x.bT,rfl,D,?_,rfl⟩)<|t _ h
   ·refine⟨λb N=>I.cd.tr b<|yQ h b N,I.cd.aX,λi d p=>?_⟩;match i,p with
    |0,p=>cases p;obtain⟨v,C,g2⟩:=I.cd.kO 0 (.aD k) rfl;cases g2;exact⟨_,C,QN h I.mm⟩
    |1,p=>cases p;obtain⟨v,C,g2⟩:=I.cd.kO 1 (r_ e x) rfl;exact⟨v,C,g2.same<|zh (M:=M)<|yQ h⟩
    |i+2,p=>grind
   ·have N:∀i,x.bT.getD i 0<=4294967295:=λi=>by
     rw[iV];cases p:x.bT[i]? with
     |none=>grind
     |some n=>exact u.nb n<|dA p
    have h6:x.bY=6\/x.bY=7\/x.bY=8\/x.bY=9\/x.bY=10\/x.bY=11\/x.bY=12:=by omega
    unfold Mb;rcases h6 with q|q|q|q|q|q|q;·rw[q] at l;exact .inl ⟨q,l⟩
    ·rw[q] at l;exact .inr<|.inl ⟨q,l,N 0,N 1⟩
    ·rw[q] at l;exact .inr<|.inr<|.inl ⟨q,l⟩
    ·rw[q] at l;exact .inr<|.inr<|.inr<|.inl ⟨q,l⟩
    ·rw[q] at l;exact .inr<|.inr<|.inr<|.inr<|.inl ⟨q,l,b' q⟩
    ·rw[q] at l;exact .inr<|.inr<|.inr<|.inr<|.inr<|.inl ⟨q,l⟩
    omega
end Pf
namespace L3
open PySem PySem.Spec PyProof.Rows L2
def L8(K:ax)(M:Mh)(c:aG)(d:Mh)(a:aG)(P:Mh->eh->Prop):TS:=λD b H=>Cd K (aE d) H b a/\sK K M c P D b H
def Mv(X:Cx)(b:List cv)(M:Mh)(c:aG)(d:Mh)(a:aG)(P:Mh->eh->Prop):Prop:=dr X b<|L8 X.K M c d a P
def U_(c:Cd a b H e f)(i:Nat)(v:V):Cd a b H (e.set i<|some v) (f.set i none):=
 ⟨c.tr,by rw[oV,oV];exact c.aX,λj d q=>by
  rw[p7] at q ⊢;by_cases z:i=j;·grind
  ·rw[aL z] at q ⊢;exact c.kO j d q⟩
def Sk{R:Mh->Dt->Prop}(h:aU X.prog X.w X.K X.mg X.ai y k (zU X.K T))(hr:dn k X.A)(ha:RA X (e::E) M o ds)(t:T M0 M ds R)(C:∀g d,R g d->∀b,aE M0 b=true->aE g b=true)(n:∀g d,R g d->Mv X a g (o.set i none) M0 (o.set i (some d)) c)(hN:X.N.Nodup)(hi:X.N[i]?=some x:=by rfl)(hx:oO X.ae.scope x:=by first|exact cj rfl|exact gF rfl)(hs:jg (.Call (.Name y p) (e::E) [] l) (some (.Name x z)) S.line X.ae=pure false:=by rfl)(hf:X.fn x=true\/X.ae.scope.names.lookup x=some .local:=by first|exact .inl rfl|exact .inr rfl)(hg:Gl X y:=by rfl)(a':(y==("__debug__":ak))=false:=by decide)(he:aB (e::E) X.ae=(false,aO e X.ae)::aB E X.ae:=by rfl)(Z:(eK l<|aB E X.ae).any (·.1)=false:=by rfl):
 cf X (.Assign [.Name x z] (.Call (.Name y p) (e::E) [] l) S::a) M o c:=by
 obtain⟨f,fd,ps,F,hm,hk,hb⟩:=h.ex;have h2:dr X a (λD q H=>∃g d,R g d/\L8 X.K g (o.set i none) M0 (o.set i (some d)) c D q H):=λB s q H D I⟨g,d,r,t⟩=>n g d r B s q H D I t;refine dr.aN (rN (Db hN hi hx (yG F hr hg hm hk hb .nil ur ha a' he Z) hs hf) h2) λD q H⟨cm,q1,q2⟩=>⟨cm,λvs H2 s m dv=>?_⟩
 refine⟨M0,M,ds,R,by grind,m,t,λv H' g d r J Y x'=>⟨g,d,r,?_,⟨Y,U_ ((cm.go s m).cd.to Y J) i v⟩,λL H3 M3 O U Q c3=>q1 L H3 M3 O U ((s.trans J).trans Q) c3,λv3 H3 M3 d3 U Q m3 h3=>q2 v3 H3 M3 d3 U ((s.trans J).trans Q) m3 h3⟩⟩;have c1:=(cm.go s m).cd.to Y J;have c2:Cd X.K (aE M0) H' q o:=⟨λb hb=>c1.tr b<|C g d r b hb,c1.aX,λj d' e=>let⟨u,h1,h2⟩:=c1.kO j d' e;⟨u,h1,h2.same<|zh (M:=M)<|C g d r⟩⟩
 exact c2.set x'
def P6{g:aa}{e6:List Int}(ho:DE X o l (.aD g))(he:DE X e l (.aq<|new.map .int))(n:M g=some (.ob<|.aq<|e6.map .int))(hl:e6.length+new.length<=bx)(h:cf X a (bo M g<|.ob<|.aq<|(e6++new).map .int) U c)(A:jg (.Call (.Attribute o "extend" i) [e] [] f) none x.line X.ae=pure false:=by rfl)(k:kx o "extend" X.ae (aO o X.ae)=aO o X.ae:=by rfl)(j:(i.endLine==f.line)=true:=by rfl)(B:aB [e] X.ae=[(false,aO e X.ae)]:=by rfl):Mv X (.Expr (.Call (.Attribute o "extend" i) [e] [] f) x::a) M U S l c:=by
 refine dr.aN (rN (IP (uj sO Ap MD Hw ho (vL he wa<|by rw[B];rfl) k (by rw[B];rfl) j (by rw[B];rfl) rfl) A) h) λD σ H⟨R,Q,q1,q2⟩=>⟨aE S,R,λv H1 w h1=>?_⟩
 cases h1;have O:=Q.mm.same w;obtain⟨Y,hx,_⟩:=iE O n;refine⟨.inl ⟨rfl,Y,bi.of hx⟩,aE S,R.same w,λv2 T J h2=>?_⟩;have N:=O.same J;obtain⟨d,z,C⟩:=iE N n;cases h2 with
 |@aq b s _ hq hA=>
  have e1:=hA.ints;have e2:=C.ints;refine⟨g,_,d,_,rfl,rfl,z,bm _ _ hq,?_,?_⟩;·grind
  ·have Z:=hH (M:=M) (H:=T) (m:=.ob<|.aq<|(e6++new).map .int) (o:=.aq<|d++s)<|.inl<|gc n;have L:=N.eO (p:=g) (m:=.ob<|.aq<|(e6++new).map .int) (o:=.aq<|d++s) (.inl<|gc n)<|.aq<|by rw[e1,e2,<-dw];exact bu.ub _
   have t:aW (aI (aE M) H) (aI (aE (bo M g (.ob (.aq ((e6++new).map .int))))) (bv T g (.aq (d++s)))):=by rw[Z];exact ca<|w.trans J
   exact⟨⟨L,Q.cd.to L t⟩,λq I E r y u c3=>q1 q I E r y (t.trans u) c3,λv3 I E d3 y u m3 h3=>q2 v3 I E d3 y (t.trans u) m3 h3⟩
end L3
namespace Pf
open PySem PySem.Spec PyProof.Rows L2 L3
inductive rg(ms:List Nat):Nat->Option aZ->List Int->Prop
 |done {p:Nat} {S:Option aZ}:ms.length<=p->rg ms p S []
 |step {p n k z:Nat} {S:Option aZ} {out:List Int}:ms[p]?=some n->oJ.lookup (n:Int)=some (k:Int)->(m8 n=true->ms[p+1+k]?=some z)->qS (gk ms p n k z)->D8 S (gk ms p n k z)->(eV S (gk ms p n k z)).2.2.length<=2000000->
  rg ms (gk ms p n k z).hG (eV S<|gk ms p n k z).1 out->rg ms p S (pB (eV S<|gk ms p n k z).2.1 (eV S<|gk ms p n k z).2.2++out)
def Ra(a:List Nat)(p n k z:Nat):p<(gk a p n k z).hG:=by unfold gk;grind
def Sv(h:kJ c e (bo m g<|.ob<|.aq l) M k S)(o:m k=none)(d:g≠k):kJ c e (bo m g<|.ob<|.aq n) (bo M g<|.ob<|.aq n) k S:=by
 obtain⟨p,h⟩:=h;refine⟨by rw[ba<|ci d];exact o,?_⟩;cases S with
 |none=>have h:M=_:=h;show bo M g _=_;rw[h,ye<|ci d,fi]
 |some R=>
  obtain⟨r,L,h⟩:=h;have i:g∉fC r L:=λz=>by have:=h.fr g z;rw[ba d,bL] at this;grind
  refine⟨r,L,h.frame (λb a=>?_) (λb a=>ba<|gX a i) λb a=>?_⟩
  ·have j:b≠g:=gX a i;have:=h.fr b a;have f:b≠k:=λz=>by rw[z,bL] at this;grind
   rw[ba f,ba j] at this;rw[ba f,ba j];omega
  ·by_cases q:b=g;·rw[q,bL,ba d,bL]
   ·rw[ba q,h.out b a];by_cases z:b=k;·rw[z,bL,bL]
    ·rw[ba z,ba z,ba q,ba q]
def Dq(h:kJ c e (bo f g<|.ob<|.aq l) M k S)(a:g≠k):M g=some (.ob<|.aq l):=by
 obtain⟨d,h⟩:=h;cases S with
 |none=>have h:M=_:=h;rw[h,ba a,bL]
 |some R=>
  obtain⟨r,L,h⟩:=h;have b:g∉fC r L:=λz=>by have:=h.fr g z;rw[ba a,bL] at this;grind
  rw[h.out g b,ba a,bL]
def v8(K:ax):Sp:=λe H Q _=>∃(a:aa)(c:List Nat)(b:List Int),e=[.ref a]/\bi K H a ((ni c).map V.int)/\c.length<=30000/\rg c 0 none b/\b.length<=2000000/\∀(d:Hp)(p:aa),d p=some (.aq (b.map V.int))->Q (.ref p) d
def F7:bP ["calls","desk","given_back","place","call","answer"] ["calls"] (bh<|aF 117):={}
def Pm(c:CL)(d:CD)(b':uH l d)(F:bK l "answers" "answers" (aF 117) f fd)(G:MG O)(h1:lG j w l O u "Desk" d.cD 1 (dS l<|JF d))(h2:aU j w l O u "read_call" 3 (aA l<|Ku d))(h3:aU j w l O u "answer_call" 9 (zU l<|Jz c d))(h4:aU j w l O u "told" 1 (aA l Kd)):
 bB j w l O u bC 10 f fd ["calls"] (v8 l):=by
 refine F.ok F7 (λvs H Q E⟨_,_,_,e,_⟩=>by grind) λk' A J s H vs Q E hr h=>?_;obtain⟨a,t,B,rfl,r',v',U,t',hQ⟩:=h;have M:=F7.nd;have q':=fu;have g':=hr.cb<|show 2<=9 by decide
 have f':=hr.cb<|show 3<=9 by decide
 have h':=hr.cb<|show 1<=9 by decide
 let E0:Mh:=λ_=>none;have a':cf (mr bC j w l O u ["calls","desk","given_back","place","call","answer"] "answers" (bh (aF 117)) f k' A J s H E).oM (iF (aF 117)) E0 [some (.ip (ni t)),none,none,none,none,none] λC o=>o=.rt (lL B):=by
  refine cZ (i4 (i:=1) (Se (R:=λC dd=>∃k,C=bo E0 k (.ob (.bA d.cD (nh .aS)))/\dd=.aD k) h1 g' λq hq=>⟨q,rfl,bL,rfl,q,by rw[fi],rfl⟩) M) ?_;rintro M1 c' ⟨d1,⟨k,rfl,rfl⟩,rfl⟩;refine cZ (i4 (i:=2) (rT (ds:=[]) au) M) ?_;rintro M2 n' ⟨d2,⟨g,hg,rfl,rfl⟩,rfl⟩;have T:g≠k:=λz=>by rw[z,bL] at hg;cases hg
  refine gR (c_ (i:=3) (d:=.int ((0:Nat):Int)) a7 M) ?_;show cf _ _ _ [some<|.ip<|ni t,some<|.aD k,some<|.aD g,some<|.int ((0:Nat):Int),none,none] _;refine qu (P1:=λC o=>∃r,o=.nx r/\C g=some (.ob (.aq (B.map .int)))/\r[2]?=some (some (.aD g))/\r.length=6) (MS.imp (RM (n:=t.length) (λm C r=>∃p S y rest,m=t.length-p/\rg t p S rest/\B=y++rest/\kJ c d (bo E0 g (.ob (.aq (y.map .int)))) C k S/\fO [some (.ip (ni t)),some (.aD k),some (.aD g),some (.int ((p:Nat):Int)),none,none] r) (λ_ _=>False) (λC r=>C g=some (.ob<|.aq<|B.map .int)/\r[2]?=some (some<|.aD g)/\r.length=6) ?_ ?_ jB) ?_) ?_ ?_;·exact⟨0,none,[],B,rfl,U,rfl,⟨ba<|ci T,ye<|ci T⟩,fO.refl _⟩
  ·rintro m C r ⟨p,S,y,rest,rfl,hR,ho,hD,D⟩;refine⟨decide<|(p:Int)<((ni t).length:Int),PT.aN (cw (ab (ρ:=[some<|.ip<|ni t,some<|.aD k,some<|.aD g,some<|.int ((p:Nat):Int),none,none]) 3)<|UV (ab (ρ:=[some<|.ip<|ni t,some<|.aD k,some<|.aD g,some<|.int ((p:Nat):Int),none,none]) 0) G.aX) λσ H' Q'⟨F',cd,q⟩=>⟨F',cd.le D,q⟩,λht=>?_,λhf=>?_⟩
   ·have ht:=fB ht;have L:(ni t).length=t.length:=bS _;rw[L] at ht;cases hR with
    |done h=>omega
    |@step _ n kk z _ I X i' e' hB hS hL Y=>
     obtain⟨x,hx⟩:∃x,x=gk t p n kk z:=⟨_,rfl⟩
     have hb:=Ra t p n kk z;rw[<-hx] at hB hS hL Y hb;refine UF (ρ:=[some<|.ip<|ni t,some<|.aD k,some<|.aD g,some<|.int ((p:Nat):Int),none,none]) ?_ D;refine gR (c_ (i:=4) (d:=r_ d x) (aK h2 f' (ah (ab 0)<|ah (ab 3) au) ⟨t,p,n,kk,z,rfl,X,i',e',by rw[hx]⟩) M) ?_;have u':=Dq hD T;have l':y.length+(pB (eV S x).2.1 (eV S x).2.2).length<=2000000:=by grind
     refine Sk (i:=5) (M0:=bo E0 g<|.ob<|.aq<|y.map .int) (R:=λM2 d2=>d2=iP (eV S x).2/\kJ c d (bo E0 g<|.ob<|.aq<|y.map .int) M2 k (eV S x).1) h3 hr (jk<|ah (ab 1)<|ah (ab 4) au) ⟨k,S,x,rfl,hD,hB,hS,λM2 d2 q=>q.2,λM2 q=>⟨rfl,q⟩⟩ (λM2 d2 q=>yQ q.2) ?_ M;rintro M2 d2 ⟨rfl,Z⟩;refine P6 (e6:=y) (new:=pB (eV S x).2.1 (eV S x).2.2) (ab 2) (aK h4 h' (ah (jM (ab 5) a7 rfl)<|ah (jM (ab 5) a7 rfl) au) ⟨(eV S x).2.1,(eV S x).2.2,rfl,hL,rfl⟩) (Dq Z T) (by omega) ?_;refine gR (c_ (i:=3) (d:=.int ((x.hG:Nat):Int)) (ck (ab 4) b'.c b'.c4 rfl) M) ?_;refine fj ⟨t.length-x.hG,by omega,x.hG,(eV S x).1,y++pB (eV S x).2.1 (eV S x).2.2,I,rfl,Y,by grind,Sv Z rfl T,?_⟩;exact⟨rfl,rfl,rfl,rfl,trivial⟩
   ·have hf:=iC hf;have L:(ni t).length=t.length:=bS _;rw[L] at hf;cases hR with
    |done h=>rw[xh] at ho;rw[ho];exact⟨Dq hD T,D.get 2 _ rfl,by rw[<-D.aX];rfl⟩
    |step X _ _ _ _ _ _=>grind
  ·grind
  ·rintro C c' ⟨r,e,j',d',hl⟩;cases e;refine pc (i:=2) (p:=g) d' j' ?_;refine j9 (bb<|bj<|ab 2 (d:=lL B) ?_) rfl;rw[p7,aM rfl,aM<|by omega];rfl
  grind
 refine⟨_,a',⟨λb m e=>(by cases e),?_⟩,(by grind),λv H' C dd e s' m' x'=>?_⟩
 ·have dm:aI (aE E0) H=H:=by rfl
  have:=vD (K:=l) (N:=["calls","desk","given_back","place","call","answer"]) (H:=H) (F:=aE E0) (vs:=[.ref a]) (ds:=[.ip<|ni t]) (λb e=>by cases e)<|.cons (.ip<|by grind) .nil;exact this
 ·cases e;cases x' with
  |aq hq hA=>have e1:=hA.ints;rw[e1] at hq;exact hQ H' _<|bm _ _ hq
end Pf
namespace Pf
open Sy(Shares shareOf withShare)
structure fo(l:cz):Prop where
 nd:(l.map (·.1)).Nodup
 nn:∀e∈l,0<=e.1
def eU(l:cz):l6:=(gh l).map λk=>(k.toNat,bG l k)
def pk(t:l6):Prop:=t.Pairwise λx y=>x.1<y.1
def vI(h:fo l):(k,v)∈l->bG l k=v:=by
 intro b;unfold bG;cases e:l.find? λx=>decide (x.1=k) with
 |none=>grind
 |some y=>
  have a:=ES e;have a:y.1=k:=fB a;have f:=Ao e;obtain⟨i,m⟩:=sW f;obtain⟨j,g⟩:=sW b;have d:(l.map (·.1))[i]?=some k:=by grind
  have c:(l.map (·.1))[j]?=some k:=by grind
  have:=Bu h.nd d c;grind
def Ik(h:∀v,(k,v)∉l):bG l k=0:=by
 unfold bG;cases e:l.find? λx=>decide (x.1=k) with
 |none=>rfl
 |some y=>grind
def yk:k∈gh l↔∃v,(k,v)∈l:=by unfold gh;simp
def pa(h:fo l):(n,v)∈eU l↔(((n:Nat):Int),v)∈l:=by
 unfold eU;rw[cY];constructor
 ·rintro⟨k,c,e⟩;obtain⟨u,a⟩:=yk.mp c;have:=h.nn _ a;injection e with f d;rw[vI h a] at d;grind
 ·intro b;exact⟨_,yk.mpr ⟨v,b⟩,by rw[vI h b,Ay]⟩
def SO(h:fo l):(gh l).Pairwise (·<·):=by
 have c:(gh l).Pairwise (·<=·):=by unfold gh;have:=ML (le:=λa b:Int=>decide<|a<=b) (by grind) (by grind) (l.map (·.1));grind
 have d:(gh l).Nodup:=(Aq _ _).symm.nodup h.nd;exact(c.and d).imp<|by omega
def tM(h:fo l):pk (eU l):=by unfold pk eU;rw[nR];refine acW ?_<|SO h;intro a b e f d;obtain⟨u,c⟩:=yk.mp e;have:0<=a:=h.nn _ c;omega
def By(b:pk s)(a:pk t)(h:∀n v,(n,v)∈s↔(n,v)∈t):s=t:=by
 have d:s.Nodup:=b.imp<|by grind
 have c:t.Nodup:=a.imp<|by grind
 refine Al (le:=λ(x y:Nat×Rat)=>x.1<y.1) (by omega) b a<|by grind
def x_(l:cz):(eU l).length=l.length:=by unfold eU;rw[bS,Gu]
def P9(d:pk t)(a:(n,u)∈t)(e:(n,v)∈t):u=v:=by
 induction t with
 |nil=>cases a
 |cons x t b=>
  have c:=iX.mp d;rcases cO.mp a with g|m1;·grind
  ·rcases cO.mp e with f|m2;·grind
   ·exact b c.2 m1 m2
def OF(b:pk t)(h:(n,v)∈t):fH t n=v:=by
 unfold fH;cases e:t.find? λx=>x.1==n with
 |none=>grind
 |some y=>have a:=ES e;have a:y.1=n:=eq_of_beq a;have c:=Ao e;exact P9 b (by grind) h
def Om(h:∀v,(n,v)∉t):fH t n=0:=by
 unfold fH;cases e:t.find? λx=>x.1==n with
 |none=>rfl
 |some y=>grind
def tO(h:fo l)(o:Nat):fH (eU l) o=bG l (o:Nat):=by
 by_cases q:∃v,(((o:Nat):Int),v)∈l
 ·obtain⟨v,a⟩:=q;rw[vI h a,OF (tM h)<|(pa h).mpr a]
 ·have b:∀v,(((o:Nat):Int),v)∉l:=λv a=>q ⟨v,a⟩;rw[Ik b,Om λv a=>b v<|(pa h).mp a]
def yn:∀{t:l6},pk t->∀{n:Nat}{v:Rat},(n,v)∈jG o q t↔(n=o/\v=q/\q≠0)\/(n≠o/\(n,v)∈t)
 |[],_,n,v=>by unfold jG;grind
 |x::r,a,n,v=>by
  obtain⟨e,b⟩:=iX.mp a;unfold jG;by_cases d:o<x.1;·grind
  ·rw[aL d];by_cases c:o=x.1;·grind
   ·rw[aL c,cO,cO,yn b];grind
def xO:∀{t:l6},pk t->pk (jG o q t)
 |[],_=>by
  unfold jG;split;·omega
  ·exact aaE _ _
 |x::r,a=>by
  obtain⟨g,b⟩:=iX.mp a;unfold jG;by_cases f:o<x.1
  ·rw[aM f];split;·exact a
   ·refine iX.mpr ⟨λy c=>?_,a⟩;grind
  ·rw[aL f];by_cases d:o=x.1
   ·rw[aM d];split;·exact b
    ·exact iX.mpr<|by grind
   ·rw[aL d];refine iX.mpr ⟨λy c=>?_,xO b⟩;rcases(yn b (n:=y.1) (v:=y.2)).mp c with⟨e,_⟩|⟨_,m⟩;·omega
    grind
def yB:(k,v)∈hU l i q↔(k=i/\v=q)\/(k≠i/\(k,v)∈l):=by unfold hU;grind
def QM:(k,v)∈pC l i↔k≠i/\(k,v)∈l:=by unfold pC;grind
def Cq(h:fo l)(d:0<=i):fo (hU l i q):=by
 refine⟨?_,λe c=>?_⟩
 ·unfold hU;by_cases z:(l.any λx=>decide<|x.1=i)=true
  ·rw[aM z,d_];have:((λx:Int×Rat=>x.1)∘λx:Int×Rat=>if x.1=i then(x.1,q) else x)=λx=>x.1:=by grind
   rw[this];exact h.nd
  ·rw[aL z,dw,s_];refine⟨h.nd,by simp,λa g b f e=>?_⟩;grind
 ·rcases(yB (k:=e.1) (v:=e.2)).mp c with⟨j,_⟩|⟨_,m⟩;·omega
  ·exact h.nn _ m
def SS(h:fo l):fo (pC l i):=by refine⟨?_,λe a=>h.nn e (oU.mp a).1⟩;unfold pC;exact h.nd.sublist<|List.Sublist.map _ MY
def BY(h:fo l):fo (eM l (a:Nat) (b:Nat) q):=by
 unfold eM;split;·exact SS<|Cq h<|sZ _
 ·exact Cq (Cq h<|sZ _)<|sZ _
def vu:(k,v)∈eM l a b q↔(k=a/\v=bG l a-q/\bG l a-q≠0)\/(k≠a/\((k=b/\v=bG l b+q)\/(k≠b/\(k,v)∈l))):=by
 unfold eM;by_cases z:bG l a-q=0
 ·rw[aM z,QM,yB];grind
 ·rw[aL z,yB,yB];grind
def Rr(h:fo l)(d:a≠b)(e:bG l (b:Nat)+q≠0):
 eU (eM l (a:Nat) (b:Nat) q)=jG b (fH (eU l) b+q) (jG a (fH (eU l) a-q)<|eU l):=by
 have c:=tM h;refine By (tM<|BY h) (xO<|xO c) λn v=>?_;rw[pa<|BY h,vu,yn<|xO c,yn c,tO h,tO h,pa h];grind
def Gp(h:fo m):qL m k=some v↔(k,v)∈m:=by
 unfold qL;cases e:m.find? λx=>decide (x.1=k) with
 |none=>grind
 |some y=>
  have a:=ES e;have a:y.1=k:=fB a;have c:=Ao e;constructor;·grind
  ·intro b;have:=vI h b;unfold bG at this;grind
def HY(d:fo l)(c:fo m):nB l m=true↔eU l=eU m:=by
 unfold nB;rw[dc,eg,iu];constructor
 ·rintro⟨s,r⟩;have i:∀k v,(k,v)∈l->(k,v)∈m:=λk v h=>(Gp c).mp<|fB<|r _ h;have j:l.Nodup:=Z9 (·.1) (λa b h e=>h<|by rw[e]) d.nd;have g:∀k v,(k,v)∈m->(k,v)∈l:=λk v h=>by
   by_cases q:(k,v)∈l;·exact q
   ·have o:((k,v)::l).Nodup:=kW.mpr ⟨q,j⟩;have:=ZU (l₂:=m) o<|by grind
    grind
  exact By (tM d) (tM c) λn v=>by rw[pa d,pa c];grind
 ·intro h;refine⟨by rw[<-x_ l,h,x_],λx p=>kC<|(Gp c).mpr ?_⟩;have t:=d.nn x p;have e:((x.1.toNat:Nat):Int)=x.1:=by omega
  have:=(pa d (n:=x.1.toNat) (v:=x.2)).mpr<|by grind
  rw[h,pa c,e] at this;omega
def RI(h:fo l):(gh l).flatMap (oD l)=(eU l).flatMap λt=>(t.1:Int)::u7 t.2:=by
 unfold eU;rw[List.flatMap_map];have:∀L:List Int,(∀k∈L,0<=k)->L.flatMap (oD l)=L.flatMap λk=>((k.toNat:Nat):Int)::u7 (bG l k):=by
  intro L;induction L with
  |nil=>grind
  |cons k L b=>
   intro a;rw[abx,abx,b<|by grind];congr 1;have:=a k cc;show[k,(bG l k).num,((bG l k).den:Int)]=[((k.toNat:Nat):Int),(bG l k).num,((bG l k).den:Int)]
   grind
 exact this _ λk a=>by obtain⟨v,c⟩:=yk.mp a;exact h.nn _ c
open Sy(Pt Ring area onRing inRing besides)
def df(x:cg):iy:=⟨x.ring,x.lv,x.bX,x.eW,(x.bd.map λs=>(s.1,eU s.2)).reverse⟩
def aP(R:aZ):kZ:=⟨R.parcels.map df,eL R,R.acts.length⟩
def ph(R:aZ)(k:Nat):(aP R).parcels[k]?=(R.parcels[k]?).map df:=hZ ..
def WT(x:cg)(d:Nat):(df x).on d=l_ x d:=rfl
def yK(R:aZ)(k:Nat)(f:iy->Bool):((aP R).parcels[k]?).any f=(R.parcels[k]?).any λx=>f (df x):=by rw[ph];grind
def F6{b:Type}(p:b->Bool):∀(l:List b)(n:Nat),((l.zipIdx n).filter λx=>p x.1).map (·.2)=(AL n l.length).filter λk=>(l[k-n]?).any p
 |[],n=>rfl
 |a::l,n=>by
  rw[Az,dI,Nl,tc,tc];have c:=F6 p l<|n+1;have e:((a::l)[n-n]?).any p=p a:=by grind
  have d:(AL (n+1) l.length).filter (λk=>((a::l)[k-n]?).any p)=(AL (n+1) l.length).filter λk=>(l[k-(n+1)]?).any p:=by apply EH;grind
  grind
def Bl(R:aZ)(d:Nat):(aP R).on d=cK R d:=by unfold Sy.Registry.on cK;rw[F6 (λx=>l_ x d) R.parcels 0,aaY];have a:(aP R).parcels.length=R.parcels.length:=bS ..;rw[a];apply EH;intro k _;rw[yK,NK];rfl
def Rx{a:Type}(p:a->Bool)(l:List a):(l.filter p).getLast?=l.reverse.find? p:=by grind
def tU(x:cg)(d:Nat):(df x).sharesOn d=eU (d7 x d):=by
 unfold Sy.Parcel.sharesOn d7;rw[Rx];show(((x.bd.map λs=>(s.1,eU s.2)).reverse.find? λs=>decide<|s.1<=d).map λs=>s.2).getD []=_;rw[<-abL,AE];show(((x.bd.reverse.find? λs=>decide<|s.1<=d).map λs=>(s.1,eU s.2)).map λs=>s.2).getD []=_;cases x.bd.reverse.find? λs=>decide (s.1<=d) with
 |none=>exact(aaF.mp<|x_ []).symm
 |some s=>rfl
def Qa(h:∀s∈x.bd,s.1<=d):d7 x d=bW x:=by unfold d7 bW;rw[jz.mpr λs a=>kC<|h s a]
def Sh(D m:Nat)(q:Rat):Prop:=∃z:Nat,0<z/\z<=(m+1)*D/\q=mkRat (z:Nat) D
structure pH(D m:Nat)(x:cg):Prop where
 aX:x.ring.length<=64
 nr:∀p∈x.ring,Nr p
 i8:Ld.bZ x.ring
 eW:x.eW.length<=2
 ne:x.bd≠[]
 cl:x.bd.length<=m+1
 first:∃s∈x.bd,s.1<=x.lv
 ok:∀s∈x.bd,fo s.2
 be:∀s∈x.bd,∀e∈s.2,e.1<=1000
 sh:∀s∈x.bd,∀e∈s.2,Sh D m e.2
structure fN(D:Nat)(R:aZ):Prop where
 aX:R.parcels.length<=200
 acts:R.acts.length<=400
 d0:0<D
 d1:D<=1000^R.acts.length
 ay:∀x∈R.parcels,pH D R.acts.length x
 zJ:∀x∈R.parcels,∀s∈x.bd,s.1<=eL R
 nH:∀(p q:Nat)(x y:cg),R.parcels[p]?=some x->R.parcels[q]?=some y->x.bX=none->y.bX=none->p≠q->Ld.iR x.ring y.ring
inductive iM:aZ->List kZ->Prop
 |ai {D:Nat} {R:aZ}:fN D R->R.acts=[]->iM R []
 |sA {D:Nat} {R R':aZ} {a:kQ} {h:List kZ}:fN D R->R.acts.getLast?=some a->zH R a->m_ R a=R'->iM R' h->iM R (aP R'::h)
def iM.inv(f:iM R h):∃D,fN D R:=by
 cases f with
 |ai i _=>grind
 |sA i _ _ _ _=>grind
def iM.ok(f:iM R h):∀a,R.acts.getLast?=some a->zH R a:=λa b=>by
 cases f with
 |ai _ e=>grind
 |sA _ e k _ _=>grind
def DF(c:0<D)(b:z.natAbs<2^20000)(a:D<2^4450):Fs (mkRat z D):=by
 refine⟨?_,?_⟩
 ·rw[xm,aL<|by omega];exact sY (Int.natAbs_ediv_le_natAbs _ _) b
 ·rw[NA,aL<|by omega];exact sY (ab1 _ _) a
def Sq:(1000:Nat)^400<=2^4000:=by omega
def fN.Ml(h:fN D R):D<=2^4000:=by refine dY h.d1<|dY (Nat.pow_le_pow_right (by decide) h.acts) Sq
def fN.fs(h:fN D R)(a:Sh D R.acts.length q):Fs q:=by
 obtain⟨z,e,c,rfl⟩:=a;have b:=h.Ml;have d:=h.acts;refine DF h.d0 ?_<|by omega
 rw[EE];have:z<=512*2^4000:=dY c<|ry (by omega) b;omega
def Oy(h:fo l)(b:∀e∈l,e.1<=1000):l.length<=2000:=by
 have e:(l.map (·.1)).length<=((j4 1001).map λ(n:Nat)=>(n:Int)).length:=by refine ZU h.nd λk c=>?_;obtain⟨x,a,rfl⟩:=cY.mp c;have f:=h.nn x a;have d:=b x a;exact cY.mpr ⟨x.1.toNat,nZ.mpr (by omega),by omega⟩
 grind
def fN.YW(h:fN D R)(b:x∈R.parcels):mu x:=by have p:=h.ay x b;have:=h.acts;have:=p.cl;exact⟨p.aX,p.nr,p.i8,p.eW,p.ne,by omega,p.first,λs a=>Oy (p.ok s a)<|p.be s a,λs a e c=>h.fs<|p.sh s a e c⟩
def fN.YP(h:fN D R):kl R:=⟨h.aX,λx a=>h.YW a,h.acts⟩
def FT(B:r.length<=64)(k:∀p∈r,Nr p):(bR r).natAbs<=64*2000000000000:=by
 unfold bR;have t:∀l:List Int,(∀z∈l,z.natAbs<=2000000000000)->(l.foldr (λa b=>a+b) 0).natAbs<=l.length*2000000000000:=by
  intro l;induction l with
  |nil=>grind
  |cons z l A=>intro h;have C:=h z cc;grind
 have u:(aj r).length<=64:=by unfold aj;grind
 refine dY (t _ ?_) ?_
 ·intro z s;obtain⟨e,n,rfl⟩:=cY.mp s;obtain⟨i,g⟩:=e;have q:i∈r:=(rq n).1;have o:g∈r:=by
   rcases eI.mp (rq n).2 with m|m;·grind
   grind
  have j:=k i q;have f:=k g o;have y:0<=i.1*g.2:=aci j.a f.c;have x:i.1*g.2<=1000000*1000000:=acj j.b f.d f.c<|by decide
  have w:0<=i.2*g.1:=aci j.c f.a;have v:i.2*g.1<=1000000*1000000:=acj j.d f.b f.a<|by decide
  grind
 grind
def Vy(z t:Int)(D:Nat):mkRat z D*(t:Rat)/2=mkRat (z*t) (D*2):=by
 have e:(t:Rat)/2=mkRat t 2:=by rw[EN];rfl
 rw[tz,Rat.mul_assoc,<-tz,e,Rat.mkRat_mul_mkRat]
def v_(y z:Int)(a:0<D):mkRat y D+mkRat z D=mkRat (y+z) D:=by rw[Rat.mkRat_add_mkRat _ _ (by omega) (by omega),<-Int.add_mul,MZ<|by omega]
def vY(h:∀e∈l,Sh D m e.2)(o:Int):∃z:Nat,z<=(m+1)*D/\bG l o=mkRat (z:Nat) D:=by
 unfold bG;cases e:l.find? λx=>decide (x.1=o) with
 |none=>exact⟨0,j0 _,(Rat.zero_mkRat D).symm⟩
 |some y=>obtain⟨z,_,b,a⟩:=h y<|Ao e;grind
def pH.on(h:pH D m x)(d:Nat):(∀e∈d7 x d,Sh D m e.2)/\fo (d7 x d):=by
 rcases BQ (x:=x) (t:=d) with e|⟨s,b,e⟩;·rw[e];exact⟨λe a=>(by cases a),⟨by simp,λe a=>(by cases a)⟩⟩
 ·rw[e];exact⟨h.sh s b,h.ok s b⟩
def Zg(e:m<=400)(c:D<=2^4000)(a:z<=(m+1)*D)(b:t.natAbs<=64*2000000000000):(((z:Nat):Int)*t).natAbs<=2^4100:=by
 rw[Int.natAbs_mul,EE];have d:z<=512*2^4000:=dY a<|ry (by omega) c;have f:z*t.natAbs<=(512*2^4000)*2^50:=ry d<|dY b<|by decide
 grind
def fN.i7(h:fN D R)(o d:Nat):wj R o d:=by
 have u:=h.Ml;have q:D*2<2^4450:=by omega
 have m:0<D*2:=by have:=h.d0;omega
 have a:∀x∈R.parcels,∃z:Int,z.natAbs<=2^4100/\bG (d7 x d) (o:Nat)*(bR x.ring:Rat)/2=mkRat z (D*2):=λx c=>by have p:=h.ay x c;obtain⟨z,g,f⟩:=vY (p.on d).1 ((o:Nat):Int);refine⟨_,Zg h.acts u g<|FT p.aX p.nr,?_⟩;rw[f,Vy]
 have j:(2:Nat)^4100<2^20000:=by omega
 refine⟨λx c=>?_,λx c=>?_,λi=>?_⟩
 ·obtain⟨z,g,f⟩:=a x c;rw[f];exact DF m (sY g j) q
 ·have p:=h.ay x c;exact sY (FT p.aX p.nr)<|by decide
 ·have go:∀(l:List Nat),∃z:Int,z.natAbs<=l.length*2^4100/\(Pf.i7 R o d l).2=mkRat z (D*2):=by
   have r:∀(l:List Nat)(b:Nat×Rat)(n:Nat),(∃z:Int,z.natAbs<=n*2^4100/\b.2=mkRat z (D*2))->∃z:Int,z.natAbs<=(n+l.length)*2^4100/\(l.foldl (pA R o d) b).2=mkRat z (D*2):=by
    intro l;induction l with
    |nil=>grind
    |cons k l s=>
     intro b n ⟨z,A,v⟩;rw[kv,dI];have:=s (pA R o d b k) (n+1) (by
      unfold pA;cases e:R.parcels[k]? with
      |none=>grind
      |some x=>
       obtain⟨y,B,w⟩:=a x<|dA e;show ∃z:Int,z.natAbs<=(n+1)*2^4100/\(if 0<(bG (d7 x d) (o:Nat)).num then(b.1+1,b.2+bG (d7 x d) (o:Nat)*(bR x.ring:Rat)/2) else b).2=mkRat z (D*2);split
       ·refine⟨z+y,?_,?_⟩;·omega
        ·show b.2+_=_;rw[v,w,v_ _ _ m]
       grind)
     grind
   intro l;have:=r l (0,0) 0<|by simp
   rw[NJ] at this;exact this
  obtain⟨z,g,f⟩:=go<|(cK R d).take i;rw[f];refine DF m ?_ q;have C:((cK R d).take i).length<=256:=by rw[rp];have:=Ga (R:=R) (t:=d);have:=h.aX;omega
  omega
open Sy(tells says)
def m6(x:mF):AU:=match x.bY with
 |1=>.open_ (x.bT.getD 0 0) (x.bT.getD 1 0) x.d8
 |2=>.split (x.bT.getD 0 0) (x.bT.getD 1 0) x.d8
 |3=>.join (x.bT.getD 0 0) (x.bT.getD 1 0)<|x.bT.getD 2 0
 |4=>.give (x.bT.getD 0 0) (x.bT.getD 1 0) (x.bT.getD 2 0) (x.bT.getD 3 0) (x.bT.getD 4 0)<|x.bT.getD 5 0
 |5=>.undo
 |6=>.parcel<|x.bT.getD 0 0
 |7=>.at_ (x.bT.getD 0 0) (x.bT.getD 1 0)<|x.bT.getD 2 0
 |8=>.there<|x.bT.getD 0 0
 |9=>.whose (x.bT.getD 0 0)<|x.bT.getD 1 0
 |10=>.holds (x.bT.getD 0 0)<|x.bT.getD 1 0
 |11=>.beside (x.bT.getD 0 0)<|x.bT.getD 1 0
 |_=>.acts
def jp(a:An):Fi:=gZ a.1 a.2
def Po(p:Nat):bz (some (aP R,h)) (.parcel p)=(some (aP R,h),jp<|qB R p):=by
 show((some (aP R,h):ia),match(aP R).parcels[p]? with
  |none=>ef<|-4
  |some x=>gZ 0 _)=_
 rw[ph];unfold qB;cases R.parcels[p]? with
 |none=>rfl
 |some x=>rfl
def Q8(d:Nat):bz (some (aP R,h)) (.there d)=(some (aP R,h),jp<|Du R d):=by show((some (aP R,h):ia),gZ (((aP R).on d).length:Int)<|Sy.ints<|(aP R).on d)=_;rw[Bl];rfl
def PR(p q:Nat):bz (some (aP R,h)) (.beside p q)=(some (aP R,h),jp<|qy R p q):=by
 show((some (aP R,h):ia),match(aP R).parcels[p]?,(aP R).parcels[q]? with
  |some x,some y=>ef (iA x.ring y.ring:Int)
  |_,_=>ef<|-4)=_
 rw[ph,ph];unfold qy;cases R.parcels[p]? with
 |none=>rfl
 |some x=>
  cases R.parcels[q]? with
  |none=>rfl
  |some y=>rfl
def R5:bz (some (aP R,h)) .acts=(some (aP R,h),jp<|zF R):=by show((some (aP R,h):ia),gZ (R.acts.length:Int) [(eL R:Int),((R.parcels.map df).length:Int)])=_;rw[bS];rfl
def Pq{b:Type}{p q:b->Bool}(c:∀a,p a=true->q a=true)(l:List b):(l.filter q).any p=l.any p:=by grind
def Wp(x y d:Nat):bz (some (aP R,h)) (.at_ x y d)=(some (aP R,h),jp<|Ac R (((x:Nat):Int),((y:Nat):Int)) d):=by
 show((some (aP R,h):ia),gZ (if((((aP R).on d).filter λk=>((aP R).parcels[k]?).any λt=>cB t.ring ((x:Int),(y:Int))||b_ t.ring ((x:Int),(y:Int))).any λk=>((aP R).parcels[k]?).any λt=>cB t.ring ((x:Int),(y:Int)))=true then 1 else 0)
  (Sy.ints<|((aP R).on d).filter λk=>((aP R).parcels[k]?).any λt=>cB t.ring ((x:Int),(y:Int))||b_ t.ring ((x:Int),(y:Int))))=_
 rw[Bl];have c:(λk=>((aP R).parcels[k]?).any λt=>cB t.ring ((x:Int),(y:Int))||b_ t.ring ((x:Int),(y:Int)))=λk=>jU R ((x:Int),(y:Int)) k||pU R ((x:Int),(y:Int)) k:=by funext k;rw[yK];unfold jU pU;cases R.parcels[k]?<;>rfl
 have b:(λk=>((aP R).parcels[k]?).any λt=>cB t.ring ((x:Int),(y:Int)))=jU R ((x:Int),(y:Int)):=by funext k;rw[yK];rfl
 rw[c,b,Pq λa e=>by grind];rfl
def Rn(S:fN D R)(p d:Nat):bz (some (aP R,h)) (.whose p d)=(some (aP R,h),jp<|oC R p d):=by
 show((some (aP R,h):ia),match(aP R).parcels[p]? with
  |none=>ef<|-4
  |some x=>if x.on d=false then ef (-5) else gZ ((x.sharesOn d).length:Int) ((x.sharesOn d).flatMap λ(t:Nat×Rat)=>(t.1:Int)::u7 t.2))=_
 rw[ph];unfold oC;cases e:R.parcels[p]? with
 |none=>rfl
 |some x=>
  show((some (aP R,h):ia),if(df x).on d=false then ef (-5) else gZ (((df x).sharesOn d).length:Int) (((df x).sharesOn d).flatMap λ(t:Nat×Rat)=>(t.1:Int)::u7 t.2))=(some (aP R,h),jp<|if l_ x d=true then _ else _)
  rw[WT,tU];have a:=((S.ay x<|dA e).on d).2;cases l_ x d with
  |false=>rfl
  |true=>rw[aL (λq=>by cases q),aM rfl,x_,<-RI a];rfl
def Qi(S:fN D R)(o d:Nat):bz (some (aP R,h)) (.holds o d)=(some (aP R,h),jp<|zj R o d):=by
 show((some (aP R,h):ia),gZ ((((aP R).on d).filter λk=>((aP R).parcels[k]?).any λx=>fH (x.sharesOn d) o != 0).length:Int)<|u7<|xE<|((aP R).on d).map λk=>(((aP R).parcels[k]?).map λx=>fH (x.sharesOn d) o*(bR x.ring:Rat)/2).getD 0)=_;rw[Bl];have a:∀(l:List Nat)(b:Nat×Rat),l.foldl (pA R o d) b=(b.1+(l.filter λk=>((aP R).parcels[k]?).any λx=>fH (x.sharesOn d) o != 0).length,b.2+xE (l.map λk=>(((aP R).parcels[k]?).map λx=>fH (x.sharesOn d) o*(bR x.ring:Rat)/2).getD 0)):=by
  intro l;induction l with
  |nil=>
   intro b;show b=(b.1+0,b.2+0)
   grind
  |cons k l i=>
   intro b;rw[kv,i,tc,dB,yK,ph];show _=(_,b.2+(_+xE _))
   unfold pA;cases e:R.parcels[k]? with
   |none=>grind
   |some x=>
    obtain⟨j,f⟩:=(S.ay x<|dA e).on d;have p:fH ((df x).sharesOn d) o=bG (d7 x d) (o:Nat):=by rw[tU,tO f]
    show((if 0<(bG (d7 x d) (o:Nat)).num then(b.1+1,b.2+bG (d7 x d) (o:Nat)*(bR x.ring:Rat)/2) else b).1+_,(if 0<(bG (d7 x d) (o:Nat)).num then(b.1+1,b.2+bG (d7 x d) (o:Nat)*(bR x.ring:Rat)/2) else b).2+_)=(b.1+(if(fH ((df x).sharesOn d) o != 0)=true then _ else _:List Nat).length,b.2+(fH ((df x).sharesOn d) o*(bR x.ring:Rat)/2+_))
    rw[p];obtain⟨z,t,c⟩:=vY j ((o:Nat):Int);by_cases q:z=0
    ·have n:bG (d7 x d) (o:Nat)=0:=by rw[c,q];simp
     rw[n,aL (by decide),aL<|by simp];grind
    ·have s:bG (d7 x d) (o:Nat)≠0:=λe=>by rw[c,abC<|by grind] at e;omega
     have r:0<(bG (d7 x d) (o:Nat)).num:=by rw[c,xm,aL<|by grind];refine aav (by omega) (sZ _) ?_;rw[EE];exact acB.mpr<|abK _ _
     grind
 have g:=a (cK R d) (0,0);unfold zj jp;show _=((some (aP R,h):ia),gZ (((Pf.i7 R o d<|cK R d).1:Nat):Int) [(Pf.i7 R o d<|cK R d).2.num,((Pf.i7 R o d<|cK R d).2.den:Int)])
 have m:Pf.i7 R o d (cK R d)=_:=g;rw[m];show _=((some (aP R,h):ia),gZ (((0+_:Nat)):Int) [(0+_:Rat).num,((0+_:Rat).den:Int)])
 rw[NJ,Rat.zero_add];rfl
def XR(S:fN D R)(c:6<=x.bY)(b:x.bY<=12):bz (some (aP R,h)) (m6 x)=(some (aP R,h),jp<|aQ R x.bY x.bT):=by
 have a:x.bY=6\/x.bY=7\/x.bY=8\/x.bY=9\/x.bY=10\/x.bY=11\/x.bY=12:=by omega
 unfold m6 aQ;rcases a with q|q|q|q|q|q|q<;>rw[q];·exact Po _
 ·exact Wp _ _ _
 ·exact Q8 _
 ·exact Rn S _ _
 ·exact Qi S _ _
 ·exact PR _ _
 ·exact R5
end Pf
namespace Pf
open Sy(Pt Ring area)
def ya(t:Option Nat):∀(l:List Nat)(a:List cg)(q:Nat),(l.foldl (gP t) a)[q]?=(a[q]?).map λx=>if q∈l then{ x with bX:=t} else x
 |[],a,q=>by grind
 |p::l,a,q=>by
  rw[kv,ya t l];have e:(gP t a p)[q]?=(a[q]?).map λx=>if p=q then{ x with bX:=t} else x:=by unfold gP;grind
  grind
def Pu{l:List Nat}(h:∀p∈l,∀x,b[p]?=some x->x.bX=none):l.foldl (gP none) (l.foldl (gP t) b)=b:=by
 apply ro;intro q;rw[ya,ya];cases e:b[q]? with
 |none=>rfl
 |some x=>
  show some (if q∈l then{ (if q∈l then{ x with bX:=t} else x) with bX:=none} else(if q∈l then{ x with bX:=t} else x))=some x;by_cases c:q∈l
  ·rw[aM c,aM c];have:=h q c x e;cases x;simp_all
  grind
def xL(R:aZ)(d:List cg)(l:List kQ)(a:kQ):eL { R with parcels:=d,acts:=l++[a]}=a.day:=by unfold eL;grind
def Sh.cb(h:Sh D m q):Sh D (m+1) q:=by obtain⟨z,b,c,a⟩:=h;exact⟨z,b,(by grind),a⟩
def pH.more(h:pH D m x)(g:Option Nat):pH D (m+1) { x with bX:=g}:=⟨h.aX,h.nr,h.i8,h.eW,h.ne,dY h.cl (by omega),h.first,h.ok,h.be,λs b e c=>(h.sh s b e c).cb⟩
def fN.d2(h:fN D R):D<=1000^(R.acts.length+1):=dY h.d1<|by grind
def Fy(F:iM R h)(S:fN D R)(hl:R.parcels.length+b.length<=200)(ha:R.acts.length<400)(hd:eL R<=t)(Y:∀p∈c,∃x,R.parcels[p]?=some x/\x.bX=none)(h2:c.length<=2)(s1:fo f)(s2:∀e∈f,e.1<=1000)(s3:∀e∈f,Sh D R.acts.length e.2)(hr:∀g∈b,g.length<=64/\(∀p∈g,Nr p)/\Ld.bZ g)(p1:∀(i j:Nat)(g k:List Pt),b[i]?=some g->b[j]?=some k->i≠j->Ld.iR g k)(V:∀g∈b,∀(q:Nat)(y:cg),R.parcels[q]?=some y->y.bX=none->q∉c->Ld.iR g y.ring):iM (f_ R c f b t) (aP R::h):=by
 obtain⟨E,J⟩:∃E,E=c.foldl (gP (some t)) R.parcels:=⟨_,rfl⟩
 have lE:E.length=R.parcels.length:=by rw[J];exact yg _ _ _
 have gE:∀q,E[q]?=(R.parcels[q]?).map λx=>if q∈c then{ x with bX:=some t} else x:=λq=>by rw[J];exact ya _ _ _ _
 have Z:f_ R c f b t={ R with parcels:=E++b.map (jP t c f),acts:=R.acts++[⟨t,c,b.length,[]⟩]}:=by rw[J];rfl
 have ld:eL (f_ R c f b t)=t:=by rw[Z];exact xL R _ _ _
 have X:(f_ R c f b t).acts.length=R.acts.length+1:=by grind
 have lp:(f_ R c f b t).parcels.length=R.parcels.length+b.length:=by grind
 have n:∀(q:Nat)(y:cg),(f_ R c f b t).parcels[q]?=some y->(∃x,R.parcels[q]?=some x/\y=if q∈c then{ x with bX:=some t} else x)\/∃g,b[q-R.parcels.length]?=some g/\R.parcels.length<=q/\y=jP t c f g:=by grind
 have l:∀(q:Nat)(x y:cg),y=(if q∈c then{ x with bX:=some t} else x)->y.bX=none->q∉c/\y=x:=by grind
 have I:fN D (f_ R c f b t):=by
  refine⟨by omega,by omega,S.d0,by rw[X];exact S.d2,λy A=>?_,λy A s r=>?_,λp q x y B A U K O=>?_⟩
  ·rw[X];obtain⟨q,N⟩:=sW A;rcases n q y N with⟨x,B,e⟩|⟨g,G,_,e⟩
   ·have P:=S.ay x<|dA B;rw[e];by_cases z:q∈c;·rw[aM z];exact P.more _
    ·rw[aL z];exact P.more x.bX
   ·obtain⟨r1,r2,r3⟩:=hr g<|dA G;rw[e];exact⟨r1,r2,r3,h2,(λz=>by cases z),(by show 1<=R.acts.length+1+1;omega),⟨_,gY.mpr rfl,cs _⟩,(λs r=>by rw[gY.mp r];exact s1),(λs r=>by rw[gY.mp r];exact s2),(λs r=>by rw[gY.mp r];exact λe Y=>(s3 e Y).cb)⟩
  ·rw[ld];obtain⟨q,N⟩:=sW A;rcases n q y N with⟨x,B,e⟩|⟨g,G,_,e⟩
   ·have M:s∈x.bd:=by grind
    exact dY (S.zJ x (dA B) s M) hd
   ·rw[e] at r;rw[gY.mp r];omega
  ·rcases n p x B with⟨x0,C,H⟩|⟨g,G,lg,H⟩
   ·obtain⟨nx,H⟩:=l p x0 x H U;subst H;rcases n q y A with⟨L,w,m⟩|⟨k,T,lk,m⟩
    ·obtain⟨W,m⟩:=l q L y m K;subst m;exact S.nH p q _ _ C w U K O
    ·rw[m];exact(V k (dA T) p _ C U nx).symm
   ·rw[H];rcases n q y A with⟨L,w,m⟩|⟨k,T,lk,m⟩
    ·obtain⟨W,m⟩:=l q L y m K;subst m;exact V g (dA G) q _ w K W
    ·rw[m];exact p1 _ _ g k G T<|by omega
 have tk:(E++b.map (jP t c f)).take (R.parcels.length+b.length-b.length)=E:=by rw[Nat.add_sub_cancel,<-lE];grind
 refine .sA (a:=⟨t,c,b.length,[]⟩) I (by grind) ⟨by grind,λp Q=>?_,j0 _,λp Q=>by cases Q⟩ ?_ F;·grind
 ·unfold m_;rw[lp];show({ lj:=R.lj,parcels:=c.foldl (gP none)<|(f_ R c f b t).parcels.take<|R.parcels.length+b.length-b.length,acts:=(R.acts++[_]).dropLast}:aZ)=R;rw[Z];show({ lj:=R.lj,parcels:=c.foldl (gP none)<|(E++b.map (jP t c f)).take<|R.parcels.length+b.length-b.length,acts:=(R.acts++[_]).dropLast}:aZ)=R;rw[tk,J,Pu λp Q x B=>?_,MW];grind
def Fz(R:aZ)(a:List Nat)(e:cz)(b:List (List Pt))(t:Nat):
 aP (f_ R a e b t)=⟨(a.foldl (λc p=>c.modify p λ(x:iy)=>{ x with till:=some t})<|R.parcels.map df)++b.map (λg=>⟨g,t,none,a,[(t,eU e)]⟩),t,R.acts.length+1⟩:=by
 have k:eL (f_ R a e b t)=t:=xL R _ _ _;have j:(f_ R a e b t).acts.length=R.acts.length+1:=jY ..;have h:∀(l:List Nat)(c:List cg),(l.foldl (gP (some t)) c).map df=l.foldl (λc p=>c.modify p λ(x:iy)=>{ x with till:=some t}) (c.map df):=by
  intro l;induction l with
  |nil=>grind
  |cons p l f=>
   intro c;rw[kv,kv,f];congr 1;apply ro;intro i;unfold gP;rw[hZ,MV,MV,hZ];cases c[i]? with
   |none=>rfl
   |some x=>show some (df<|if p=i then _ else x)=some (if p=i then _ else df x);split<;>rfl
 unfold aP;rw[k,j];congr 1;show(a.foldl (gP<|some t) R.parcels++b.map (jP t a e)).map df=_;rw[dw,h,d_];rfl
open Sy(wayOk cut onRing inRing tells says onStretch crosses edges turn Shares shareOf withShare)
def Iw(a:e∈aj r):e.1∈r/\e.2∈r:=by obtain⟨c,b⟩:=e;have h:=rq a;grind
def Ju(j:∀p∈r,Nr p)(h:b_ r p=true):Nr p:=by unfold b_ at h;obtain⟨e,m,i⟩:=lV.mp h;obtain⟨l,k⟩:=Iw m;have g:=j _ l;have f:=j _ k;unfold bN at i;simp only[dc,eg] at i;obtain⟨_,a,b,c,d⟩:=i;have:=g.a;have:=g.b;have:=g.c;have:=g.d;have:=f.a;have:=f.b;have:=f.c;have:=f.d;exact⟨by omega,by omega,by omega,by omega⟩
def Ve(l:∀p∈r,Nr p)(m:0<=p.1)(h:cB r p=true):Nr p:=by
 unfold cB at h;rw[dc] at h;have t:=eq_of_beq h.2;obtain⟨e,j⟩:=List.exists_mem_of_length_pos<|show 0<((aj r).filter<|eB p).length by omega
 obtain⟨j,i⟩:=oU.mp j;obtain⟨o,n⟩:=Iw j;have g:=l _ o;have f:=l _ n;unfold eB bc at i;simp only[oX,dc,eg] at i;have:=g.a;have:=g.b;have:=g.c;have:=g.d;have:=f.a;have:=f.b;have:=f.c;have:=f.d;have k:p.1<=1000000:=by
  by_cases z:p.1<=1000000;·exact z
  ·exfalso;rcases i with⟨a,b,c⟩|⟨a,b,c⟩
   ·have s:(e.2.1-e.1.1)*(p.2-e.1.2)<=(p.1-e.1.1)*(p.2-e.1.2):=Int.mul_le_mul_of_nonneg_right (by omega)<|by omega
    have q:(p.1-e.1.1)*(p.2-e.1.2)<=(p.1-e.1.1)*(e.2.2-e.1.2):=aac (by omega)<|by omega
    grind
   ·have s:(p.1-e.1.1)*(p.2-e.1.2)<=(e.2.1-e.1.1)*(p.2-e.1.2):=Int.mul_le_mul_of_nonpos_right (by omega)<|by omega
    have q:(p.1-e.1.1)*(e.2.2-e.1.2)<=(p.1-e.1.1)*(p.2-e.1.2):=aac (by omega)<|by omega
    grind
 rcases i with⟨a,b,_⟩|⟨a,b,_⟩;·exact⟨m,k,by omega,by omega⟩
 ·exact⟨m,k,by omega,by omega⟩
def S0(j:∀p∈r,Nr p)(n:∀p∈w,0<=p.1)(h:dJ r w=true):∀p∈w,Nr p:=by
 unfold dJ at h;simp only[dc,eg] at h;obtain⟨o,_,_,i,g,k,_⟩:=h;intro p f;have k:=iu.mp k;cases w with
 |nil=>cases f
 |cons a l=>
  rcases cO.mp f with rfl|d;·exact Ju j i
  ·have b:l≠[]:=by grind
   have c:p∈l.dropLast++[l.getLast b]:=by rw[MB b];exact d
   rcases eI.mp c with m|m;·exact Ve j (n p f)<|k p m
   ·have e:(a::l).getLastD (0,0)=l.getLast b:=by grind
    rw[gY.mp m,<-e];exact Ju j g
def Bd(R:aZ)(p:Nat):(((aP R).parcels[p]?).filter λx=>x.till.isNone)=((R.parcels[p]?).filter λx=>x.bX.isNone).map df:=by
 rw[ph];cases R.parcels[p]? with
 |none=>rfl
 |some x=>show(if x.bX.isNone=true then some (df x) else none)=(if x.bX.isNone=true then some x else none).map df;grind
def qs:hI R p=((R.parcels[p]?).filter λx=>x.bX.isNone).isSome:=by unfold hI;grind
def Cz(a:d<eL R\/1000000<d):tG (aP R,h) b d f=(some (aP R,h),ef<|-1):=aM a
def JJ{R:aZ}{h:List kZ}{p d:Nat}{f:List iy->ia×Fi}(a:¬(d<eL R\/1000000<d)):tG (aP R,h) [p] d f=match(R.parcels[p]?).filter λx=>x.bX.isNone with
 |none=>(some (aP R,h),ef<|-4)
 |some x=>f [df x]:=by
 unfold tG;rw[aL<|by exact a];show(match([p].mapM λk=>((aP R).parcels[k]?).filter λx=>x.till.isNone) with
  |none=>_
  |some l=>f l)=_
 rw[EV,ach,Bd];grind
def Vf{R:aZ}{h:List kZ}{p q d:Nat}{f:List iy->ia×Fi}(a:¬(d<eL R\/1000000<d)):tG (aP R,h) [p,q] d f=match(R.parcels[p]?).filter λx=>x.bX.isNone,(R.parcels[q]?).filter λx=>x.bX.isNone with
 |some x,some y=>f [df x,df y]
 |_,_=>(some (aP R,h),ef<|-4):=by
 unfold tG;rw[aL<|by exact a];show(match([p,q].mapM λk=>((aP R).parcels[k]?).filter λx=>x.till.isNone) with
  |none=>_
  |some l=>f l)=_
 rw[EV,EV,ach,Bd,Bd];grind
def gq(R:aZ)(h:List kZ)(c:AU)(r:aZ×An):Prop:=∃a,bz (some (aP R,h)) c=(some (aP r.1,a),jp r.2)/\iM r.1 a/\r.1.acts.length<=R.acts.length+1
def gq.same(F:iM R h)(e:bz (some (aP R,h)) c=(some (aP R,h),jp a)):gq R h c (R,a):=⟨h,e,F,by grind⟩
def xW(S:fN D R)(a:x∈R.parcels)(c:eL R<=d):d7 x d=bW x:=Qa λs b=>dY (S.zJ x a s b) c
def QO(F:iM R h)(S:fN D R)(X:R.acts.length<400)(p d:Nat)(w:List Nat):gq R h (.split p d w) (gN R p d w):=by
 have c:bz (some (aP R,h)) (.split p d w)=tG (aP R,h) [p] d λl=>match l with
  |[x]=>if(aP R).parcels.length+2 > 200 then(some (aP R,h),ef<|-2) else if w.length%2=1\/dJ x.ring (bQ w)=false then(some (aP R,h),ef<|-3) else
   if(cut x.ring<|bQ w).1.length > 64\/(cut x.ring<|bQ w).2.length > 64 then(some (aP R,h),ef<|-2) else
   xt (aP R,h) { (aP R).ended p d with parcels:=((aP R).ended p d).parcels++[⟨(cut x.ring<|bQ w).1,d,none,[p],[(d,x.sharesOn d)]⟩,⟨(cut x.ring<|bQ w).2,d,none,[p],[(d,x.sharesOn d)]⟩]} d (gZ ((aP R).parcels.length:Int) [bR (cut x.ring<|bQ w).1,bR (cut x.ring<|bQ w).2])
  |_=>(some (aP R,h),ef<|-4):=rfl
 by_cases J:d<eL R\/1000000<d
 ·have e:gN R p d w=(R,(-1,[])):=by have:cU R [p] d 2=-1:=aM J;unfold gN;grind
  rw[e];exact gq.same F<|by rw[c,Cz J];rfl
 rw[JJ J] at c;cases n:(R.parcels[p]?).filter λx=>x.bX.isNone with
 |none=>
  have M:hI R p=false:=by rw[qs,n];rfl
  have e:gN R p d w=(R,(-4,[])):=by
   have:cU R [p] d 2=-4:=by unfold cU;grind
   unfold gN;grind
  rw[e];rw[n] at c;exact gq.same F c
 |some x=>
  rw[n] at c;have M:hI R p=true:=by rw[qs,n];rfl
  have C:R.parcels[p]?=some x/\x.bX=none:=by
   cases e:R.parcels[p]? with
   |none=>grind
   |some y=>
    rw[e] at n;have n:(if y.bX.isNone=true then some y else none)=some x:=n;by_cases z:y.bX.isNone=true;·rw[aM z] at n;cases n;exact⟨rfl,Aj.mp z⟩
    grind
  obtain⟨C,W⟩:=C;have L:=dA C;have N:(aP R).parcels.length=R.parcels.length:=bS ..;have c:bz (some (aP R,h)) (.split p d w)=if(aP R).parcels.length+2 > 200 then(some (aP R,h),ef (-2)) else if w.length%2=1\/dJ x.ring (bQ w)=false then(some (aP R,h),ef (-3)) else
   if(cut x.ring<|bQ w).1.length > 64\/(cut x.ring<|bQ w).2.length > 64 then(some (aP R,h),ef<|-2) else
   xt (aP R,h) { (aP R).ended p d with parcels:=((aP R).ended p d).parcels++[⟨(cut x.ring<|bQ w).1,d,none,[p],[(d,(df x).sharesOn d)]⟩,⟨(cut x.ring<|bQ w).2,d,none,[p],[(d,(df x).sharesOn d)]⟩]} d (gZ ((aP R).parcels.length:Int) [bR (cut x.ring<|bQ w).1,bR (cut x.ring<|bQ w).2]):=c
  rw[N] at c;have K:cU R [p] d 2=if 200<R.parcels.length+2 then-2 else 0:=by unfold cU;grind
  by_cases o:200<R.parcels.length+2
  ·rw[aM o] at K c;have e:gN R p d w=(R,(-2,[])):=by unfold gN;grind
   rw[e];exact gq.same F c
  rw[aL o] at K c;have Z:gN R p d w=if w.length%2=1\/dJ x.ring (bQ w)=false then(R,(-3,[])) else
   if 64<(cut x.ring<|bQ w).1.length\/64<(cut x.ring<|bQ w).2.length then(R,(-2,[])) else
   (f_ R [p] (bW x) [(cut x.ring<|bQ w).1,(cut x.ring<|bQ w).2] d,(((R.parcels.length:Nat):Int),[bR (cut x.ring<|bQ w).1,bR (cut x.ring<|bQ w).2])):=by
   unfold gN;grind
  rw[Z];by_cases hw:w.length%2=1\/dJ x.ring (bQ w)=false
  ·rw[aM hw] at c ⊢;exact gq.same F c
  rw[aL hw] at c ⊢;by_cases u:64<(cut x.ring<|bQ w).1.length\/64<(cut x.ring<|bQ w).2.length
  ·rw[aM u];rw[aM<|by exact u] at c;exact gq.same F c
  rw[aL u];rw[aL<|by exact u] at c;have r:dJ x.ring (bQ w)=true:=by grind
  have P:=S.ay x L;obtain⟨c1,c2,c3,c4⟩:=Ld.U8 P.i8 r;have E:bQ w≠[]:=λq=>by unfold dJ at r;grind
  have wn:=S0 P.nr (λz H=>by obtain⟨a,b,_,_,rfl⟩:=Cu H;omega) r;have cn:∀z,z∈(cut x.ring (bQ w)).1\/z∈(cut x.ring (bQ w)).2->Nr z:=λz H=>by
   rcases IN E H with m|m;·exact P.nr z m
   grind
  obtain⟨G,s,t⟩:=vm P.ne;have B:eL R<=d:=by omega
  generalize cut x.ring (bQ w)=k at *;obtain⟨Q,O⟩:=k;have u:¬(64<Q.length\/64<O.length):=u;refine⟨aP R::h,?_,Fy F S (by grind) X B (λq hq=>?_) (by grind) (by rw[t];exact P.ok G s) (by rw[t];exact P.be G s) (by rw[t];exact P.sh G s) (λg I=>?_) (λi j g k A v V=>?_) λg I q y T Y nq=>?_,?_⟩
  ·rw[c,tU,xW S L B,Fz];rfl
  ·grind
  ·grind
  ·match i,j,A,v with
   |0,0,_,_=>omega
   |0,1,A,v=>grind
   |1,0,A,v=>cases A;cases v;exact c3.symm
   |1,1,_,_=>omega
   |i+2,_,A,_=>grind
   |_,j+2,_,v=>grind
  ·have U:p≠q:=by grind
   have s0:=S.nH p q x y C T W Y U;grind
  ·show(R.acts++[_]).length<=_;grind
end Pf
namespace Pf
open Sy(Pt Ring area joined tells says Shares shareOf withShare)
def CI{R:aZ}{p:Nat}(a:((R.parcels[p]?).filter λx=>x.bX.isNone)=some x):R.parcels[p]?=some x/\x.bX=none:=by
 cases e:R.parcels[p]? with
 |none=>grind
 |some y=>
  rw[e] at a;have a:(if y.bX.isNone=true then some y else none)=some x:=a;by_cases z:y.bX.isNone=true;·rw[aM z] at a;cases a;exact⟨rfl,Aj.mp z⟩
  grind
def R8(F:iM R h):gq R h .undo (ly R):=by
 cases F with
 |ai I e=>
  have b:ly R=(R,(-5,[])):=by unfold ly;grind
  rw[b];exact gq.same (.ai I e) rfl
 |@sA i _ c a d I e k t g=>
  have b:ly R=(m_ R a,(((R.acts.length-1:Nat):Int),[])):=by unfold ly;rw[e]
  rw[b,t];have f:c.acts.length=R.acts.length-1:=by rw[<-t];exact aaZ ..
  refine⟨d,?_,g,by grind⟩;show((some (aP c,d):ia),ef ((c.acts.length:Nat):Int))=_;rw[f];rfl
def SX(F:iM R h)(S:fN D R)(ha:R.acts.length<400)(p q d:Nat):gq R h (.join p q d) (fV R p q d):=by
 by_cases t:p=q
 ·have e:fV R p q d=(R,(-1,[])):=by unfold fV;grind
  rw[e];refine gq.same F ?_;show(if p=q then _ else _)=_;rw[aM t];rfl
 have a:bz (some (aP R,h)) (.join p q d)=tG (aP R,h) [p,q] d λl=>match l with
  |[x,y]=>if(aP R).parcels.length+1 > 200 then(some (aP R,h),ef<|-2) else if x.sharesOn d≠y.sharesOn d then(some (aP R,h),ef<|-5) else match fh x.ring y.ring with
   |none=>(some (aP R,h),ef<|-3)
   |some r=>xt (aP R,h) { ((aP R).ended p d).ended q d with parcels:=(((aP R).ended p d).ended q d).parcels++[⟨r,d,none,[min p q,max p q],[(d,x.sharesOn d)]⟩]} d<|gZ ((aP R).parcels.length:Int) [bR r]
  |_=>(some (aP R,h),ef<|-4):=by
  show(if p=q then _ else _)=_;rw[aL t];rfl
 by_cases O:d<eL R\/1000000<d
 ·have e:fV R p q d=(R,(-1,[])):=by have:cU R [p,q] d 1=-1:=aM O;unfold fV;grind
  rw[e];exact gq.same F<|by rw[a,Cz O];rfl
 rw[Vf O] at a;have U:(hI R p&&hI R q)=false->bz (some (aP R,h)) (.join p q d)=(some (aP R,h),ef (-4))->gq R h (.join p q d) (fV R p q d):=λst a=>by
  have e:fV R p q d=(R,(-4,[])):=by
   have:cU R [p,q] d 1=-4:=by unfold cU;grind
   unfold fV;grind
  rw[e];exact gq.same F a
 cases B:(R.parcels[p]?).filter λx=>x.bX.isNone with
 |none=>rw[B] at a;exact U (by rw[qs,B];rfl) a
 |some x=>
  cases C:(R.parcels[q]?).filter λx=>x.bX.isNone with
  |none=>rw[B,C] at a;exact U (by rw[qs (p:=q),C,Bool.and_comm];rfl) a
  |some y=>
   rw[B,C] at a;have st:(hI R p&&hI R q)=true:=by rw[qs,qs,B,C];rfl
   obtain⟨M,gx⟩:=CI B;obtain⟨L,gy⟩:=CI C;have W:=dA M;have V:=dA L;have lP:(aP R).parcels.length=R.parcels.length:=bS ..;have A:eL R<=d:=by omega
   have a:bz (some (aP R,h)) (.join p q d)=if(aP R).parcels.length+1 > 200 then(some (aP R,h),ef (-2)) else if(df x).sharesOn d≠(df y).sharesOn d then(some (aP R,h),ef (-5)) else match fh x.ring y.ring with
    |none=>(some (aP R,h),ef<|-3)
    |some r=>xt (aP R,h) { ((aP R).ended p d).ended q d with parcels:=(((aP R).ended p d).ended q d).parcels++[⟨r,d,none,[min p q,max p q],[(d,(df x).sharesOn d)]⟩]} d (gZ ((aP R).parcels.length:Int) [bR r]):=a
   rw[lP,tU,tU,xW S W A,xW S V A] at a;have T:cU R [p,q] d 1=if 200<R.parcels.length+1 then-2 else 0:=by unfold cU;grind
   by_cases f:200<R.parcels.length+1
   ·rw[aM f] at T a;have e:fV R p q d=(R,(-2,[])):=by unfold fV;grind
    rw[e];exact gq.same F a
   rw[aL f] at T a;have P:=S.ay x W;have H:=S.ay y V;obtain⟨K,s,v⟩:=vm P.ne;obtain⟨J,o,w⟩:=vm H.ne;have n:fo (bW x):=by rw[v];exact P.ok K s
   have m:fo (bW y):=by rw[w];exact H.ok J o
   have e0:fV R p q d=if nB (bW x) (bW y)=false then(R,(-5,[])) else match fh x.ring y.ring with
    |none=>(R,(-3,[]))
    |some g=>(f_ R [min p q,max p q] (bW<|if p<q then x else y) [g] d,(((R.parcels.length:Nat):Int),[bR g])):=by
    unfold fV;grind
   rw[e0];cases Z:nB (bW x) (bW y) with
   |false=>
    have ne:eU (bW x)≠eU (bW y):=λz=>by rw[<-HY n m,Z] at z;cases z
    rw[aM rfl];rw[aM ne] at a;exact gq.same F a
   |true=>
    have eq:=(HY n m).mp Z;rw[aL λq=>by cases q];rw[aL λz=>z eq] at a;have s0:=S.nH p q x y M L gx gy t;cases N:fh x.ring y.ring with
    |none=>rw[N] at a;exact gq.same F a
    |some g=>
     rw[N] at a;obtain⟨g1,g2,g3⟩:=Ld.Gd P.i8 H.i8 s0 N;obtain⟨gl,gn⟩:=xV g2;obtain⟨u,Y⟩:∃u,u=if p<q then x else y:=⟨_,rfl⟩
     have ua:eU (bW u)=eU (bW x):=by grind
     have I:fo (bW u)/\(∀e∈bW u,e.1<=1000)/\∀e∈bW u,Sh D R.acts.length e.2:=by
      rw[Y];split;·exact⟨n,by rw[v];exact P.be K s,by rw[v];exact P.sh K s⟩
      ·exact⟨m,by rw[w];exact H.be J o,by rw[w];exact H.sh J o⟩
     rw[<-Y];have mm:∀k,k∈[min p q,max p q]↔k=p\/k=q:=by grind
     refine⟨aP R::h,?_,Fy F S (by grind) ha A (λk hk=>?_) (by grind) I.1 I.2.1 I.2.2 (λg' E=>?_) (λi j g' k hi a' b'=>?_) λg' E k z X gz nk=>?_,?_⟩
     ·rw[a,Fz,ua];show(some (({ parcels:=((((aP R).parcels.modify p λ(x:iy)=>{ x with till:=some d}).modify q λ(x:iy)=>{ x with till:=some d}))++_,day:=_,acts:=_}:kZ),_),_)=_;have cm:((R.parcels.map df).modify p λ(x:iy)=>{ x with till:=some d}).modify q (λ(x:iy)=>{ x with till:=some d})=[min p q,max p q].foldl (λps p=>ps.modify p λ(x:iy)=>{ x with till:=some d}) (R.parcels.map df):=by
       show _=((R.parcels.map df).modify (min p q) λ(x:iy)=>{ x with till:=some d}).modify (max p q) (λ(x:iy)=>{ x with till:=some d});by_cases z:p<=q;·grind
       ·rw[EO (by omega),Nat.max_eq_left<|by omega];apply ro;grind
      show(some (({ parcels:=(((R.parcels.map df).modify p λ(x:iy)=>{ x with till:=some d}).modify q λ(x:iy)=>{ x with till:=some d})++_,day:=_,acts:=_}:kZ),_),_)=_;rw[cm];rfl
     ·grind
     ·grind
     ·grind
     ·rw[gY.mp E];have n1:p≠k:=by grind
      have n2:q≠k:=by grind
      exact g3 z.ring (S.nH p k x z M X gx gz n1)<|S.nH q k y z L X gy gz n2
     ·show(R.acts++[_]).length<=_;grind
end Pf
namespace Pf
open Sy(Pt Ring area tells says Shares shareOf withShare)
def Ie(a b n e:Nat):mv a b n e=false↔1000<a\/1000<b\/a=b\/e=0\/1000<e\/n=0\/e<n:=by
 have:mv a b n e=true↔a<=1000/\b<=1000/\a≠b/\0<e/\e<=1000/\0<n/\n<=e:=by unfold mv;grind
 grind
def ul(a:0<e):mkRat (z:Nat) D=mkRat ((z*e:Nat):Int) (D*e):=by rw[ab5,MZ<|by omega]
def zg(a:0<D):mkRat (n:Nat) e=mkRat ((n*D:Nat):Int) (D*e):=by rw[ab5,acF D e,MZ<|by omega]
def Qp(h:0<=z):(0:Rat)<=mkRat z D:=by
 refine Rat.num_nonneg.mp ?_;rw[xm];split;·omega
 ·exact ab7 h<|sZ _
def Tt(h:0<D)(B:fo l)(j:∀x∈l,Sh D m x.2)(y:0<n)(A:n<=e)(g:mkRat (n:Nat) e<=bG l (a:Nat)):∀x∈eM l (a:Nat) (b:Nat) (mkRat (n:Nat) e),Sh (D*e) (m+1) x.2:=by
 have d:0<e:=by omega
 have c:0<D*e:=qh h d;have r:∀z:Nat,z<=(m+1)*D->z*e+n*D<=(m+1+1)*(D*e):=λz s=>by have i:z*e<=(m+1)*D*e:=ry s<|cs _;have f:n*D<=e*D:=ry A<|cs _;grind
 rintro⟨k,v⟩ t;rcases vu.mp t with⟨_,rfl,o⟩|⟨_,⟨_,rfl⟩|⟨_,u⟩⟩
 ·obtain⟨z,i,f⟩:=vY j ((a:Nat):Int);rw[f] at g o ⊢;have F:mkRat (z:Nat) D-mkRat (n:Nat) e=mkRat (((z*e:Nat):Int)-((n*D:Nat):Int)) (D*e):=by rw[ul (z:=z) (D:=D) d,zg (n:=n) (e:=e) h,abj,acn,v_ _ _ c,<-abz]
  have C:n*D<z*e:=by
   have p:mkRat (n:Nat) e≠mkRat (z:Nat) D:=by grind
   have w:mkRat (n:Nat) e<mkRat (z:Nat) D:=Rat.lt_of_le_of_ne g p;rw[ul (z:=z) (D:=D) d,zg (n:=n) (e:=e) h] at w;by_cases q:n*D<z*e;·exact q
   ·exfalso;have:mkRat (((n*D:Nat):Int)-((z*e:Nat):Int)) (D*e)=mkRat ((n*D:Nat):Int) (D*e)-mkRat ((z*e:Nat):Int) (D*e):=by rw[abj,acn,v_ _ _ c,<-abz]
    have E:(0:Rat)<=mkRat (((n*D:Nat):Int)-((z*e:Nat):Int)) (D*e):=Qp<|by omega
    grind
  refine⟨z*e-n*D,by omega,?_,?_⟩;·grind
  grind
 ·obtain⟨z,i,f⟩:=vY j ((b:Nat):Int);refine⟨z*e+n*D,?_,r z i,?_⟩
  ·have:=qh y h;omega
  ·show bG l ((b:Nat):Int)+mkRat (n:Nat) e=_;rw[f,ul (z:=z) (D:=D) d,zg (n:=n) (e:=e) h,v_ _ _ c];rfl
 ·obtain⟨z,p,i,f⟩:=j _ u;refine⟨z*e,qh p d,?_,?_⟩;·grind
  ·rw[f,<-ul d]
def Sh.up(a:0<e)(b:Sh D m q):Sh (D*e) (m+1) q:=by obtain⟨z,f,d,c⟩:=b;refine⟨z*e,qh f a,?_,by rw[c,<-ul a]⟩;have g:z*e<=(m+1)*D*e:=ry d<|cs _;grind
def Qe(h:∀e∈l,e.1<=1000)(f:a<=1000)(d:b<=1000):∀x∈eM l (a:Nat) (b:Nat) q,x.1<=1000:=by
 rintro⟨k,v⟩ c;rcases vu.mp c with⟨e,_⟩|⟨_,⟨e,_⟩|⟨_,m⟩⟩;·omega
 ·omega
 grind
def QQ(F:iM R h)(S:fN D R)(ha:R.acts.length<400)(N:eL R<=t)(u:R.parcels[p]?=some x)(w:0<e)(J:e<=1000)(g1:fo g)(g2:∀y∈g,y.1<=1000)(g3:∀y∈g,Sh (D*e) (R.acts.length+1) y.2):
 iM { R with parcels:=R.parcels.set p { x with bd:=x.bd++[(t,g)]},acts:=R.acts++[⟨t,[],0,[p]⟩]} (aP R::h):=by
 have U:=(gD.mp u).1;have V:=xL R (R.parcels.set p { x with bd:=x.bd++[(t,g)]}) R.acts ⟨t,[],0,[p]⟩;have M:(R.acts++[(⟨t,[],0,[p]⟩:kQ)]).length=R.acts.length+1:=jY ..;have A:∀(q:Nat)(y:cg),(R.parcels.set p { x with bd:=x.bd++[(t,g)]})[q]?=some y->(q=p/\y={ x with bd:=x.bd++[(t,g)]})\/(q≠p/\R.parcels[q]?=some y):=by grind
 have L:∀y,pH D R.acts.length y->pH (D*e) (R.acts.length+1) y:=λy P=>⟨P.aX,P.nr,P.i8,P.eW,P.ne,dY P.cl (by omega),P.first,P.ok,P.be,λs d z E=>(P.sh s d z E).up w⟩
 have I:fN (D*e) { R with parcels:=R.parcels.set p { x with bd:=x.bd++[(t,g)]},acts:=R.acts++[⟨t,[],0,[p]⟩]}:=by
  refine⟨by show(R.parcels.set _ _).length<=_;rw[oV];exact S.aX,by grind,qh S.d0 w,?_,λy r=>?_,λy r s d=>?_,λi j y z r E X W H=>?_⟩
  ·show D*e<=1000^(R.acts++[_]).length;rw[M,Nat.pow_succ];exact ry S.d1 J
  ·show pH (D*e) (R.acts++[_]).length y;rw[M];obtain⟨q,o⟩:=sW r;rcases A q y o with⟨_,rfl⟩|⟨_,n⟩
   ·have P:=L x<|S.ay x<|dA u;have P0:=S.ay x<|dA u;have K:∀s∈x.bd++[(t,g)],s∈x.bd\/s=(t,g):=by grind
    refine⟨P.aX,P.nr,P.i8,P.eW,λz=>?_,?_,?_,λs d=>?_,λs d=>?_,λs d=>?_⟩
    ·have z:x.bd++[(t,g)]=[]:=z;simp at z
    ·show(x.bd++[(t,g)]).length<=_;rw[jY];have:=P0.cl;grind
    ·obtain⟨s,d,hl⟩:=P.first;grind
    ·rcases K s d with m|rfl;·exact P.ok s m
     omega
    ·rcases K s d with m|rfl;·exact P.be s m
     omega
    ·rcases K s d with m|rfl;·exact P.sh s m
     omega
   ·exact L y<|S.ay y<|dA n
  ·rw[V];obtain⟨q,o⟩:=sW r;rcases A q y o with⟨_,rfl⟩|⟨_,n⟩
   ·rcases eI.mp d with m|m;·exact dY (S.zJ x (dA u) s m) N
    grind
   ·exact dY (S.zJ y (dA n) s d) N
  ·have f:∀(k:Nat)(v:cg),(R.parcels.set p { x with bd:=x.bd++[(t,g)]})[k]?=some v->∃C,R.parcels[k]?=some C/\C.ring=v.ring/\C.bX=v.bX:=by grind
   obtain⟨Q,a1,a2,a3⟩:=f i y r;obtain⟨O,b1,b2,Z⟩:=f j z E;rw[<-a2,<-b2];exact S.nH i j Q O a1 b1 (a3.trans X) (Z.trans W) H
 have Y:(R.acts++[(⟨t,[],0,[p]⟩:kQ)]).getLast?=some ⟨t,[],0,[p]⟩:=by grind
 have T:(R.parcels.set p { x with bd:=x.bd++[(t,g)]}).take ((R.parcels.set p { x with bd:=x.bd++[(t,g)]}).length-0)=R.parcels.set p { x with bd:=x.bd++[(t,g)]}:=by grind
 have G:(R.parcels.set p { x with bd:=x.bd++[(t,g)]})[p]?=some { x with bd:=x.bd++[(t,g)]}:=by grind
 refine .sA (a:=⟨t,[],0,[p]⟩) I Y ⟨j0 _,λq o=>(by cases o),cs _,λq o=>?_⟩ ?_ F
 ·rw[gY.mp o];refine⟨{ x with bd:=x.bd++[(t,g)]},?_,λz=>?_⟩;·grind
  ·have z:x.bd++[(t,g)]=[]:=z;simp at z
 ·unfold m_;show({ lj:=R.lj,parcels:=qN ((R.parcels.set p { x with bd:=x.bd++[(t,g)]}).take<|(R.parcels.set p { x with bd:=x.bd++[(t,g)]}).length-0) p,acts:=(R.acts++[_]).dropLast}:aZ)=R;rw[T,MW];have:qN (R.parcels.set p { x with bd:=x.bd++[(t,g)]}) p=R.parcels:=by
   unfold qN;rw[xR G,List.set_set];show R.parcels.set p { x with bd:=(x.bd++[(t,g)]).dropLast}=_;rw[MW];apply ro;intro i;rw[p7];by_cases z:p=i;·rw[aM z,aM U,<-z,u]
   grind
  rw[this]
def Sf(F:iM R h)(S:fN D R)(ha:R.acts.length<400)(p d a b n e:Nat):gq R h (.give p d a b n e) (hJ R p d a b n e):=by
 have c:bz (some (aP R,h)) (.give p d a b n e)=if 1000<a\/1000<b\/a=b\/e=0\/1000<e\/n=0\/e<n then(some (aP R,h),ef (-1)) else tG (aP R,h) [p] d λl=>match l with
  |[x]=>if fH (x.sharesOn d) a<(n:Rat)/(e:Rat) then(some (aP R,h),ef<|-5) else
   xt (aP R,h) { aP R with parcels:=(aP R).parcels.modify p λ(y:iy)=>{ y with whose:=(d,jG b (fH (x.sharesOn d) b+(n:Rat)/(e:Rat))<|jG a (fH (x.sharesOn d) a-(n:Rat)/(e:Rat))<|x.sharesOn d)::y.whose}} d (gZ 0<|u7<|fH (x.sharesOn d) a-(n:Rat)/(e:Rat))
  |_=>(some (aP R,h),ef<|-4):=rfl
 cases M:mv a b n e with
 |false=>
  rw[aM<|(Ie a b n e).mp M] at c;have w:hJ R p d a b n e=(R,(-1,[])):=by unfold hJ;grind
  rw[w];exact gq.same F c
 |true=>
  have gg:¬(1000<a\/1000<b\/a=b\/e=0\/1000<e\/n=0\/e<n):=λz=>by rw[(Ie a b n e).mpr z] at M;cases M
  rw[aL gg] at c;have I:∀r,hJ R p d a b n e=r↔(if cU R [p] d 0≠0 then(R,(cU R [p] d 0,[])) else match R.parcels[p]? with
   |none=>(R,(-4,[]))
   |some x=>if bG (bW x) (a:Nat)<mkRat (n:Nat) e then(R,(-5,[])) else
    ({ R with parcels:=R.parcels.set p { x with bd:=x.bd++[(d,eM (bW x) (a:Nat) (b:Nat)<|mkRat (n:Nat) e)]},acts:=R.acts++[⟨d,[],0,[p]⟩]},((0:Int),[(bG (eM (bW x) (a:Nat) (b:Nat)<|mkRat (n:Nat) e) (a:Nat)).num,((bG (eM (bW x) (a:Nat) (b:Nat)<|mkRat (n:Nat) e) (a:Nat)).den:Int)])))=r:=λr=>by
   unfold hJ;grind
  by_cases N:d<eL R\/1000000<d
  ·have w:hJ R p d a b n e=(R,(-1,[])):=by have:cU R [p] d 0=-1:=aM N;rw[I,this];rfl
   rw[w];exact gq.same F<|by rw[c,Cz N];rfl
  rw[JJ N] at c;cases E:(R.parcels[p]?).filter λx=>x.bX.isNone with
  |none=>
   have st:hI R p=false:=by rw[qs,E];rfl
   have w:hJ R p d a b n e=(R,(-4,[])):=by
    have:cU R [p] d 0=-4:=by unfold cU;grind
    rw[I,this];rfl
   rw[w];rw[E] at c;exact gq.same F c
  |some x=>
   rw[E] at c;have st:hI R p=true:=by rw[qs,E];rfl
   obtain⟨B,gx⟩:=CI E;have W:=dA B;have G:eL R<=d:=by omega
   have Y:=S.aX;have rf:cU R [p] d 0=0:=by unfold cU;grind
   have P:=S.ay x W;obtain⟨H,t,u⟩:=vm P.ne;have A:fo (bW x):=by rw[u];exact P.ok H t
   have q0:(n:Rat)/(e:Rat)=mkRat (n:Nat) e:=by rw[EN];rfl
   have c:bz (some (aP R,h)) (.give p d a b n e)=if fH ((df x).sharesOn d) a<(n:Rat)/(e:Rat) then(some (aP R,h),ef (-5)) else
    xt (aP R,h) { aP R with parcels:=(aP R).parcels.modify p λ(y:iy)=>{ y with whose:=(d,jG b (fH ((df x).sharesOn d) b+(n:Rat)/(e:Rat))<|jG a (fH ((df x).sharesOn d) a-(n:Rat)/(e:Rat))<|(df x).sharesOn d)::y.whose}} d (gZ 0<|u7<|fH ((df x).sharesOn d) a-(n:Rat)/(e:Rat)):=c
   rw[tU,xW S W G,q0] at c;by_cases L:bG (bW x) (a:Nat)<mkRat (n:Nat) e
   ·have w:hJ R p d a b n e=(R,(-5,[])):=by rw[I,aL (by omega),B];grind
    rw[w];rw[aM<|by rw[tO A];exact L] at c;exact gq.same F c
   rw[aL<|by rw[tO A];exact L] at c;obtain⟨g,m⟩:∃g,g=eM (bW x) (a:Nat) (b:Nat) (mkRat (n:Nat) e):=⟨_,rfl⟩
   have w:hJ R p d a b n e=({ R with parcels:=R.parcels.set p { x with bd:=x.bd++[(d,g)]},acts:=R.acts++[⟨d,[],0,[p]⟩]},(0,[(bG g (a:Nat)).num,((bG g (a:Nat)).den:Nat)])):=by rw[I,aL (by omega),B,m];grind
   have K:=mS.mp L;obtain⟨zb,a',O⟩:=vY (l:=bW x) (by rw[u];exact P.sh H t) ((b:Nat):Int);have hq:bG (bW x) (b:Nat)+mkRat (n:Nat) e≠0:=λz=>by
    have V:=S.d0;have Z:0<e:=by omega
    have T:0<D*e:=qh V Z;rw[O,ul (z:=zb) (D:=D) Z,zg (n:=n) (e:=e) V,v_ _ _ T,abC<|by omega] at z;have:0<n*D:=qh (by omega) V;omega
   have Q:a≠b:=by omega
   have ag:=Rr A Q hq;have C:fo g:=by rw[m];exact BY A
   have sa:bG g (a:Nat)=bG (bW x) (a:Nat)-mkRat (n:Nat) e:=by
    by_cases z:bG (bW x) (a:Nat)-mkRat (n:Nat) e=0
    ·rw[z];refine Ik λv X=>?_;rw[m] at X;rcases vu.mp X with⟨_,_,q⟩|⟨q,_⟩;·exact q z
     omega
    ·refine vI C ?_;rw[m];exact vu.mpr<|.inl ⟨rfl,rfl,z⟩
   rw[w];refine⟨aP R::h,?_,QQ (e:=e) F S ha G B (by omega) (by omega) C (by rw[m];exact Qe (by rw[u];exact P.be H t) (by omega)<|by omega) (by rw[m];exact Tt S.d0 A (by rw[u];exact P.sh H t) (by omega) (by omega) K),?_⟩
   ·rw[c,<-ag,tO A,<-sa,<-m];have e2:(aP R).parcels.modify p (λ(y:iy)=>{ y with whose:=(d,eU g)::y.whose})=(R.parcels.set p { x with bd:=x.bd++[(d,g)]}).map df:=by
     apply ro;intro i;rw[MV,hZ,p7];by_cases z:p=i
     ·subst z;have J:=(gD.mp B).1;rw[aM rfl,aM J,ph,B];show some (if p=p then({ df x with whose:=(d,eU g)::(df x).whose}:iy) else df x)=some (df { x with bd:=x.bd++[(d,g)]});rw[aM rfl];show some (⟨x.ring,x.lv,x.bX,x.eW,(d,eU g)::(x.bd.map λs=>(s.1,eU s.2)).reverse⟩:iy)=some ⟨x.ring,x.lv,x.bX,x.eW,((x.bd++[(d,g)]).map λs=>(s.1,eU s.2)).reverse⟩;grind
     ·rw[aL z,ph];grind
    show(some (({ parcels:=(aP R).parcels.modify p _,day:=d,acts:=R.acts.length+1}:kZ),_),_)=_;rw[e2];unfold aP;rw[xL];show _=((some ({ parcels:=_,day:=d,acts:=(R.acts++[_]).length},_):ia),_)
    rw[jY];rfl
   grind
end Pf
namespace Pf
open Sy(Pt Ring area tells says)
def rd(n:Nat)(S:Option aZ)(z:ia):Prop:=match S with
 |none=>z=none
 |some R=>∃h,z=some (aP R,h)/\iM R h/\R.acts.length<=n
def So(m:o<=1000)(d:dz g=true):iM (pu o t g) []:=by
 obtain⟨j,i⟩:=xV d;refine .ai (D:=1) ⟨by show 1<=200;decide,by show 0<=400;decide,by decide,by show 1<=1000^0;decide,λx b=>?_,λx b s a=>?_,λp q x y b f _ _ h=>?_⟩ rfl
 ·rw[gY.mp b];refine⟨j,i,Ld.FG d,by show 0<=2;decide,(λz=>by cases z),by show 1<=0+1;decide,⟨_,gY.mpr rfl,cs _⟩,λs a=>?_,λs a e c=>?_,λs a e c=>?_⟩
  ·rw[gY.mp a];exact⟨by simp,(by grind)⟩
  ·rw[gY.mp a] at c;grind
  ·rw[gY.mp a] at c;rw[gY.mp c];exact⟨1,by decide,(by omega),rfl⟩
 ·rw[gY.mp b] at a;rw[gY.mp a];exact cs _
 ·have l:p=0:=by have:=(gD.mp b).1;simpa [pu] using this
  have k:q=0:=by have:=(gD.mp f).1;simpa [pu] using this
  omega
def VC(o t:Nat)(g:List Pt):aP (pu o t g)=⟨[⟨g,t,none,[],[(t,[(o,1)])]⟩],t,0⟩:=by
 have a:fo [(((o:Nat):Int),(1:Rat))]:=⟨by simp,(by grind)⟩
 have e:eU [(((o:Nat):Int),(1:Rat))]=[(o,1)]:=by refine By (tM a) (aaE _ _) λn v=>?_;rw[pa a,gY,gY,abJ,abJ,Int.ofNat_inj]
 show(⟨[⟨g,t,none,[],[(t,eU [(((o:Nat):Int),(1:Rat))])]⟩],t,0⟩:kZ)=_;rw[e]
def Tx(d:rd n S z)(o t:Nat)(l:List Nat):∃c,bz z (.open_ o t l)=(c,jp (lD S o t l).2)/\rd (n+1) (lD S o t l).1 c:=by
 have b:rd (n+1) S z:=by
  cases S with
  |none=>exact d
  |some R=>obtain⟨h,e,F,i⟩:=d;exact⟨h,e,F,by omega⟩
 have a:bz z (.open_ o t l)=if 1000<o\/1000000<t\/l.length%2=1 then(z,ef (-1)) else if dz (bQ l)=false then(z,ef (-3)) else(some (⟨[⟨bQ l,t,none,[],[(t,[(o,1)])]⟩],t,0⟩,[]),gZ 0 [bR (bQ l)]):=rfl;unfold lD;by_cases g:1000<o\/1000000<t\/l.length%2=1
 ·rw[aM g] at a ⊢;exact⟨z,a,b⟩
 rw[aL g] at a ⊢;by_cases f:dz (bQ l)=false
 ·rw[aM f] at a ⊢;exact⟨z,a,b⟩
 rw[aL f] at a ⊢;refine⟨_,a,[],?_,So (by omega) (by grind),by show 0<=_;omega⟩;rw[VC]
def Sm(d:n<400)(b:rd n S z)(i:qS x):D8 S x/\∃a,bz z (m6 x)=(a,jp (eV S x).2)/\rd (n+1) (eV S x).1 a:=by
 have m:=i.lo;have f:=i.hi;refine⟨⟨λR e=>?_⟩,?_⟩
 ·subst e;obtain⟨h,_,F,_⟩:=b;obtain⟨D,I⟩:=F.inv;exact⟨I.YP,⟨I.nH,F.ok⟩,λ_=>I.i7 _ _⟩
 unfold eV;by_cases k:x.bY=1
 ·rw[aM k];have:m6 x=.open_ (x.bT.getD 0 0) (x.bT.getD 1 0) x.d8:=by unfold m6;grind
  rw[this];exact Tx b _ _ _
 rw[aL k];cases S with
 |none=>
  have b:z=none:=b;subst b;refine⟨none,?_,rfl⟩;have d:x.bY=2\/x.bY=3\/x.bY=4\/x.bY=5\/x.bY=6\/x.bY=7\/x.bY=8\/x.bY=9\/x.bY=10\/x.bY=11\/x.bY=12:=by omega
  unfold m6;rcases d with q|q|q|q|q|q|q|q|q|q|q<;>rw[q]<;>rfl
 |some R=>
  obtain⟨h,rfl,F,s⟩:=b;obtain⟨D,I⟩:=F.inv;have g:R.acts.length<400:=by omega
  show ∃a,bz (some (aP R,h)) (m6 x)=(a,jp (if x.bY<=5 then(some (iO R x.bY x.bT x.d8).1,(iO R x.bY x.bT x.d8).2) else(some R,aQ R x.bY x.bT)).2)/\rd (n+1) (if x.bY<=5 then(some (iO R x.bY x.bT x.d8).1,(iO R x.bY x.bT x.d8).2) else(some R,aQ R x.bY x.bT)).1 a;by_cases j:x.bY<=5
  ·rw[aM j];have fin:∀{c:AU}{r:aZ×An},gq R h c r->∃a,bz (some (aP R,h)) c=(a,jp r.2)/\rd (n+1) (some r.1) a:=λ{c r}⟨o,e,p,l⟩=>⟨_,e,o,rfl,p,by omega⟩
   have d:x.bY=2\/x.bY=3\/x.bY=4\/x.bY=5:=by omega
   unfold m6 iO;rcases d with q|q|q|q<;>rw[q];·exact fin<|QO F I g _ _ _
   ·exact fin<|SX F I g _ _ _
   ·exact fin<|Sf F I g _ _ _ _ _ _
   ·exact fin<|R8 F
  ·rw[aL j];exact⟨_,XR I (by omega) f,h,rfl,F,by omega⟩
end Pf
namespace Pf
open Sy(tells says)
def SU(a:An):((tx a.1 a.2 []).length:Int)::tx a.1 a.2 []=pB a.1 a.2:=by unfold tx pB;grind
def Gq(a:List Int)(l:List (List Int)):xq (a::l)=((a.length:Int)::a)++xq l:=by rfl
def Gr:∀(a:List (List (List Int)))(z:ia),oZ jC z a=aa3 z a
 |[],_=>rfl
 |c::a,z=>by show(jC z c).2::oZ jC (jC z c).1 a=(jC z c).2::aa3 (jC z c).1 a;rw[Gr a]
def Ug(e:EC c=some k)(d:bz z k=(b,jp a)):jC z c=(b,tx a.1 a.2 []):=by unfold jC;rw[e];show((bz z k).1,tx (bz z k).2.ret (bz z k).2.nums ((bz z k).2.text.map _))=_;rw[d];rfl
def Ow(h:nW q=some v):(q=1/\v=(2,1))\/(q=2/\v=(2,1))\/(q=3/\v=(3,0))\/(q=4/\v=(6,0))\/(q=5/\v=(0,0))\/(q=6/\v=(1,0))\/(q=7/\v=(3,0))\/(q=8/\v=(1,0))\/(q=9/\v=(2,0))\/(q=10/\v=(2,0))\/(q=11/\v=(2,0))\/(q=12/\v=(0,0)):=by
 unfold nW at h;by_cases e:q=1;·grind
 rw[aL e] at h;refine .inr ?_;by_cases d:q=2;·grind
 rw[aL d] at h;refine .inr ?_;by_cases c:q=3;·grind
 rw[aL c] at h;refine .inr ?_;by_cases b:q=4;·grind
 rw[aL b] at h;refine .inr ?_;by_cases a:q=5;·grind
 rw[aL a] at h;refine .inr ?_;by_cases f:q=6;·grind
 grind
structure zB(ns:List Int)(p:Nat)(c:List (List Int))(t:List Int):Prop where
 ex:∃n k z:Nat,(ns.map fz)[p]?=some n/\oJ.lookup (n:Int)=some (k:Int)/\(m8 n=true->(ns.map fz)[p+1+k]?=some z)/\ns.drop (gk (ns.map fz) p n k z).hG=t/\
  (ED (jD c)=true->qS (gk (ns.map fz) p n k z)/\EC (jD c)=some (m6<|gk (ns.map fz) p n k z))
def fP(h:fF z=true):z.toNat<=4294967295:=by unfold fF at h;grind
def HE{a:List Int}(h:a.drop p=q::r):(a.map fz)[p]?=some q.toNat/\(a.map fz).drop (p+1)=r.map fz/\∀i,a.drop (p+1+i)=r.drop i:=by
 refine⟨?_,?_,λi=>?_⟩
 ·rw[hZ,<-acG p,<-abh,h];rfl
 ·rw[<-o0,<-AF,h];rfl
 ·rw[<-AF,<-AF,h];rfl
def om{n k:Nat}(h:a.drop p=q::r)(d:q=(n:Int))(b:oJ.lookup (n:Int)=some (k:Int))(f:m8 n=false)(g:ED (jD c)=true->qS ⟨n,(r.map fz).take k,[],p+1+k⟩/\EC (jD c)=some (m6 ⟨n,(r.map fz).take k,[],p+1+k⟩)):zB a p c (r.drop k):=by
 obtain⟨l,j,i⟩:=HE h;have e:gk (a.map fz) p n k 0=⟨n,(r.map fz).take k,[],p+1+k⟩:=by unfold gk;grind
 refine⟨n,k,0,by grind,b,(by grind),?_,λz=>?_⟩;·grind
 grind
def RJ{n:Nat}(h:d.drop p=q::a::b::m::r)(i:q=(n:Int))(g:oJ.lookup (n:Int)=some ((2:Nat):Int))(j:m8 n=true)(k:ED (jD c)=true->qS ⟨n,[a.toNat,b.toNat],(r.map fz).take m.toNat,p+1+2+1+m.toNat⟩/\EC (jD c)=some (m6 ⟨n,[a.toNat,b.toNat],(r.map fz).take m.toNat,p+1+2+1+m.toNat⟩)):zB d p c (r.drop m.toNat):=by
 obtain⟨o,l,f⟩:=HE h;have s:(d.map fz).drop (p+1+2+1)=r.map fz:=by rw[<-o0,show p+1+2+1=p+1+3 from rfl,f];rfl
 have e:gk (d.map fz) p n 2 m.toNat=⟨n,[a.toNat,b.toNat],(r.map fz).take m.toNat,p+1+2+1+m.toNat⟩:=by unfold gk;grind
 refine⟨n,2,m.toNat,by grind,g,λ_=>?_,?_,λz=>?_⟩
 ·rw[hZ];have:d[p+1+2]?=some m:=by rw[<-acG<|p+1+2,<-abh,f];rfl
  grind
 ·rw[e];show d.drop (p+1+2+1+m.toNat)=_;rw[show p+1+2+1+m.toNat=p+1+(3+m.toNat) by omega,f,<-AF];rfl
 grind
def ox(n b:Nat)(l:List Nat)(f:1<=n)(e:n<=12)(d:l.length=L0 n)(c:∀x∈l,x<=4294967295):qS ⟨n,l,[],b⟩:=⟨f,e,d,c,j0 _,λx a=>by cases a⟩
def XS(h:M.drop p=q::r)(A:NF nW (q::r)=some (c,t)):zB M p c t:=by
 have A:(match nW q with
  |none=>none
  |some (n,k)=>if r.length<n then none else match E9 k (r.drop n) with
   |none=>none
   |some (C,t)=>some ((q::r.take n)::C,t))=some (c,t):=A
 cases N:nW q with
 |none=>grind
 |some v=>
  obtain⟨n,k⟩:=v;rw[N] at A;have A:(if r.length<n then none else match E9 k (r.drop n) with
   |none=>none
   |some (C,t)=>some ((q::r.take n)::C,t))=some (c,t):=A
  by_cases j:r.length<n;·grind
  rw[aL j] at A;have L:∀{m:Nat},q=(m:Int)->(m=1\/m=2)->(n,k)=(2,1)->zB M p c t:=λ{m}D G e=>by
   injection e with l z;subst l z;match r,j,h,A with
   |[],j,_,_=>grind
   |[_],j,_,_=>grind
   |a::b::B,_,h,A=>
    have A:(match E9 1 B with
     |none=>none
     |some (C,t)=>some ((q::[a,b])::C,t))=some (c,t):=A
    cases B with
    |nil=>cases A
    |cons w o=>
     have A:(match(match(if 0<=w/\w.toNat<=o.length then some (o.take w.toNat,o.drop w.toNat) else none) with
      |none=>none
      |some (x,s)=>(match E9 0 s with
       |none=>none
       |some (C,t)=>some (x::C,t))) with
      |none=>none
      |some (C,t)=>some ((q::[a,b])::C,t))=some (c,t):=A
     by_cases hw:0<=w/\w.toNat<=o.length
     ·rw[aM hw] at A;cases A;have lk:oJ.lookup (m:Int)=some ((2:Nat):Int):=by rcases G with rfl|rfl<;>rfl
      have O:m8 m=true:=by rcases G with rfl|rfl<;>rfl
      refine RJ h D lk O λf=>?_;have l:(o.map fz).take w.toNat=(o.take w.toNat).map fz:=n_.symm;rw[l];rcases G with rfl|rfl
      ·have D:q=1:=D;subst D;have f:(fF a&&fF b&&decide ((o.take w.toNat).length<=200)&&(o.take w.toNat).all fF)=true:=f;simp only[dc,eg,iu] at f;obtain⟨⟨⟨K,J⟩,P⟩,E⟩:=f;refine⟨⟨(show 1<=1 by decide),(show 1<=12 by decide),rfl,λx i=>?_,by grind,λx i=>?_⟩,rfl⟩
       ·rcases cO.mp i with rfl|i;·exact fP K
        ·rw[gY.mp i];exact fP J
       ·obtain⟨y,F,rfl⟩:=cY.mp i;exact fP<|E y F
      ·have D:q=2:=D;subst D;have f:(fF a&&fF b&&decide ((o.take w.toNat).length<=200)&&(o.take w.toNat).all fF)=true:=f;simp only[dc,eg,iu] at f;obtain⟨⟨⟨K,J⟩,P⟩,E⟩:=f;refine⟨⟨(show 1<=2 by decide),(show 2<=12 by decide),rfl,λx i=>?_,by grind,λx i=>?_⟩,rfl⟩
       ·rcases cO.mp i with rfl|i;·exact fP K
        ·rw[gY.mp i];exact fP J
       ·obtain⟨y,F,rfl⟩:=cY.mp i;exact fP<|E y F
     grind
  have g:k=0->c=[q::r.take n]/\t=r.drop n:=λe=>by subst e;have A:some ((q::r.take n)::[],r.drop n)=some (c,t):=A;grind
  rcases Ow N with⟨e,u⟩|⟨e,u⟩|⟨e,u⟩|⟨e,u⟩|⟨e,u⟩|⟨e,u⟩|⟨e,u⟩|⟨e,u⟩|⟨e,u⟩|⟨e,u⟩|⟨e,u⟩|⟨e,u⟩;·grind
  ·grind
  ·injection u with l z;subst l;obtain⟨rfl,rfl⟩:=g z;subst e;match r,j,h with
   |a::b::d::B,_,h=>
    refine om h (n:=3) (k:=3) rfl rfl rfl λf=>?_;have f:(fF a&&fF b&&fF d)=true:=f;simp only[dc] at f;refine⟨ox 3 _ [a.toNat,b.toNat,d.toNat] (by decide) (by decide) rfl λx i=>?_,rfl⟩;have i:x=a.toNat\/x=b.toNat\/x=d.toNat:=by grind
    rcases i with rfl|rfl|rfl;·exact fP f.1.1
    ·exact fP f.1.2
    ·exact fP f.2
   |[],j,_=>grind
   |[_],j,_=>grind
   |[_,_],j,_=>grind
  ·injection u with l z;subst l;obtain⟨rfl,rfl⟩:=g z;subst e;match r,j,h with
   |a::b::d::E::I::H::B,_,h=>
    refine om h (n:=4) (k:=6) rfl rfl rfl λf=>?_;have f:(fF a&&fF b&&fF d&&fF E&&fF I&&fF H)=true:=f;simp only[dc] at f;refine⟨ox 4 _ [a.toNat,b.toNat,d.toNat,E.toNat,I.toNat,H.toNat] (by decide) (by decide) rfl λx i=>?_,rfl⟩;have i:x=a.toNat\/x=b.toNat\/x=d.toNat\/x=E.toNat\/x=I.toNat\/x=H.toNat:=by grind
    rcases i with rfl|rfl|rfl|rfl|rfl|rfl;·exact fP f.1.1.1.1.1
    ·exact fP f.1.1.1.1.2
    ·exact fP f.1.1.1.2
    ·exact fP f.1.1.2
    ·exact fP f.1.2
    ·exact fP f.2
   |[],j,_=>grind
   |[_],j,_=>grind
   |[_,_],j,_=>grind
   |[_,_,_],j,_=>grind
   |[_,_,_,_],j,_=>grind
   |[_,_,_,_,_],j,_=>grind
  ·injection u with l z;subst l;obtain⟨rfl,rfl⟩:=g z;subst e;exact om h (n:=5) (k:=0) rfl rfl rfl λ_=>⟨ox 5 _ [] (by decide) (by decide) rfl λx i=>(by cases i),rfl⟩
  ·injection u with l z;subst l;obtain⟨rfl,rfl⟩:=g z;subst e;match r,j,h with
   |a::B,_,h=>refine om h (n:=6) (k:=1) rfl rfl rfl λf=>?_;have f:(fF a)=true:=f;refine⟨ox 6 _ [a.toNat] (by decide) (by decide) rfl λx i=>?_,rfl⟩;rw[gY.mp i];exact fP f
   |[],j,_=>grind
  ·injection u with l z;subst l;obtain⟨rfl,rfl⟩:=g z;subst e;match r,j,h with
   |a::b::d::B,_,h=>
    refine om h (n:=7) (k:=3) rfl rfl rfl λf=>?_;have f:(fF a&&fF b&&fF d)=true:=f;simp only[dc] at f;refine⟨ox 7 _ [a.toNat,b.toNat,d.toNat] (by decide) (by decide) rfl λx i=>?_,rfl⟩;have i:x=a.toNat\/x=b.toNat\/x=d.toNat:=by grind
    rcases i with rfl|rfl|rfl;·exact fP f.1.1
    ·exact fP f.1.2
    ·exact fP f.2
   |[],j,_=>grind
   |[_],j,_=>grind
   |[_,_],j,_=>grind
  ·injection u with l z;subst l;obtain⟨rfl,rfl⟩:=g z;subst e;match r,j,h with
   |a::B,_,h=>refine om h (n:=8) (k:=1) rfl rfl rfl λf=>?_;have f:(fF a)=true:=f;refine⟨ox 8 _ [a.toNat] (by decide) (by decide) rfl λx i=>?_,rfl⟩;rw[gY.mp i];exact fP f
   |[],j,_=>grind
  ·injection u with l z;subst l;obtain⟨rfl,rfl⟩:=g z;subst e;match r,j,h with
   |a::b::B,_,h=>
    refine om h (n:=9) (k:=2) rfl rfl rfl λf=>?_;have f:(fF a&&fF b)=true:=f;simp only[dc] at f;refine⟨ox 9 _ [a.toNat,b.toNat] (by decide) (by decide) rfl λx i=>?_,rfl⟩;have i:x=a.toNat\/x=b.toNat:=by grind
    rcases i with rfl|rfl;·exact fP f.1
    ·exact fP f.2
   |[],j,_=>grind
   |[_],j,_=>grind
  ·injection u with l z;subst l;obtain⟨rfl,rfl⟩:=g z;subst e;match r,j,h with
   |a::b::B,_,h=>
    refine om h (n:=10) (k:=2) rfl rfl rfl λf=>?_;have f:(fF a&&fF b)=true:=f;simp only[dc] at f;refine⟨ox 10 _ [a.toNat,b.toNat] (by decide) (by decide) rfl λx i=>?_,rfl⟩;have i:x=a.toNat\/x=b.toNat:=by grind
    rcases i with rfl|rfl;·exact fP f.1
    ·exact fP f.2
   |[],j,_=>grind
   |[_],j,_=>grind
  ·injection u with l z;subst l;obtain⟨rfl,rfl⟩:=g z;subst e;match r,j,h with
   |a::b::B,_,h=>
    refine om h (n:=11) (k:=2) rfl rfl rfl λf=>?_;have f:(fF a&&fF b)=true:=f;simp only[dc] at f;refine⟨ox 11 _ [a.toNat,b.toNat] (by decide) (by decide) rfl λx i=>?_,rfl⟩;have i:x=a.toNat\/x=b.toNat:=by grind
    rcases i with rfl|rfl;·exact fP f.1
    ·exact fP f.2
   |[],j,_=>grind
   |[_],j,_=>grind
  ·injection u with l z;subst l;obtain⟨rfl,rfl⟩:=g z;subst e;exact om h (n:=12) (k:=0) rfl rfl rfl λ_=>⟨ox 12 _ [] (by decide) (by decide) rfl λx i=>(by cases i),rfl⟩
def Ts(a:An):a.2.length<=(tx a.1 a.2 []).length:=by unfold tx;grind
def Wm(h:List Int):∀(g p n:Nat)(S:Option aZ)(z:ia)(d:List (List (List Int))),AI nW g (h.drop p)=some d->((d.map jD).all ED)=true->n+d.length<=400->rd n S z->
 (∀a∈oZ jC z (d.map jD),a.length<=2000000)->rg (h.map fz) p S (xq (oZ jC z (d.map jD))):=by
 intro g;induction g with
 |zero=>
  intro p n S z d b _ _ _ _;cases e:h.drop p with
  |nil=>
   rw[e] at b;cases b;refine .done ?_;rw[bS];have:(h.drop p).length=0:=by grind
   grind
  |cons q r=>rw[e] at b;cases b
 |succ f L=>
  intro p n S z d b i B E v;cases e:h.drop p with
  |nil=>
   rw[e] at b;cases b;refine .done ?_;rw[bS];have:(h.drop p).length=0:=by grind
   grind
  |cons q r=>
   rw[e] at b;have b:(match NF nW (q::r) with
    |none=>none
    |some (c,t)=>match AI nW f t with
     |none=>none
     |some d=>some<|c::d)=some d:=b
   cases x:NF nW (q::r) with
   |none=>grind
   |some K=>
    obtain⟨c,t⟩:=K;rw[x] at b;have b:(match AI nW f t with
     |none=>none
     |some d=>some<|c::d)=some d:=b
    cases F:AI nW f t with
    |none=>grind
    |some l=>
     rw[F] at b;cases b;obtain⟨m,k,y,J,I,H,M,G⟩:=(XS e x).ex;rw[dB,rB,dc] at i;obtain⟨w,j⟩:=G i.1;rw[dI] at B;obtain⟨C,A,o,D⟩:=Sm (by omega) E w;have s:=Ug j o;rw[dB] at v ⊢;have u:oZ jC z (jD c::l.map jD)=tx (eV S (gk (h.map fz) p m k y)).2.1 (eV S (gk (h.map fz) p m k y)).2.2 []::oZ jC A (l.map jD):=by show(jC z<|jD c).2::oZ jC (jC z<|jD c).1 _=_;rw[s]
     rw[u] at v ⊢;rw[Gq,SU];refine .step J I H w C ?_<|by grind
     exact dY (Ts _)<|v _ cc
def GY:∀(l:List (List Int))(n:Nat),l.foldl (λn a=>n+uV a) n<1000000->(∀a∈l,a.length<=1000002)/\(xq l).length+n<=1000000+3*l.length
 |[],n,h=>⟨(λa d=>by cases d),(by have h:n<1000000:=h;show 0+n<=_;omega)⟩
 |a::l,n,h=>by
  have h:l.foldl (λn a=>n+uV a) (n+uV a)<1000000:=h;obtain⟨m,j⟩:=GY l _ h;have c:∀(l:List (List Int))(k:Nat),k<=l.foldl (λn a=>n+uV a) k:=by
   intro l;induction l with
   |nil=>grind
   |cons b l e=>grind
  have i:=c l<|n+uV a;have g:a.length<=uV a+2:=by unfold uV;grind
  refine⟨λb f=>?_,?_⟩;·grind
  ·rw[Gq,jY,dI,dI];omega
def QS(h:MI d=true):rg (d.map fz) 0 none (As d)/\(As d).length<=2000000:=by
 unfold MI at h;unfold As;unfold PyWqazcs.calls at h ⊢;cases e:AI nW d.length d with
 |none=>grind
 |some b=>
  rw[e] at h;have h:(PyFlat.atMost 400 (b.map jD)&&aaU (b.map jD))=true:=h;rw[dc] at h;have f:=h.2;unfold aaU at f;rw[dc,dc,dc,eg,eg,eg] at f;obtain⟨⟨⟨l,_⟩,k⟩,g⟩:=f;rw[<-Gr] at g;obtain⟨j,o⟩:=GY _ 0 g;rw[bS] at k;have m:∀(b:List (List (List Int)))(z:ia),(oZ jC z b).length=b.length:=by
   intro b;induction b with
   |nil=>exact λ_=>rfl
   |cons c b n=>exact λz=>by show(_::oZ _ _ _).length=_;grind
  show rg _ 0 none (xq<|oZ jC aaT<|b.map jD)/\(xq<|oZ jC aaT<|b.map jD).length<=2000000;refine⟨Wm d d.length 0 0 none none b e l (by omega) rfl λa i=>dY (j a i) (by decide),?_⟩;grind
end Pf
namespace Pf
open PySem PySem.Spec PyProof.Rows L2 L3
structure Ev(P:a0)(w:aT)(K:ax)(mg:ak->Option af)(ai h:aJ):Prop where
 X:K.In h
 G:h.Ns iY mg
def b9(E:Ev g w i s n h)(z:∀f t,bK i x x d f t->bB g w i s n bC k f t o y)(a:xn i iY x=some (some (.ref f)):=by k_is)(l:i.lookup f=some ⟨D,C,.func<|lW x x (l9 d) (iF d) (bh d) .none e H r v A u,B⟩:=by k_is)(c:xi i A x=true:=by k_is)(kp:rx i (.ref f)=true:=by k_is)(b:∀(e p r:af)(v:Option aa)(q u:af)(j:List af),j.length=o.length->Ff (lW x x (l9 d) (iF d) (bh d) .none e p r v q u) ⟨j,[]⟩=pure (o.zip j):=by first|exact(λ_ _ _ _ _ _ j m=>(match j,m with|[_],_=>rfl))|exact(λ_ _ _ _ _ _ j m=>(match j,m with|[_,_],_=>rfl))|exact(λ_ _ _ _ _ _ j m=>(match j,m with|[_,_,_],_=>rfl))|exact(λ_ _ _ _ _ _ j m=>(match j,m with|[_,_,_,_],_=>rfl))|exact(λ_ _ _ _ _ _ j m=>(match j,m with|[_,_,_,_,_],_=>rfl))|exact(λ_ _ _ _ _ _ j m=>(match j,m with|[_,_,_,_,_,_,_],_=>rfl))):aU g w i s n x k y:=⟨f,_,o,z _ _<|ze (st:=d) l c kp,xj E.X E.G a,kp,(ze (st:=d) l c kp).qO b⟩
def Yv{g:Prop}{st:cv}(X:d.In h)(G:h.Ns iY n)(i:n x=some (.ref o))(go:bK d x x st o (lW x x (l9 st) (iF st) (bh st) .none b p m r j q)->g)(a:xn d iY x=some (some<|.ref f):=by k_is)(l:d.lookup f=some ⟨u,t,.func<|lW x x (l9 st) (iF st) (bh st) .none b p m r j q,s⟩:=by k_is)(c:xi d j x=true:=by k_is)(k:rx d (.ref f)=true:=by k_is):g:=by have e:=i.symm.trans<|xj X G a;cases e;exact go<|ze (st:=st) l c k
def Mx(X:b.In h)(G:h.Ns iY c)(a:xn b iY x=some (some<|.int i t)):∃t,c x=some (.int i t):=⟨t,xj X G a⟩
structure Ck(K:ax)(mg:ak->Option af)(x q:ak)(st:cv)(C:aa):Prop where
 cl:ju K C
 ex:∃f fd,bK K "__init__" q st f fd/\mg x=some (.ref C)/\Mk K C f
def Ck.jV{P:a0}{w:aT}{K:ax}{j:ak->Option af}{d g:aJ}{x q:ak}{st:cv}{C:aa}{k:Nat}{i:List ak}{n:Sp}(h:Ck K j x q st C)(_:Ev P w K j d g)(p:∀f e,bK K "__init__" q st f e->bB P w K j d bC k f e i n)
 (b:∀(kV l o:af)(u:Option aa)(m t:af)(a:List af),a.length=i.length->Ff (lW "__init__" q (l9 st) (iF st) (bh st) .none kV l o u m t) ⟨a,[]⟩=pure (i.zip a):=by first|exact(λ_ _ _ _ _ _ a c=>(match a,c with|[_],_=>rfl))|exact(λ_ _ _ _ _ _ a c=>(match a,c with|[_,_],_=>rfl))|exact(λ_ _ _ _ _ _ a c=>(match a,c with|[_,_,_],_=>rfl))|exact(λ_ _ _ _ _ _ a c=>(match a,c with|[_,_,_,_],_=>rfl))|exact(λ_ _ _ _ _ _ a c=>(match a,c with|[_,_,_,_,_],_=>rfl))|exact(λ_ _ _ _ _ _ a c=>(match a,c with|[_,_,_,_,_,_,_],_=>rfl))):lG P w K j d x C k n:=by
 obtain⟨f,e,F,r,s⟩:=h.ex;exact⟨f,e,i,p f e F,r,s,F.qO b⟩
def wB(x q:ak)(st:cv)(X:d.In h)(G:h.Ns iY m)(r:xn d iY x=some (some<|.ref C):=by k_is)(a:qe d (.ref C) "__init__"=some (some<|.ref f):=by k_is)(i:abR d (.ref f)=true:=by k_is)(l:d.lookup f=some ⟨v,u,.func<|lW "__init__" q (l9 st) (iF st) (bh st) .none b w t z p y,s⟩:=by k_is)(c:xi d p q=true:=by k_is)(k:rx d (.ref f)=true:=by k_is)(j:EF d C Str.empty=true:=by k_is)(o:EA d C=true:=by k_is)(g:M7 d C=true:=by k_is)(e:qe d (.ref C) "__setattr__"=some (some<|.builtin "object.__setattr__"):=by k_is)(mk:Nh d C=true:=by k_is)(n:rx d (.ref C)=true:=by k_is):Ck d m x q st C:=⟨⟨j,o,g,e⟩,f,_,ze (st:=st) l c k,xj X G r,mk,a,i,n⟩
def Ck.na{K:ax}{b:ak->Option af}{y q:ak}{st:cv}{C:aa}{x:ak}(_:Ck K b y q st C)(a:qe K (.ref C) x=some none:=by k_is):fe K C x:=a
def Yw(E:Ev b w c g d h)(a:xn c iY x=some (some<|.ref T):=by k_is)(l:c.lookup T=some ⟨.type "tuple",j,.seq #[.int 1 f,.int 2 e] n,i⟩:=by k_is):∃T,g x=some (.ref T)/\∀H,cV c H T [.int 1,.int 2]:=⟨T,xj E.X E.G a,λH=>.inr ⟨_,_,n,l,rfl,rfl,by show 2<=bx;decide,.cons ⟨f,rfl⟩<|.cons ⟨e,rfl⟩ .nil⟩⟩
def Mu(e:Int×Int×fR×fR):Fe:=⟨hashInt e.1,.int e.1 e.2.2.1,.int e.2.1 e.2.2.2⟩
def GQ:∀l:List (Int×Int×fR×fR),Pairs (cF a w) (l.map Mu) (l.map λe=>((eX e.1:bg),rC e.2.1 e.2.2.2))
 |[]=>.nil
 |e::l=>.cons (by show xr e.1 (.int e.1 e.2.2.1)=true;simp[xr]) rfl (GQ l)
def JB:∀(l:List (Int×Int×fR×fR))(i n:Int),((l.map λe=>(e.1,e.2.1)).lookup i=some n)->∃t,l5 (l.map λe=>((eX e.1:bg),rC e.2.1 e.2.2.2)) (.inl i)=some (.int n t)
 |[],i,n,h=>by cases h
 |e::l,i,n,h=>by
  rw[dB,Nm] at h;rw[dB];by_cases q:i=e.1
  ·rw[show(i==e.1)=true from beq_iff_eq.mpr q] at h;have h:some e.2.1=some n:=h;cases h;exact⟨e.2.2.2,by simp[l5,q]⟩
  ·rw[show(i==e.1)=false from beq_eq_false_iff_ne.mpr q] at h;obtain⟨t,b⟩:=JB l i n h;refine⟨t,?_⟩;rw[<-b];have a:¬e.1=i:=λz=>q z.symm;simp[l5,a]
def Wr(E:Ev b w c R p h)(a:xn c iY x=some (some<|.ref D):=by k_is)(l:c.lookup D=some ⟨.type "dict",none,.dict #[⟨1,.int 1 Q,.int 2 B⟩,⟨2,.int 2 O,.int 2 A⟩,⟨3,.int 3 N,.int 3 z⟩,⟨4,.int 4 M,.int 6 v⟩,⟨5,.int 5 L,.int 0 u⟩,⟨6,.int 6 J,.int 1 t⟩,⟨7,.int 7 I,.int 3 s⟩,⟨8,.int 8 H,.int 1 r⟩,⟨9,.int 9 C,.int 2 q⟩,⟨10,.int 10 o,.int 2 j⟩,⟨11,.int 11 m,.int 2 g⟩,⟨12,.int 12 k,.int 0 f⟩] U,#[]⟩:=by k_is):∃D,R x=some (.ref D)/\KD b w c D oJ:=by
 refine⟨D,xj E.X E.G a,?_⟩;let d:List (Int×Int×fR×fR):=[(1,2,Q,B),(2,2,O,A),(3,3,N,z),(4,6,M,v),(5,0,L,u),(6,1,J,t),(7,3,I,s),(8,1,H,r),(9,2,C,q),(10,2,o,j),(11,2,m,g),(12,0,k,f)]
 refine⟨⟨_,(d.map Mu).toArray,U,d.map λe=>((eX e.1:bg),rC e.2.1 e.2.2.2),l,⟨rfl,rfl,rfl⟩,rfl,λe T=>?_,by simpa using GQ d,by show([.inl 1,.inl 2,.inl 3,.inl 4,.inl 5,.inl 6,.inl 7,.inl 8,.inl 9,.inl 10,.inl 11,.inl 12]:List bg).Nodup;decide,λi n S=>JB d i n S⟩⟩;obtain⟨y,Y,rfl⟩:=cY.mp<|List.mem_toArray.mp T;refine⟨.inl y.1,?_,rfl⟩;show xr y.1 (.int y.1 y.2.2.1)=true;simp[xr]
def fin{P:a0}{w:aT}{K:ax}{c:ak->Option af}{d:aa}{kV g e j i:af}{k:Option aa}(_:bK K "answers" "answers" (aF 117) d (lW "answers" "answers" (l9<|aF 117) (iF<|aF 117) (bh<|aF 117) .none kV g e k j i))(h:∀a:aJ,bB P w K c a bC 10 d (lW "answers" "answers" (l9 (aF 117)) (iF (aF 117)) (bh (aF 117)) .none kV g e k j i) ["calls"] (v8 K)):
 ∃f:bI,(∀(s:am)(b:List af),b.length=(["calls"]:List ak).length->xz s f ⟨b,[]⟩ ((["calls"]:List ak).zip b))/\∀a:aJ,K.In a->a.Ns iY c->bB P w K c a bC 10 d f ["calls"] (v8 K):=
 ⟨_,λs b l=>match b,l with|[_],_=>.of_eq rfl,λa _ _=>h a⟩
def UX(h:e=[.ref a])(k:bi b H a (l.map V.int))(j:∀x∈l,0<=x)(m:l.length<=30000)(c:MI l=true)(i:∀(d:Hp)(p:aa),d p=some (.aq ((As l).map V.int))->R (.ref p) d):v8 b e H R E:=by
 have n:ni (l.map fz)=l:=by
  unfold ni;rw[d_]
  conv=>rhs;rw[<-Fa l]
  exact xa<|by grind
 obtain⟨g,f⟩:=QS c;exact⟨a,l.map fz,As l,h,by grind,by grind,g,f,i⟩
end Pf
open PySem PySem.W PyProof.Rows
set_option maxRecDepth 100000 in
set_option maxHeartbeats 0 in
theorem PySem.Challenge.cw_landdays_s01_answers_holds : PySem.Challenge.rw_landdays_s01_answers.Holds := by
 w_on;k_headS;(case hw=>exact⟨[.list [.int 12]],by decide+kernel,by decide+kernel⟩)
 k_fillS
 refine L2.PH (r:=PySem.Challenge.rw_landdays_s01_answers) (k:=10) (CX:=L2.bC) (ps:=["calls"]) (sp:=Pf.v8) (by decide+kernel) rfl rfl ⟨rfl,by decide,by decide⟩ (λw h Y=>PySem.W.kIn_of Y) ?F ?S λ_ _ _ _ z=>z;case F=>
  intro w mg fa h Y KX G hmg;have A:Pf.MG mg:=by constructor<;>first|exact PySem.W.mg_none_of KX G (by k_is)|exact Pf.Mx KX G<|by k_is
  have G2:Pf.z6 mg:=by constructor<;>exact Pf.Mx KX G<|by k_is
  have K':=Pf.wB "Desk" "Desk.__init__" (Pf.ki (Pf.aF 110) 0) KX G;have O:=Pf.wB "Call" "Call.__init__" (Pf.ki (Pf.aF 109) 0) KX G;have i:=Pf.wB "Parcel" "Parcel.__init__" (Pf.ki (Pf.aF 24) 0) KX G;have j:=Pf.wB "Registry" "Registry.__init__" (Pf.ki (Pf.aF 26) 0) KX G;have g':=Pf.wB "Act" "Act.__init__" (Pf.ki (Pf.aF 25) 0) KX G;have Cc:Pf.fX _ ⟨_,_,_⟩:=⟨i.cl,i.na,i.na,i.na,i.na,i.na,g'.cl,g'.na,g'.na,g'.na,g'.na,j.cl,j.na,j.na,j.na⟩
  have Ce:Pf.uH _ ⟨_,_⟩:=⟨O.cl,O.na,O.na,O.na,O.na,K'.cl,K'.na⟩
  refine Pf.Yv (x:="answers") (st:=Pf.aF 117) KX G hmg λF0=>?_;refine Pf.fin F0 λb=>?_;have E:Pf.Ev PySem.Challenge.rw_landdays_s01_answers.prog w _ mg b h:=⟨KX,G⟩
  have G3:=Pf.Mz.mk (Pf.Yw E)<|Pf.Wr E;have Z':=K'.jV E λ_ _ F=>Pf.Tl _ Ce F;have H_Call:=O.jV E λ_ _ F=>Pf.RX _ Ce F;have M':=Pf.b9 E λ_ _ F=>Pf.Ut ⟨_,_⟩ F G3 H_Call;have d:=Pf.b9 E λ_ _ F=>Pf.O3 F;have d':=Pf.b9 E λ_ _ F=>Pf.QV F A;have Q':=Pf.b9 E λ_ _ F=>Pf.Vx F A;have c:=Pf.b9 E λ_ _ F=>Pf.Sj F A;have f:=Pf.b9 E λ_ _ F=>Pf.Vt F A c;have U:=Pf.b9 E λ_ _ F=>Pf.PF F A;have n:=Pf.b9 E λ_ _ F=>Pf.SQ F;have g:=Pf.b9 E λ_ _ F=>Pf.Yk F A n;have T:=Pf.b9 E λ_ _ F=>Pf.UZ F n;have M:=Pf.b9 E λ_ _ F=>Pf.Uq F g T;have o:=Pf.b9 E λ_ _ F=>Pf.SA F A M;have I':=Pf.b9 E λ_ _ F=>Pf.W_ F A Q' f U n c o;have J':=i.jV E λ_ _ F=>Pf.U4 _ Cc F;have P':=j.jV E λ_ _ F=>Pf.Va _ Cc F J';have v':=Pf.b9 E λ_ _ F=>Pf.T9 _ Cc _ Ce F A d d' I' P' f;have k':=Pf.b9 E λ_ _ F=>Pf.OR _ Cc F A;have f':=Pf.b9 E λ_ _ F=>Pf.SD _ Cc F A;have s:=Pf.b9 E λ_ _ F=>Pf.Pn _ Cc F A k' f';have v:=Pf.b9 E λ_ _ F=>Pf.W9 F A c g;have N':=Pf.b9 E λ_ _ F=>Pf.Rm F n;have C:=Pf.b9 E λ_ _ F=>Pf.Yy F c g N';have T':=Pf.b9 E λ_ _ F=>Pf.Uf F;have A':=Pf.b9 E λ_ _ F=>Pf.U2 F n T';have D:=Pf.b9 E λ_ _ F=>Pf.O4 F A;have n':=Pf.b9 E λ_ _ F=>Pf.QW F A A' D o;have Q:=Pf.b9 E λ_ _ F=>Pf.Ri F C;have V:=Pf.b9 E λ_ _ F=>Pf.VD F c T g Q;have o':=Pf.b9 E λ_ _ F=>Pf.Pp F A v C n' D V;have I:=Pf.b9 E λ_ _ F=>Pf.Uo F A c g;have e':=Pf.b9 E λ_ _ F=>Pf.P2 F;have c':=Pf.b9 E λ_ _ F=>Pf.SE F A U n;have B':=Pf.b9 E λ_ _ F=>Pf.RS F A I e' c';have m:=Pf.b9 E λ_ _ F=>Pf.Rq _ Cc F;have X':=g'.jV E λ_ _ F=>Pf.Ud _ Cc F;have l:=Pf.b9 E λ_ _ F=>Pf.OZ _ Cc F A m J' X';have r':=Pf.b9 E λ_ _ F=>Pf.Q6 _ Cc F A d s d' o' B' f l;have t':=Pf.b9 E λ_ _ F=>Pf.Tg F c;have C':=Pf.b9 E λ_ _ F=>Pf.Pz F A;have E':=Pf.b9 E λ_ _ F=>Pf.UM F I t' C' c' I';have w':=Pf.b9 E λ_ _ F=>Pf.Tz _ Cc F A d s m E' f l;have S':=Pf.b9 E λ_ _ F=>Pf.VI F A;have B:=Pf.b9 E λ_ _ F=>Pf.V2 F;have t:=Pf.b9 E λ_ _ F=>Pf.UB F B;have R':=Pf.b9 E λ_ _ F=>Pf.U1 F;have J:=Pf.b9 E λ_ _ F=>Pf.Pj F;have W':=Pf.b9 E λ_ _ F=>Pf.RL F t;have V':=Pf.b9 E λ_ _ F=>Pf.VF F t;have l':=Pf.b9 E λ_ _ F=>Pf.Sr F A J W' V';have h':=Pf.b9 E λ_ _ F=>Pf.QH _ Cc F X';have x':=Pf.b9 E λ_ _ F=>Pf.UR _ Cc F A d S' s m t R' J l' h';have L':=Pf.b9 E λ_ _ F=>Pf.TZ _ Cc F A;have u':=Pf.b9 E λ_ _ F=>Pf.Uh _ Cc F A d L';have G':=Pf.b9 E λ_ _ F=>Pf.V_ _ F G2 r' w' x' u';have D':=Pf.b9 E λ_ _ F=>Pf.OS F;have i':=Pf.b9 E λ_ _ F=>Pf.O_ _ Cc F A d f D';have L:=Pf.b9 E λ_ _ F=>Pf.OY _ Cc F;have u:=Pf.b9 E λ_ _ F=>Pf.QX _ Cc F A L;have O':=Pf.b9 E λ_ _ F=>Pf.Xq _ Cc F A u C v;have q':=Pf.b9 E λ_ _ F=>Pf.Rh _ F A u;have b':=Pf.b9 E λ_ _ F=>Pf.Uv _ Cc F;have p':=Pf.b9 E λ_ _ F=>Pf.Rs _ Cc F A d L b';have U':=Pf.b9 E λ_ _ F=>Pf.RC F t;have s':=Pf.b9 E λ_ _ F=>Pf.Rv _ Cc F A u J b' V' U' f;have m':=Pf.b9 E λ_ _ F=>Pf.Wc F A n;have y:=Pf.b9 E λ_ _ F=>Pf.Vu F A c m';have N:=Pf.b9 E λ_ _ F=>Pf.Vo F A v;have F':=Pf.b9 E λ_ _ F=>Pf.WM F A y N;have j':=Pf.b9 E λ_ _ F=>Pf.Pe _ Cc F A d F';have z':=Pf.b9 E λ_ _ F=>Pf.S_ _ Cc F A k';have a':=Pf.b9 E λ_ _ F=>Pf.Oz _ F G2 i' O' q' p' s' j' z';have y':=Pf.b9 E λ_ _ F=>Pf.Tj _ _ Ce F A G2 v' d G' a';have Y':=Pf.b9 E λ_ _ F=>Pf.Vc F A;exact Pf.Pm _ _ Ce F0 A Z' M' y' Y'
 case S=>
  intro K H xs a hO hwi hask hx;cases hx with
  |cons h1 h2=>
   cases h2;cases h1 with
   |aq hs ha=>have e:=L2.IX a.1 _ ha;subst e;have q:((tJ.inLen 0 30000 a.1&&a.1.all (tJ.inInt 0 4294967295))&&true)=true:=hwi;rw[dc,dc] at q;refine Pf.UX rfl hs (λx hx=>?_) (tJ.inNat_iff.mp q.1.1).2 hask λH' p hp=>.aq (L2.bi.of hp)<|L2.Jg _;have:=iu.mp q.1.2 x hx;unfold tJ.inInt at this;simp at this;omega
