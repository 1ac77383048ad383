import PyProof.Rows.All
import Wide.All
import OpenK.AllK
import Wide.FinOn
import PyProof.EqAt
import PyProof.EqKinds
import PyProof.TupleCall
import KE.BitLaws
import PyProof.ZipIter
import KE.KSortTupG
import KE.OsGo
import Open.SpecLaws
import PyProof.Rows.SortG.SortRunsSt
import PyProof.Sound
import KE.KRevSl
import PyProof.AutoSeq1
import PySem.Challenge.RW_timeways_s01_answers
set_option Elab.async false
set_option linter.all false
set_option maxRecDepth 100000
set_option maxHeartbeats 0
set_option compiler.extract_closed false
local macro_rules|`(tactic|lia)=>`(tactic|with_reducible first|assumption|exact Nat.le_of_lt ‹_›|exact Nat.le_of_not_lt ‹_›|exact Nat.lt_of_not_le ‹_›|exact Nat.lt_succ_of_le ‹_›|exact Nat.le_of_lt_succ ‹_›|exact Nat.lt_of_succ_lt ‹_›|exact Nat.le_succ_of_le ‹_›|exact Nat.sub_add_cancel ‹_›|exact Nat.sub_one_add_one ‹_›|exact Nat.lt_sub_of_add_lt ‹_›|exact Nat.add_lt_of_lt_sub ‹_›|exact Nat.le_sub_of_add_le ‹_›|exact Nat.eq_sub_of_add_eq ‹_›|exact Nat.lt_of_lt_of_le ‹_› (Nat.sub_le ..)|exact Nat.sub_one_lt_of_lt ‹_›|exact Nat.sub_one_lt ‹_›|exact Nat.lt_of_le_of_lt ‹_› ‹_›|exact Nat.lt_trans ‹_› ‹_›|exact Nat.le_trans ‹_› ‹_›|exact Nat.lt_of_lt_of_le ‹_› ‹_›|exact Int.le_trans ‹_› ‹_›|exact Int.le_of_lt ‹_›|exact Int.not_le.mp ‹_›|exact Int.not_lt.mp ‹_›|exact Int.le_of_eq ‹_›|exact Int.lt_of_lt_of_le ‹_› ‹_›|exact Int.lt_of_le_of_lt ‹_› ‹_›|exact Int.natCast_nonneg _|fail)
noncomputable section
abbrev zaa:List PySem.Str:=["self"]
abbrev zab:List PySem.Str:=["self","day"]
abbrev zac:List PySem.Str:=["plan","start","goal","day","minute"]
abbrev zad:List PySem.Str:=["self","stop","minute"]
abbrev zae:List PySem.Str:=["self","network"]
abbrev zaf:List PySem.Str:=["self","stop","minute","ready"]
abbrev zag:List PySem.Str:=["self","stop","minute","left"]
abbrev zah:List PySem.Str:=["network","start","minute"]
abbrev zai:List PySem.Str:=["most"]
abbrev zaj:List PySem.Str:=["self","start","minute"]
abbrev zak:List PySem.Str:=["self","changes","runs","walks"]
abbrev zal:List PySem.Str:=["self","stop"]
abbrev zam:List PySem.Str:=["rows","most"]
abbrev zan:List PySem.Str:=["plan","start","goal","day","minute","most"]
abbrev zao:List PySem.Str:=["minute"]
abbrev zap:List PySem.Str:=["self","search"]
abbrev zaq:List PySem.Str:=["self","stop","ready"]
abbrev zar:List PySem.Str:=["self","mirrored","goal","arrival","rides"]
abbrev zas:List PySem.Str:=["self","stops","comes","goes"]
abbrev zat:List PySem.Str:=["changes","runs","walks"]
abbrev zau:List PySem.Str:=["self","change"]
abbrev zav:List PySem.Str:=["self","start","goal","minutes"]
abbrev zaw:List PySem.Str:=["self","trip","day","call","minutes"]
abbrev zax:List PySem.Str:=["stops","comes","goes","stop_count"]
abbrev zay:List PySem.Str:=["minutes","call","before","since"]
abbrev zaz:List PySem.Str:=["self","trip","begins","weekday"]
abbrev zaA:List PySem.Str:=["plan","start","goal","day","first","last","most"]
abbrev zaB:List PySem.Str:=["self","run","call","left"]
abbrev zaC:List PySem.Str:=["plan","number","numbers"]
abbrev zaD:List PySem.Str:=["plan","number","numbers","row"]
abbrev zaE:List PySem.Str:=["self","days","calls"]
abbrev zaF:List PySem.Str:=["plan","start","day","minute","most"]
abbrev zaG:List PySem.Str:=["plan","stop","day","minute","most"]
abbrev zaH:List PySem.Str:=["network","start"]
abbrev zaI:List PySem.Str:=["network","on_foot"]
abbrev zaJ:List PySem.Str:=["network","start","goal","first","last"]
abbrev zaK:List PySem.Str:=["self","run"]
abbrev zaL:List PySem.Str:=["network","guide","stop","minute","left"]
abbrev zaM:List PySem.Str:=["network","guide","stop","ready","left"]
abbrev zaN:List PySem.Str:=["network","guide","start","minute","rides"]
open PySem.EqMixed renaming eq_bool_str->OD,eq_str_bool->OE,ne_bool_str->OF,ne_str_bool->OG,eq_int_str->OH,eq_str_int->OI,ne_int_str->OJ,ne_str_int->OK
open PySem.EqNone renaming eq_none_none->Ol,eq_none_bool->Om,eq_bool_none->Oo,ne_none_none->Oq,ne_none_bool->Ot,ne_bool_none->Ou,eq_none_int->Ov,eq_none_str->Ow,eq_int_none->Ox,eq_str_none->Oy,ne_none_int->Oz,ne_none_str->OA,ne_int_none->OB,ne_str_none->OC
open StateT renaming run_pure->Ez,run_bind->EA,run_lift->EB,run_get->EC
open Function renaming comp->x1
open Pure renaming pure->ot
open Sg45.Trip renaming lateOn->xX,comes->xY,goes->xZ,stopAt->Ey,runs->Oj
open PySem.Builtin.Dict renaming showsAll->Ex,dictSlotNone->Oh,noArgs->Oi
open Array.Perm renaming refl->xW
open List.Perm renaming of_eq->xV
open PyProof.Rows.G renaming sortHeap6->l_,tupKindC->xU
open PySem.Heap.IsList renaming push->xT
open Classical renaming byContradiction->Ew
open PySem.Sem renaming wp_pure'->oq,wp->hq,wp_bind'->xR,wp_mono->xS
open PySem.Around renaming under_plainId->xP,under->xQ
open Prod.mk renaming injEq->oo
open List.Nodup renaming length_le_of_subset->Eu
open PySem.Builtin renaming iter->bx,bitAnd->sT,globals->xO
open PySem.Calls renaming callWith_builtin->xM,Name_function_global->Er,spliced_cons->xN,evalArgs_plain->Es,spliced_nil->Et
open PySem.Builtin.Range renaming rangeSize->xK,small->Og
open ForInStep renaming yield->om
open PySem.NameKind renaming free->l9,cell->xJ
open PySem.Heap.SameBut renaming update->sS
open PySem.Obj renaming mapSeq->ho,data_mapDictKeys->xI,isFreed_of_dict->Em,data_mapFields->En,mapDictKeys->Eo,mapFields->Ep
open PyFlat renaming calls->jj,rows->oj,played->Ei,call->Ej,told->Ek,row->El
open List.cons renaming injEq->kx
open Array renaming mem_toList_iff->l8,perm_iff_toList_perm->xG,getElem?_eq_getElem->xH,length_toList->sR,getElem_toList->Ef,toList_map->Eg,toList->Eh
open PySg45 renaming shape->f3,whole->l7,answers_asked->xF,answers->sQ
open PyProof.Rows renaming callWith_type1->oh,IntsAre->cD,SortSt->bU,boot_list->sI,Keyed->cn,boot_min->xw,pairsOf->gz,sortedAll_old->D_,sortedAll_at->D',subscriptTail->sJ,boot_sorted->Ea,SortedToK->l6,AllBare->jg,envOfC->hl,subscriptTail_builtinR->Eb,pairsOf_size->sL,pairsOf_toList->xx,tuples'->kv,listUpdate_at->xy,Subscript_->sM,seqObj->jh,failedOf->oi,callWith_builtin1->Oe,seqEpoch_at->xA,iadd_int->Ec,IsTup->ji,boot_range->xB,SortKind->sN,size_push'->xC,lt_int->Ed,bitAnd_m1->Of,isTrue_and->Ee,TupsOf->sO,itemOrd->xD,Call_->sP,keyLt'->xE
open False renaming elim->ef
open PySem.Builtin.SmallTypes renaming ownedTupleIsFree->sG,nextOf->sH,ownedTupleHandOut->D9
open PySem.Builtin.List renaming listTooLong->l5,listFitsIndex->Od
open Sum renaming inl->ii,inr->jf
open Int renaming toNat_natCast->ee,toNat_of_nonneg->fi,neg_neg->dU,le_refl->fj,fdiv_eq_ediv_of_nonneg->D6,natCast_nonneg->D7,le_trans->xv,add_zero->D8
open PySem.Str renaming ofString->bO,empty->D5
open Sg45Neutral renaming nats->cL,step->l4,asked1->xu,whole32->D2,natural->D3,callOf->D4,asked->Oc
open PySem.Challenge renaming pw_timeways_s01_answers->je
open PySem.Value renaming ref->em,int->il,isInt->sE,bool->sF,isStrOf->DY,bytes->DZ,float->D0,type->D1
open Option.some renaming inj->b3,injEq->hk
open Option renaming toList_some->cK,map_some->ik,bind_some->sD,isSome_iff_exists->DQ,getD_some->xt,map_eq_none_iff->DR,map_eq_some_iff->DS,isSome_some->DT,isSome_map->DU,getD_none->DV,any_none->DW,any_some->DX
open PySem.PassesOwn renaming never->bN
open PySem.F renaming plainAttrs_list->cm,slot_list_append->da,type_list_append->dc,plainAttrs_dict->od,slot_dict_clear->oe,type_dict_clear->sC,slot_dict_get->xr,slot_dict_getitem->DL,slot_list_extend->DM,type_list_extend->DN,args_dict_get_3->DO,entry_dict_get->DP,args_dict_clear_1->N4,slot_list_reverse->N5,type_list_reverse->N6,entry_dict_clear->N7,args_tuple_lt_2->N8,entry_tuple_lt->N9,slot_tuple_lt->N_,type_dict_get->N',slot_list_pop->Oa,type_list_pop->Ob
open Bool renaming and_eq_true->ev,false_ne_true->cc,true_eq_false->c',false_eq_true->fX,or_eq_true->hj,eq_false_or_eq_true->sy,and_false->oa,true_and->oc,eq_iff_iff->sA,not_eq_true->xo,false_and->xp,and_eq_true_iff->DJ,and_true->xq,false_or->DK
open Nat renaming le_refl->tz,zero_le->f4,lt_of_lt_of_le->c_,ne_of_lt->cb,le_trans->dz,le_of_lt->ed,lt_irrefl->hh,min_eq_left->kr,lt_succ_of_lt->l3,le_succ->ij,lt_trans->jd,lt_of_lt_of_eq->n',le_of_eq->ku,le_of_succ_le->sq,lt_succ_self->sr,add_sub_cancel->xk,lt_of_le_of_lt->xl,zero_add->su,ne_of_gt->sv,not_lt_zero->xm,lt_trichotomy->DG,min_eq_right->DH,succ_le_succ->DI,le_zero->xn
open Sg45 renaming does->Ev,within->u8,instances->v4,Table->t1,before->ci,arrivals->aE,says->bM,asked->b2,follow->be,numbers->bT,Call->c9,empty->eb,stopOk->eV,Trip->bu,rides->eC,weekday->fU,callsOf->fV,callsOk->eW,told->bn,many->aJ,Right->bw,dropSame->gv,rounds->ec,earliest->jc,search->eD,fewest->gw,roomy->lZ,Place->l0,latest->l1,Leg->n0,Round->kq,going->so,next_->n_,leavings->xg,At->xh,go->xi,walked->xj,best->l2,Ans->DF
open PySem.W renaming Frag->wf,keepIn->cV,mg_none_of->hc,findIn->fS,emptyDict->ie,fnOf->fT,instObj->ja,mg_of->ig,nsIn->jb,codeIn->lY,plainGet->nY,hasDictIn->sl,inst->bf,plainGet_of->w9,isFn->nZ,reach->ea,lookIn->sm,callWith_K->w_,methodObj->w',plainOver->xa,cellsFrom_some->DA,takerIn->xb,makesIn->xc,methodCall_KW->DB,callWith_K0->DC,handedIn->DD,rangeSize_downNat->Nw,fencedOpening->DE,kHook->ko,krv_sliceRange->Nx,hideAll_size->Ny,hideAll_none->Nz,looks_findIn->NA,hideAll_get->NC,findObj_own->ND,looks_clsIn->NF,of_hideAll->NG,codeRec_of->NH,ki_setBack->NI,small_down->NK,krv_bounds->NL,get_value->NM,method_fn->NN,set_plain->NO,make_core->NQ,WellAll->xf,eq_bytes->NR,ne_bytes->NS,osa_open->NU,any_some->NV,InitBack->NW,makes_of->NX,ki_setAt->NY,hideAll->NZ,bind_fn->N0,InstAt->N1,typeIn->N2,kIn_of->N3
open PySem.Heap renaming get?_push_of_some->ln,get?_push_size->bc,lt_size->cr,size_push->cU,get?_update_other->ic,get?_update_self->kn,SameBut->lX,size_update->w7,get?_push_ne->Dz,IsList->w8
open PySem renaming wpAny_bind->IR,Addr->WF,sizeLine->Gc,Value->Tk,wpAny_pure->t3,Shared->Go,model->AT,boot_len->b1,mem_of_lookup->eA,starEach->al,Program->fr,mainGlobals->cS,Stmt->v2,cellsFrom->cJ,Expr->s5,World->kw,Heap->s2,wpAny_truthy_bool->i4,sliceBounds->fR,compareOp->dR,sysModules->eS,wpAny_mono->eT,wpAny_call_entry->i5,Around->bJ,wpAny_typeNameOfWhole_keyiter->rV,wpAny_seqItems->h8,NameKind->d8,wpAny_passesOwn->ki,wpAny_holding->i6,wpAny_typeNameOf_keyiter->rW,wpAny_callSpecial?_slot->rX,sizeLine_eq->h9,wpAny_Call_Name_kw->nN,wpAny_setField_rec->nO,compEnvC->ff,behindInMarks->kj,wpAny_pyIter_list->nP,wpAny_newObj_type->nQ,wpAny_field->i7,wpAny_letGo->i8,DictEntry->g_,wpAny_updateSeq->nR,argBest->fg,backTo->d9,tupleKind_room_in1->rY,bootBuiltins->lP,foldedSetIterable->rZ,binaryOp->ha,cLine->cT,wpAny_dictEntries->r0,wpAny_nextOf_list_item->wC,pyNext->eU,call_meets->kk,pushCells->i9,attributeBase->nS,wpAny_execs_nil->r1,letOwnedTupleGo->r2,pushCells_keeps->r3,Scope->d_,assignEach->lQ,wpAny_tryCatch->r4,Builtin->h_,slot_list_getitem->wD,valueAt->ia,IsZip->eB,wpAny_getItem_list_slice->CO,wpAny_attempt->r5,wpAny_onRaise->r6,plainId_quiet->r7,tupleKind->lR,swapsWith->lS,rawInt->hb,wpAny_pyNext_range_end->CQ,wpAny_pyIter_rangeiter->CT,codeAny_mono->r8,sliceRange->nT,wpAny_dictEpoch->wF,codeAny_builtin->wG,wpAny_isTrue_Compare1->CU,wpAny_notOrdered_dict->CV,wpAny_isOneOf_keyiter->CW,wpAny_loadName_local->CY,IsRangeIter->r9,FuncData->lT,keywordEach->r_,subscripted->r',holding->kl,wpAny_loadName_cell->CZ,wpAny_standAt->wH,wpAny_pyIter_range->C0,runs_reach->sb,Within->wI,wpAny_assign_Name->C1,getItem->lU,notedBy->lV,wpAny_pyIter_slot->C2,callerA->lW,wpAny_eqBool_int->C3,wpAny_execs_cons->C4,assign->km,getMethod->sd,slicePick->se,wpAny_getItem_of->C5,wpAny_Dict_empty->C6,wpAny_isInstance->C7,wpAny_pyIter_zip->C8,richCompare->wJ,seqIndex_of->wK,atKey->ib,BindsTo->nU,builtinsNs->wL,wpAny_Name->wM,recursionLimit->C9,backToKw->sg,bindL->i_,bindC->i',typeIs_int->wN,newFunctionEnv->C_,wpAny_fieldsOf->C',wpAny_setField->Dc,firstArgMember->Dd,isSubtype_stop->De,wpAny_newTuple->Df,rule->wO,intBits_le_64->Dg,evalPart_none->Dh,call_list_seq->Di,comprehension->Dj,intKind->Dk,wpAny_newList->Dl,treeTable->wQ,storeName->wR,inplaceOp->wU,updateSeq->wV,seqItems?->wW,Params->nV,standAt->sh,Keyword->si,call_meetsIn->Dm,interactive->Dn,Operator->wX,bindArgs->wY,wpAny_Slice->Dp,compPost->wZ,wpAny_of_eq->Dq,pyIter->sj,wpAny_load->Ds,wpAny_call->Dt,typeLookup->Du,PlainAttrs->Dw,closureFor->Dx,wpAny_rule->Dy,hashInt->w0,Model->nW,CmpOp->nX,setItem->w1,getAttr->w2,operate->w3,IsPart->w4,cellOf->w5,stored->w6,field->sk
open List renaming length_map->FM,getD_eq_getElem?_getD->np,mem_of_getElem?->pi,mem_singleton->sc,mem_cons_of_mem->o0,getElem?_eq_getElem->g1,getElem?_map->pr,length_append->ls,getElem?_eq_some_iff->aD,mem_cons_self->kt,mem_cons->rs,range->s4,map_cons->m0,mem_append->cs,mem_map->mo,replicate->f8,length_singleton->bK,size_toArray->aU,length_take->aP,length_cons->bt,map_map->ax,map_append->bL,take_add_one->cB,mem_range->bS,append_assoc->dv,map_congr_left->eE,take_length->dy,mem_zipIdx_iff_getElem?->ih,mem_iff_getElem?->fW,mem_append_right->fY,foldl_cons->dS,length_reverse->fh,mem_append_left->gx,length->cC,getElem_mem->eX,getElem?_range->gy,sum_cons->dV,mem_flatMap->fk,length_range->fZ,getElem?_eq_none->ip,filterMap_cons->hn,append_nil->fm,flatMap_cons->gA,pairwise_iff_getElem->ky,mem_filter->f5,all_eq_true->hp,replicate_succ->jk,nodup_append->iq,not_mem_nil->ir,pairwise_map->jl,getElem?_append_right->ou,nodup_cons->iu,getElem?_append_left->ow,length_filter_le->ma,filter_append->kz,length_drop->jm,lookup_cons->jn,getElem?_replicate->ox,getElem?_cons_zero->oy,flatten_cons->kA,mem_map_of_mem->mb,map_nil->hr,zipIdx_cons->kB,getElem?_eq_none_iff->sU,length_nil->kC,find?_cons->kD,mem_of_mem_take->oz,findSome?_cons->oA,flatMap_append->oB,cons_append->mc,pairwise_cons->oC,mem_filterMap->oD,zip_cons_cons->oE,nil_append->me,pairwise_flatMap->sV,foldl_append->oF,getElem?_set_ne->sW,lookup->jo,filter_cons->oG,drop_eq_getElem_cons->x2,filterMap_map->sX,range'->kE,getElem?_cons_succ->x3,findIdx?_eq_some_iff_getElem->ED,mem_range'_1->sY,getElem?_set_self->wa,reverse_cons->rM,forIn_nil->nL,take_of_length_le->wb,drop_of_length_le->wc,ext_getElem->rN,getElem_inj->rO,map_flatMap->rP,map_take->nM,pairwise_append->we,forIn_cons->rQ,length_flatMap->wg,getElem_range->wh,nodup_nil->rR,zipIdx_append->wi,length_mapIdx->wj,mem_of_find?_eq_some->Cg,ext_getElem?->wm,getElem?_take_of_lt->Ci,any_cons->rS,length_filterMap_le->Cj,pairwise_mergeSort->Ck,mem_reverse->wo,getElem_map->wq,length_eq_zero_iff->Cm,pairwise_lt_range->Cn,range_succ->wt,of_mem_zip->wu,findSome?_append->Co,getElem?_reverse->Cp,take_append_drop->Cq,mem_iff_getElem->Cr,map_id->rT,getElem?_mapIdx->Cs,drop_drop->wy,getElem_zipIdx->Ct,length_flatten->Cu,map_drop->wz,mem_mergeSort->Cv,find?_eq_none->Cw,length_zipIdx->Cy,getElem?_set->Cz,toArray->wA,any_eq_true->CA,map_reverse->CB,drop_length->CC,mem_mapIdx->CD,length_set->CF,zipIdx_nil->CH,find?_some->CI,foldl->wB,drop_zero->CK,sum_nil->CM
def sn:=@decide_eq_false
def sK:=@decide_eq_true
def Ps:=@if_neg
def No:=@if_pos
def dL:=@decide_eq_true_eq
def aK:=@if_false
def gB:=@of_decide_eq_true
def a9:=@if_true
def cM:=@congrArg
def iv:=@decide_eq_decide
def lO:=@beq_eq_false_iff_ne
def gu:=@beq_iff_eq
def wx:=@decide_eq_false_iff_not
def g9:=@or_false
def CJ:=@bne_self_eq_false
def O{a:Sort _}{x:a}:x=x:=rfl
namespace L2
open PySem PySem.Spec PyProof.Rows
noncomputable def bj (s:v2) (j:Nat):v2:=match s with
 |.ClassDef _ _ _ body _ _ _ _ _ _ _=>body.getD j (.Pass ⟨0,0,0,0⟩)
 |_=>.Pass ⟨0,0,0,0⟩
def gG (s:v2):Arguments:=match s with
 |.FunctionDef _ a _ _ _ _ _ _ _ _=>a
 |_=> {posonlyargs:=[],args:=[],vararg:=none,kwonlyargs:=[],kw_defaults:=[],kwarg:=none,defaults:=[]}
def fA (s:v2):List v2:=match s with
 |.FunctionDef _ _ b _ _ _ _ _ _ _=>b
 |_=>[]
def s1 (s:v2):d_:=match s with
 |.FunctionDef _ _ _ _ _ _ a _ _ _=>a
 |_=> {kind:=.function,names:=[],isGenerator:=false,isCoroutine:=false}
end L2
namespace Dv
open PySem L2
noncomputable def na (i:Nat):v2:=je.main.body.getD i (.Pass ⟨0,0,0,0⟩)
abbrev qU:v2:=bj (na 21) 0
abbrev qh:v2:=bj (na 21) 1
abbrev qg:v2:=bj (na 21) 2
abbrev j6:v2:=bj (na 21) 3
abbrev q0:v2:=bj (na 21) 4
abbrev qX:v2:=bj (na 21) 5
abbrev qy:v2:=bj (na 21) 6
abbrev qZ:v2:=bj (na 21) 7
abbrev qV:v2:=na 47
abbrev qK:v2:=bj (na 1) 0
abbrev qa:v2:=bj (na 1) 1
abbrev qI:v2:=na 2
abbrev qN:v2:=bj (na 15) 0
abbrev qb:v2:=bj (na 15) 1
abbrev qc:v2:=bj (na 15) 2
abbrev qd:v2:=bj (na 15) 3
abbrev qY:v2:=bj (na 15) 4
abbrev qz:v2:=bj (na 15) 5
abbrev qv:v2:=bj (na 15) 6
abbrev qJ:v2:=bj (na 15) 7
abbrev qT:v2:=bj (na 15) 8
abbrev qS:v2:=bj (na 15) 9
abbrev qA:v2:=na 16
abbrev qn:v2:=na 17
abbrev qW:v2:=na 18
abbrev qk:v2:=na 44
abbrev qB:v2:=na 45
abbrev qC:v2:=na 46
abbrev qp:v2:=na 37
abbrev qH:v2:=na 38
abbrev qw:v2:=na 39
abbrev qO:v2:=na 40
abbrev qP:v2:=na 41
abbrev qE:v2:=na 42
abbrev qi:v2:=na 43
abbrev qo:v2:=na 48
abbrev q2:v2:=na 30
abbrev qM:v2:=na 31
abbrev qr:v2:=na 32
abbrev qF:v2:=bj (na 24) 0
abbrev qj:v2:=bj (na 24) 1
abbrev qL:v2:=bj (na 24) 2
abbrev qG:v2:=bj (na 24) 3
abbrev qx:v2:=bj (na 25) 0
abbrev q1:v2:=bj (na 25) 1
abbrev ql:v2:=bj (na 25) 2
abbrev qm:v2:=bj (na 25) 3
abbrev qs:v2:=na 26
abbrev qu:v2:=na 27
abbrev qt:v2:=na 28
abbrev hV:v2:=na 61
abbrev qf:v2:=na 62
abbrev qe:v2:=na 63
noncomputable def zE (P:nV) (k:String) (t:Nat) (v:Tk):g_:=⟨PyData.keyHash P (bO k),.str (bO k) t,v⟩
noncomputable def rK:Tk:=.str (bO "timeways.network") 187
noncomputable def eR:Tk:=.str (bO "timeways.plan") 253
noncomputable def h7:Tk:=.str (bO "timeways.search") 424
noncomputable def fe:Tk:=.str (bO "timeways.legs") 539
noncomputable def v':Tk:=.str (bO "timeways.profiles") 723
noncomputable def fQ:Tk:=.str (bO "timeways.questions") 766
noncomputable def rL:Tk:=.str (bO "timeways.timetable") 901
noncomputable def zF (n q:String) (st:v2) (m:Tk) (c:Nat):Obj:=⟨.type "function",none,.func (fT (bO n) (bO q) (gG st) (fA st) (s1 st) .none .none .none m none (.ref c) .none),#[]⟩
noncomputable def zC (n q:String) (a l k:Nat) (r s x y z u:Tk) (i:Nat):Obj:=⟨.type "code",none,.fields #[.str (bO n) a,.str (bO q) (a+1),.str (bO "/claim/cut.py") (a+2),.int l 0,.int k 0,.int 0 0,.int 0 0,.int 3 0,r,.bool true,.int 181 0,s,x,y,z,u,.int i 0,.int l 0,.str (bO "/claim/cut.py") (i+1)],#[]⟩
noncomputable def zc (n q:String) (b a l k i:Nat):Obj:=zC n q a l k (.ref (b-5)) (.ref (b-4)) .none (.ref (b-3)) (.ref (b-2)) (.ref (b-1)) i
noncomputable def zd (n q:String) (b a l k i:Nat):Obj:=zC n q a l k (.ref (b-3)) (.ref (b-2)) .none .none .none (.ref (b-1)) i
noncomputable def zR (P:nV) (k:String) (t a:Nat):g_:=zE P k t (.ref a)
noncomputable def zI (P:nV) (k:String) (t:Nat) (i:Int):g_:=zE P k t (.int i (t-1))
noncomputable def zL (n:String) (a d s t:Nat):Obj:=⟨.type "type",none,.cls ⟨bO n,[.type "object"],[.ref a,.type "object"],d,bO n,true,[],[],false,none,false⟩,#[none,none,some (.str (bO n) s),some (.str (bO n) t),some (.builtin "object.__new__"),some (.bool true)]⟩
noncomputable def zK (P:nV):wf:=
(nat_lit 3,⟨.type "dict",none,.dict #[zE P "__name__" 165 rL,zE P "__doc__" 166 .none,zE P "__package__" 167 .none,zE P "__loader__" 168 (.builtin "__main__.__loader__#opaque"),zE P "__spec__" 169 .none,zR P "__annotations__" 170 6,zR P "__builtins__" 171 4,zE P "__file__" 173 (.str (bO "/claim/cut.py") 172),zE P "__cached__" 174 .none,zR P "Network" 231 36,zR P "mirrored_network" 237 45,zI P "OUT_OF_RANGE" 240 (-2),zI P "CANNOT_RUN" 243 (-4),zI P "FULL" 246 (-8),zI P "NO_WAY" 249 (-1),zI P "TOO_MANY" 252 (-3),zI P "MOST_STOPS" 256 256,zI P "MOST_TRIPS" 258 1024,zI P "MOST_WALKS" 260 4096,zI P "MINUTES_OF_A_DAY" 262 1440,zI P "MINUTES_TOLD" 264 2880,zI P "DAYS_OF_A_WEEK" 266 7,zR P "Plan" 396 125,zR P "is_day" 403 136,zR P "can_run" 417 143,zR P "shifted" 423 148,zI P "NEVER" 427 1000000,zR P "Search" 538 212,zI P "WALKED" 543 (-1),zR P "Limits" 603 254,zR P "Guide" 669 296,zR P "first_journey" 687 307,zR P "first_walk" 701 314,zR P "first_ride" 722 321,zR P "worthwhile" 742 328,zR P "minutes_on_foot" 754 335,zR P "first_boardings" 765 342,zI P "MOST_RIDES_OF_FRONT" 769 8,zI P "MOST_ROWS" 771 4096,zI P "UNREACHED" 774 (-1),zR P "earliest" 786 349,zR P "latest" 798 356,zR P "front" 814 363,zR P "profile" 827 370,zR P "reach" 833 375,zR P "journey" 849 382,zR P "board" 855 387,zR P "can_ask" 866 394,zR P "is_minute" 873 401,zR P "is_most" 880 408,zR P "searched" 890 415,zR P "counted" 900 422,zI P "STOP" 904 1,zI P "TRIP" 906 2,zI P "WALK" 908 3,zI P "LATE" 910 4,zI P "EARLIEST" 912 5,zI P "LATEST" 914 6,zI P "FRONT" 916 7,zI P "PROFILE" 918 8,zI P "REACH" 920 9,zI P "JOURNEY" 922 10,zR P "WIDTHS" 956 423,zR P "answers" 971 430,zR P "answer_of" 981 437,zR P "answer_asked" 990 444] 66,#[]⟩)::
(nat_lit 25,zd "__init__" "Network.__init__" 25 201 4 4 204)::
(nat_lit 26,zF "__init__" "Network.__init__" qK rK 25)::
(nat_lit 32,zc "add_run" "Network.add_run" 32 207 18 4 216)::
(nat_lit 33,zF "add_run" "Network.add_run" qa rK 32)::
(nat_lit 35,⟨.type "dict",none,.dict #[zE P "__module__" 196 rK,zI P "__firstlineno__" 200 2,zR P "__init__" 206 26,zR P "add_run" 218 33,zR P "__static_attributes__" 224 34,zR P "__dict__" 226 37,zR P "__weakref__" 228 38,zE P "__doc__" 229 .none] 4,#[]⟩)::
(nat_lit 36,zL "Network" 36 35 189 197)::
(nat_lit 44,zd "mirrored_network" "mirrored_network" 44 232 23 3 235)::
(nat_lit 45,zF "mirrored_network" "mirrored_network" qI rK 44)::
(nat_lit 58,zc "__init__" "Plan.__init__" 58 279 45 1 283)::
(nat_lit 59,zF "__init__" "Plan.__init__" qN eR 58)::
(nat_lit 65,zc "add_stop" "Plan.add_stop" 65 286 52 2 291)::
(nat_lit 66,zF "add_stop" "Plan.add_stop" qb eR 65)::
(nat_lit 72,zc "add_trip" "Plan.add_trip" 72 294 61 3 303)::
(nat_lit 73,zF "add_trip" "Plan.add_trip" qc eR 72)::
(nat_lit 79,zc "add_walk" "Plan.add_walk" 79 306 75 4 313)::
(nat_lit 80,zF "add_walk" "Plan.add_walk" qd eR 79)::
(nat_lit 86,zc "tell_late" "Plan.tell_late" 86 316 84 5 324)::
(nat_lit 87,zF "tell_late" "Plan.tell_late" qY eR 86)::
(nat_lit 93,zc "has_stop" "Plan.has_stop" 93 327 93 2 332)::
(nat_lit 94,zF "has_stop" "Plan.has_stop" qz eR 93)::
(nat_lit 100,zc "forward" "Plan.forward" 100 335 96 2 341)::
(nat_lit 101,zF "forward" "Plan.forward" qv eR 100)::
(nat_lit 107,zc "mirrored" "Plan.mirrored" 107 344 102 2 350)::
(nat_lit 108,zF "mirrored" "Plan.mirrored" qJ eR 107)::
(nat_lit 114,zc "runs_around" "Plan.runs_around" 114 353 108 2 362)::
(nat_lit 115,zF "runs_around" "Plan.runs_around" qT eR 114)::
(nat_lit 121,zc "run_of" "Plan.run_of" 121 365 117 4 381)::
(nat_lit 122,zF "run_of" "Plan.run_of" qS eR 121)::
(nat_lit 124,⟨.type "dict",none,.dict #[zE P "__module__" 274 eR,zI P "__firstlineno__" 278 43,zR P "__init__" 285 59,zR P "add_stop" 293 66,zR P "add_trip" 305 73,zR P "add_walk" 315 80,zR P "tell_late" 326 87,zR P "has_stop" 334 94,zR P "forward" 343 101,zR P "mirrored" 352 108,zR P "runs_around" 364 115,zR P "run_of" 383 122,zR P "__static_attributes__" 389 123,zR P "__dict__" 391 126,zR P "__weakref__" 393 127,zE P "__doc__" 394 .none] 4,#[]⟩)::
(nat_lit 125,zL "Plan" 125 124 267 275)::
(nat_lit 135,zc "is_day" "is_day" 135 397 124 1 401)::
(nat_lit 136,zF "is_day" "is_day" qA eR 135)::
(nat_lit 142,zc "can_run" "can_run" 142 404 126 4 415)::
(nat_lit 143,zF "can_run" "can_run" qn eR 142)::
(nat_lit 147,zd "shifted" "shifted" 147 418 133 4 421)::
(nat_lit 148,zF "shifted" "shifted" qW eR 147)::
(nat_lit 159,zd "__init__" "Search.__init__" 159 440 139 2 443)::
(nat_lit 160,zF "__init__" "Search.__init__" qU h7 159)::
(nat_lit 166,zc "begin" "Search.begin" 166 446 151 3 452)::
(nat_lit 167,zF "begin" "Search.begin" qh h7 166)::
(nat_lit 173,zc "arrive" "Search.arrive" 173 455 155 4 462)::
(nat_lit 174,zF "arrive" "Search.arrive" qg h7 173)::
(nat_lit 180,zc "get_on" "Search.get_on" 180 465 163 3 473)::
(nat_lit 181,zF "get_on" "Search.get_on" j6 h7 180)::
(nat_lit 187,zc "walk_on" "Search.walk_on" 187 476 171 3 485)::
(nat_lit 188,zF "walk_on" "Search.walk_on" q0 h7 187)::
(nat_lit 194,zc "take_ride" "Search.take_ride" 194 488 175 1 495)::
(nat_lit 195,zF "take_ride" "Search.take_ride" qX h7 194)::
(nat_lit 201,zc "get_off" "Search.get_off" 201 498 184 1 512)::
(nat_lit 202,zF "get_off" "Search.get_off" qy h7 201)::
(nat_lit 208,zc "ride_to_the_end" "Search.ride_to_the_end" 208 515 199 1 519)::
(nat_lit 209,zF "ride_to_the_end" "Search.ride_to_the_end" qZ h7 208)::
(nat_lit 211,⟨.type "dict",none,.dict #[zE P "__module__" 435 h7,zI P "__firstlineno__" 439 137,zR P "__init__" 445 160,zR P "begin" 454 167,zR P "arrive" 464 174,zR P "get_on" 475 181,zR P "walk_on" 487 188,zR P "take_ride" 497 195,zR P "get_off" 514 202,zR P "ride_to_the_end" 521 209,zR P "__static_attributes__" 531 210,zR P "__dict__" 533 213,zR P "__weakref__" 535 214,zE P "__doc__" 536 .none] 4,#[]⟩)::
(nat_lit 212,zL "Search" 212 211 428 436)::
(nat_lit 229,zc "__init__" "Limits.__init__" 229 556 206 2 561)::
(nat_lit 230,zF "__init__" "Limits.__init__" qF fe 229)::
(nat_lit 236,zc "can_board_at" "Limits.can_board_at" 236 564 212 3 570)::
(nat_lit 237,zF "can_board_at" "Limits.can_board_at" qj fe 236)::
(nat_lit 243,zc "can_get_off_at" "Limits.can_get_off_at" 243 573 215 3 579)::
(nat_lit 244,zF "can_get_off_at" "Limits.can_get_off_at" qL fe 243)::
(nat_lit 250,zc "last_call_off" "Limits.last_call_off" 250 582 218 2 589)::
(nat_lit 251,zF "last_call_off" "Limits.last_call_off" qG fe 250)::
(nat_lit 253,⟨.type "dict",none,.dict #[zE P "__module__" 551 fe,zI P "__firstlineno__" 555 204,zR P "__init__" 563 230,zR P "can_board_at" 572 237,zR P "can_get_off_at" 581 244,zR P "last_call_off" 591 251,zR P "__static_attributes__" 596 252,zR P "__dict__" 598 255,zR P "__weakref__" 600 256,zE P "__doc__" 601 .none] 4,#[]⟩)::
(nat_lit 254,zL "Limits" 254 253 544 552)::
(nat_lit 271,zc "__init__" "Guide.__init__" 271 616 223 5 626)::
(nat_lit 272,zF "__init__" "Guide.__init__" qx fe 271)::
(nat_lit 278,zc "can_walk_to" "Guide.can_walk_to" 278 629 233 4 636)::
(nat_lit 279,zF "can_walk_to" "Guide.can_walk_to" q1 fe 278)::
(nat_lit 285,zc "can_board" "Guide.can_board" 285 639 238 4 646)::
(nat_lit 286,zF "can_board" "Guide.can_board" ql fe 285)::
(nat_lit 292,zc "can_get_off" "Guide.can_get_off" 292 649 241 4 656)::
(nat_lit 293,zF "can_get_off" "Guide.can_get_off" qm fe 292)::
(nat_lit 295,⟨.type "dict",none,.dict #[zE P "__module__" 611 fe,zI P "__firstlineno__" 615 221,zR P "__init__" 628 272,zR P "can_walk_to" 638 279,zR P "can_board" 648 286,zR P "can_get_off" 658 293,zR P "__static_attributes__" 662 294,zR P "__dict__" 664 297,zR P "__weakref__" 666 298,zE P "__doc__" 667 .none] 4,#[]⟩)::
(nat_lit 296,zL "Guide" 296 295 604 612)::
(nat_lit 306,zc "first_journey" "first_journey" 306 670 243 5 685)::
(nat_lit 307,zF "first_journey" "first_journey" qs fe 306)::
(nat_lit 313,zc "first_walk" "first_walk" 313 688 265 5 699)::
(nat_lit 314,zF "first_walk" "first_walk" qu fe 313)::
(nat_lit 320,zc "first_ride" "first_ride" 320 702 270 5 720)::
(nat_lit 321,zF "first_ride" "first_ride" qt fe 320)::
(nat_lit 327,zc "worthwhile" "worthwhile" 327 725 283 5 740)::
(nat_lit 328,zF "worthwhile" "worthwhile" q2 v' 327)::
(nat_lit 334,zc "minutes_on_foot" "minutes_on_foot" 334 743 299 2 752)::
(nat_lit 335,zF "minutes_on_foot" "minutes_on_foot" qM v' 334)::
(nat_lit 341,zc "first_boardings" "first_boardings" 341 755 304 2 763)::
(nat_lit 342,zF "first_boardings" "first_boardings" qr v' 341)::
(nat_lit 348,zc "earliest" "earliest" 348 775 314 5 784)::
(nat_lit 349,zF "earliest" "earliest" qp fQ 348)::
(nat_lit 355,zc "latest" "latest" 355 787 321 5 796)::
(nat_lit 356,zF "latest" "latest" qH fQ 355)::
(nat_lit 362,zc "front" "front" 362 799 328 6 812)::
(nat_lit 363,zF "front" "front" qw fQ 362)::
(nat_lit 369,zc "profile" "profile" 369 815 342 7 825)::
(nat_lit 370,zF "profile" "profile" qO fQ 369)::
(nat_lit 374,zd "reach" "reach" 374 828 346 5 831)::
(nat_lit 375,zF "reach" "reach" qP fQ 374)::
(nat_lit 381,zc "journey" "journey" 381 834 352 6 847)::
(nat_lit 382,zF "journey" "journey" qE fQ 381)::
(nat_lit 386,zd "board" "board" 386 850 362 5 853)::
(nat_lit 387,zF "board" "board" qi fQ 386)::
(nat_lit 393,zc "can_ask" "can_ask" 393 856 372 5 864)::
(nat_lit 394,zF "can_ask" "can_ask" qk fQ 393)::
(nat_lit 400,zc "is_minute" "is_minute" 400 867 374 1 871)::
(nat_lit 401,zF "is_minute" "is_minute" qB fQ 400)::
(nat_lit 407,zc "is_most" "is_most" 407 874 376 1 878)::
(nat_lit 408,zF "is_most" "is_most" qC fQ 407)::
(nat_lit 414,zc "searched" "searched" 414 881 378 3 888)::
(nat_lit 415,zF "searched" "searched" qV fQ 414)::
(nat_lit 421,zc "counted" "counted" 421 891 383 2 898)::
(nat_lit 422,zF "counted" "counted" qo fQ 421)::
(nat_lit 423,⟨.type "dict",none,.dict #[⟨1,.int 1 923,.int 1 924⟩,⟨2,.int 2 925,.int 1 926⟩,⟨3,.int 3 927,.int 3 928⟩,⟨4,.int 4 929,.int 4 930⟩,⟨5,.int 5 931,.int 4 932⟩,⟨6,.int 6 933,.int 4 934⟩,⟨7,.int 7 935,.int 5 936⟩,⟨8,.int 8 937,.int 6 938⟩,⟨9,.int 9 939,.int 4 940⟩,⟨10,.int 10 941,.int 5 942⟩,⟨11,.int 11 943,.int 4 944⟩] 11,#[]⟩)::
(nat_lit 429,zc "answers" "answers" 429 957 402 1 969)::
(nat_lit 430,zF "answers" "answers" hV rL 429)::
(nat_lit 436,zc "answer_of" "answer_of" 436 972 419 4 979)::
(nat_lit 437,zF "answer_of" "answer_of" qf rL 436)::
(nat_lit 443,zc "answer_asked" "answer_asked" 443 982 429 3 988)::
(nat_lit 444,zF "answer_asked" "answer_asked" qe rL 443)::[]
def zA:List WF:=[3,25,26,32,33,35,36,44,45,58,59,65,66,72,73,79,80,86,87,93,94,100,101,107,108,114,115,121,122,124,125,135,136,142,143,147,148,159,160,166,167,173,174,180,181,187,188,194,195,201,202,208,209,211,212,229,230,236,237,243,244,250,251,253,254,271,272,278,279,285,286,292,293,295,296,306,307,313,314,320,321,327,328,334,335,341,342,348,349,355,356,362,363,369,370,374,375,381,382,386,387,393,394,400,401,407,408,414,415,421,422,423,429,430,436,437,443,444]
end Dv
section
open PySem PySem.W PyProof.Rows
noncomputable def Dv.zV:fr:= {je with main:= {je.main with body:=[49,33,29,22,19,8,0].foldl (·.eraseIdx ·) je.main.body}}
theorem Dv.ka:∀P,Dv.zA=(Dv.zK P).map (·.1):=λ_=>by kernel_rfl
def Dv.zT (b:Bool) (w:kw):Prop:=(DE wQ je w 6600).map (λt=>(topFrom wQ je (w.withFollow "special-get-raises" b) 6600 t).map λs=>(openSeen Dv.zV [bO "WIDTHS"] (importedModules je.main.body) (λs=>xlAt Dv.zV [] s&&recOk [] s) true s,Hook.obs (ko Dv.zK Dv.zA Dv.ka) s))=some (some (openGood Dv.zV [bO "WIDTHS"],Hook.val (ko Dv.zK Dv.zA Dv.ka) (w.withFollow "special-get-raises" b)))
lay_quick topFrom DE openSeen openGood wQ
theorem Dv.mp {A Wp:X->Y}{a b:Y}{x:Option X}(h:x.map A=some a) (k:x.map Wp=some b):x.map (λs=>(A s,Wp s))=some (a,b):=by
 cases x with
 |none=>cases h
 |some s=>cases h;cases k;rfl
theorem Dv.hA (w:kw):Dv.zT false w:=by delta Dv.zT;rw[Fast.te370005188180407882,Fast.te10556317031660193958,Fast.te4187177175401517315,Fast.te3486900944545009338,Fast.te14364793385576792824];kernel_rfl
theorem Dv.hB (w:kw):Dv.zT true w:=by delta Dv.zT;rw[Fast.te370005188180407882,Fast.te10556317031660193958,Fast.te4187177175401517315,Fast.te3486900944545009338,Fast.te14364793385576792824];kernel_rfl
theorem Dv.zu:LeftO je Dv.zV [bO "WIDTHS"] (λs=>xlAt Dv.zV [] s&&recOk [] s) (Hook.obs (ko Dv.zK Dv.zA Dv.ka)) (Hook.val (ko Dv.zK Dv.zA Dv.ka)) 6600:=LeftO.of_split "special-get-raises" (λw=>Dv.mp (Dv.hA w) (Dv.hB w))
end
theorem B {P Z:A->Prop}{a} (i:P a) (x:Z a):∃a,P a/\Z a:=⟨a,i,x⟩
theorem Ix {P Z:A->Prop}(a) (i:P a) (x:Z a):∃a,P a/\Z a:=⟨a,i,x⟩
theorem zn {P Q Z:A->Prop}(a) (i:P a) (j:Q a) (x:Z a):∃a,P a/\Q a/\Z a:=⟨a,i,j,x⟩
theorem im {P Z:A->Wp->Prop}(a b) (i:P a b) (x:Z a b):∃a b,P a b/\Z a b:=⟨a,b,i,x⟩
theorem IN {P Q Z:A->Wp->Prop}(a b) (i:P a b) (j:Q a b) (x:Z a b):∃a b,P a b/\Q a b/\Z a b:=⟨a,b,i,j,x⟩
theorem g2 {P Q R Z:A->Wp->Prop}(a b) (i:P a b) (j:Q a b) (k:R a b) (x:Z a b):∃a b,P a b/\Q a b/\R a b/\Z a b:=⟨a,b,i,j,k,x⟩
theorem b_ {Z:A->Wp->C->Prop}(a b c) (x:Z a b c):∃a b c,Z a b c:=⟨a,b,c,x⟩
theorem nw {P Q R Z:A->Wp->C->Prop}(a b c) (i:P a b c) (j:Q a b c) (k:R a b c) (x:Z a b c):∃a b c,P a b c/\Q a b c/\R a b c/\Z a b c:=⟨a,b,c,i,j,k,x⟩
theorem bb {P Q R S Z:A->Wp->C->Prop}(a b c) (i:P a b c) (j:Q a b c) (k:R a b c) (l:S a b c) (x:Z a b c):∃a b c,P a b c/\Q a b c/\R a b c/\S a b c/\Z a b c:=⟨a,b,c,i,j,k,l,x⟩
theorem dQ {Z:A->Wp->C->D->Prop}(a b c d) (x:Z a b c d):∃a b c d,Z a b c d:=⟨a,b,c,d,x⟩
theorem Db {P Q R S Z:A->Wp->C->D->Prop}(a b c d) (i:P a b c d) (j:Q a b c d) (k:R a b c d) (l:S a b c d) (x:Z a b c d):∃a b c d,P a b c d/\Q a b c d/\R a b c d/\S a b c d/\Z a b c d:=⟨a,b,c,d,i,j,k,l,x⟩
theorem bi {P Q R S T Z:A->Wp->C->D->Prop}(a b c d) (i:P a b c d) (j:Q a b c d) (k:R a b c d) (l:S a b c d) (m:T a b c d) (x:Z a b c d):∃a b c d,P a b c d/\Q a b c d/\R a b c d/\S a b c d/\T a b c d/\Z a b c d:=⟨a,b,c,d,i,j,k,l,m,x⟩
theorem b0 {Z:A->Wp->C->D->E->Prop}(a b c d e) (x:Z a b c d e):∃a b c d e,Z a b c d e:=⟨a,b,c,d,e,x⟩
theorem wv {P Q R S T Z:A->Wp->C->D->E->Prop}(a b c d e) (i:P a b c d e) (j:Q a b c d e) (k:R a b c d e) (l:S a b c d e) (m:T a b c d e) (x:Z a b c d e):∃a b c d e,P a b c d e/\Q a b c d e/\R a b c d e/\S a b c d e/\T a b c d e/\Z a b c d e:=⟨a,b,c,d,e,i,j,k,l,m,x⟩
theorem b' {P Q R S T U Z:A->Wp->C->D->E->Prop}(a b c d e) (i:P a b c d e) (j:Q a b c d e) (k:R a b c d e) (l:S a b c d e) (m:T a b c d e) (n:U a b c d e) (x:Z a b c d e):∃a b c d e,P a b c d e/\Q a b c d e/\R a b c d e/\S a b c d e/\T a b c d e/\U a b c d e/\Z a b c d e:=⟨a,b,c,d,e,i,j,k,l,m,n,x⟩
theorem i3 {Z:A->Wp->C->D->E->F->Prop}(a b c d e f) (x:Z a b c d e f):∃a b c d e f,Z a b c d e f:=⟨a,b,c,d,e,f,x⟩
theorem g8 {Z:A->Wp->C->D->E->F->G->Prop}(a b c d e f g) (x:Z a b c d e f g):∃a b c d e f g,Z a b c d e f g:=⟨a,b,c,d,e,f,g,x⟩
theorem fc {Z:A->Wp->C->D->E->F->G->H->Prop}(a b c d e f g h) (x:Z a b c d e f g h):∃a b c d e f g h,Z a b c d e f g h:=⟨a,b,c,d,e,f,g,h,x⟩
theorem iU {Z:A->Wp->Prop}{W:Prop}(x:∃a b,Z a b) (y:∀a b,Z a b->W):W:=by obtain⟨a,b,z⟩:=x;exact y a b z
theorem nc {Z:A->Wp->C->Prop}{W:Prop}(x:∃a b c,Z a b c) (y:∀a b c,Z a b c->W):W:=by obtain⟨a,b,c,z⟩:=x;exact y a b c z
theorem Km {Z:A->Wp->C->D->Prop}{W:Prop}(x:∃a b c d,Z a b c d) (y:∀a b c d,Z a b c d->W):W:=by obtain⟨a,b,c,d,z⟩:=x;exact y a b c d z
theorem uN {Z:A->Wp->C->D->E->Prop}{W:Prop}(x:∃a b c d e,Z a b c d e) (y:∀a b c d e,Z a b c d e->W):W:=by obtain⟨a,b,c,d,e,z⟩:=x;exact y a b c d e z
theorem lg {Z:A->Wp->C->D->E->F->Prop}{W:Prop}(x:∃a b c d e f,Z a b c d e f) (y:∀a b c d e f,Z a b c d e f->W):W:=by obtain⟨a,b,c,d,e,f,z⟩:=x;exact y a b c d e f z
theorem pU {Z:A->Wp->C->D->E->F->G->Prop}{W:Prop}(x:∃a b c d e f g,Z a b c d e f g) (y:∀a b c d e f g,Z a b c d e f g->W):W:=by obtain⟨a,b,c,d,e,f,g,z⟩:=x;exact y a b c d e f g z
theorem pW {Z:A->Wp->C->D->E->F->G->H->Prop}{W:Prop}(x:∃a b c d e f g h,Z a b c d e f g h) (y:∀a b c d e f g h,Z a b c d e f g h->W):W:=by obtain⟨a,b,c,d,e,f,g,h,z⟩:=x;exact y a b c d e f g h z
theorem pX {Z:A->Wp->C->D->E->F->G->H->XV->Prop}{W:Prop}(x:∃a b c d e f g h i,Z a b c d e f g h i) (y:∀a b c d e f g h i,Z a b c d e f g h i->W):W:=by obtain⟨a,b,c,d,e,f,g,h,i,z⟩:=x;exact y a b c d e f g h i z
theorem pQ {Z:A->Wp->C->D->E->F->G->H->XV->J->Prop}{W:Prop}(x:∃a b c d e f g h i j,Z a b c d e f g h i j) (y:∀a b c d e f g h i j,Z a b c d e f g h i j->W):W:=by obtain⟨a,b,c,d,e,f,g,h,i,j,z⟩:=x;exact y a b c d e f g h i j z
theorem pR {Z:A->Wp->C->D->E->F->G->H->XV->J->K->Prop}{W:Prop}(x:∃a b c d e f g h i j k,Z a b c d e f g h i j k) (y:∀a b c d e f g h i j k,Z a b c d e f g h i j k->W):W:=by obtain⟨a,b,c,d,e,f,g,h,i,j,k,z⟩:=x;exact y a b c d e f g h i j k z
theorem As {Z:A->Wp->C->D->E->F->G->H->XV->J->K->L->Prop}{W:Prop}(x:∃a b c d e f g h i j k l,Z a b c d e f g h i j k l) (y:∀a b c d e f g h i j k l,Z a b c d e f g h i j k l->W):W:=by obtain⟨a,b,c,d,e,f,g,h,i,j,k,l,z⟩:=x;exact y a b c d e f g h i j k l z
theorem jY {TW Z:A->Prop}{W:Prop}(x:∃a,TW a/\Z a) (y:∀a,TW a->Z a->W):W:=by obtain⟨a,m,z⟩:=x;exact y a m z
theorem uM {TW Z:A->Wp->Prop}{W:Prop}(x:∃a b,TW a b/\Z a b) (y:∀a b,TW a b->Z a b->W):W:=by obtain⟨a,b,m,z⟩:=x;exact y a b m z
theorem Do {TW N Z:A->Wp->Prop}{W:Prop}(x:∃a b,TW a b/\N a b/\Z a b) (y:∀a b,TW a b->N a b->Z a b->W):W:=by obtain⟨a,b,m,n,z⟩:=x;exact y a b m n z
theorem gl {TW N gt Z:A->Wp->Prop}{W:Prop}(x:∃a b,TW a b/\N a b/\gt a b/\Z a b) (y:∀a b,TW a b->N a b->gt a b->Z a b->W):W:=by obtain⟨a,b,m,n,o,z⟩:=x;exact y a b m n o z
theorem pS {TW Z:A->Wp->C->Prop}{W:Prop}(x:∃a b c,TW a b c/\Z a b c) (y:∀a b c,TW a b c->Z a b c->W):W:=by obtain⟨a,b,c,m,z⟩:=x;exact y a b c m z
theorem lb {TW N gt Z:A->Wp->C->Prop}{W:Prop}(x:∃a b c,TW a b c/\N a b c/\gt a b c/\Z a b c) (y:∀a b c,TW a b c->N a b c->gt a b c->Z a b c->W):W:=by obtain⟨a,b,c,m,n,o,z⟩:=x;exact y a b c m n o z
theorem jZ {TW N gt P Q R S Z:A->Wp->C->Prop}{W:Prop}(x:∃a b c,TW a b c/\N a b c/\gt a b c/\P a b c/\Q a b c/\R a b c/\S a b c/\Z a b c) (y:∀a b c,TW a b c->N a b c->gt a b c->P a b c->Q a b c->R a b c->S a b c->Z a b c->W):W:=by obtain⟨a,b,c,m,n,o,p,q,r,s,z⟩:=x;exact y a b c m n o p q r s z
theorem j0 {TW Z:A->Wp->C->D->Prop}{W:Prop}(x:∃a b c d,TW a b c d/\Z a b c d) (y:∀a b c d,TW a b c d->Z a b c d->W):W:=by obtain⟨a,b,c,d,m,z⟩:=x;exact y a b c d m z
theorem gQ {TW N gt P Z:A->Wp->C->D->Prop}{W:Prop}(x:∃a b c d,TW a b c d/\N a b c d/\gt a b c d/\P a b c d/\Z a b c d) (y:∀a b c d,TW a b c d->N a b c d->gt a b c d->P a b c d->Z a b c d->W):W:=by obtain⟨a,b,c,d,m,n,o,p,z⟩:=x;exact y a b c d m n o p z
theorem pT {TW N gt P Q Z:A->Wp->C->D->Prop}{W:Prop}(x:∃a b c d,TW a b c d/\N a b c d/\gt a b c d/\P a b c d/\Q a b c d/\Z a b c d) (y:∀a b c d,TW a b c d->N a b c d->gt a b c d->P a b c d->Q a b c d->Z a b c d->W):W:=by obtain⟨a,b,c,d,m,n,o,p,q,z⟩:=x;exact y a b c d m n o p q z
theorem hN {TW Z:A->Wp->C->D->E->Prop}{W:Prop}(x:∃a b c d e,TW a b c d e/\Z a b c d e) (y:∀a b c d e,TW a b c d e->Z a b c d e->W):W:=by obtain⟨a,b,c,d,e,m,z⟩:=x;exact y a b c d e m z
theorem gR {TW N Z:A->Wp->C->D->E->Prop}{W:Prop}(x:∃a b c d e,TW a b c d e/\N a b c d e/\Z a b c d e) (y:∀a b c d e,TW a b c d e->N a b c d e->Z a b c d e->W):W:=by obtain⟨a,b,c,d,e,m,n,z⟩:=x;exact y a b c d e m n z
theorem hO {TW N gt P Z:A->Wp->C->D->E->Prop}{W:Prop}(x:∃a b c d e,TW a b c d e/\N a b c d e/\gt a b c d e/\P a b c d e/\Z a b c d e) (y:∀a b c d e,TW a b c d e->N a b c d e->gt a b c d e->P a b c d e->Z a b c d e->W):W:=by obtain⟨a,b,c,d,e,m,n,o,p,z⟩:=x;exact y a b c d e m n o p z
theorem gS {TW N gt P Q R Z:A->Wp->C->D->E->Prop}{W:Prop}(x:∃a b c d e,TW a b c d e/\N a b c d e/\gt a b c d e/\P a b c d e/\Q a b c d e/\R a b c d e/\Z a b c d e) (y:∀a b c d e,TW a b c d e->N a b c d e->gt a b c d e->P a b c d e->Q a b c d e->R a b c d e->Z a b c d e->W):W:=by obtain⟨a,b,c,d,e,m,n,o,p,q,r,z⟩:=x;exact y a b c d e m n o p q r z
theorem pV {TW Z:A->Wp->C->D->E->F->G->Prop}{W:Prop}(x:∃a b c d e f g,TW a b c d e f g/\Z a b c d e f g) (y:∀a b c d e f g,TW a b c d e f g->Z a b c d e f g->W):W:=by obtain⟨a,b,c,d,e,f,g,m,z⟩:=x;exact y a b c d e f g m z
theorem pY {TW Z:A->Wp->C->D->E->F->G->H->XV->Prop}{W:Prop}(x:∃a b c d e f g h i,TW a b c d e f g h i/\Z a b c d e f g h i) (y:∀a b c d e f g h i,TW a b c d e f g h i->Z a b c d e f g h i->W):W:=by obtain⟨a,b,c,d,e,f,g,h,i,m,z⟩:=x;exact y a b c d e f g h i m z
theorem et {TW N gt P Q R S T U Z:A->Wp->C->D->E->F->G->H->XV->J->Prop}{W:Prop}(x:∃a b c d e f g h i j,TW a b c d e f g h i j/\N a b c d e f g h i j/\gt a b c d e f g h i j/\P a b c d e f g h i j/\Q a b c d e f g h i j/\R a b c d e f g h i j/\S a b c d e f g h i j/\T a b c d e f g h i j/\U a b c d e f g h i j/\Z a b c d e f g h i j) (y:∀a b c d e f g h i j,TW a b c d e f g h i j->N a b c d e f g h i j->gt a b c d e f g h i j->P a b c d e f g h i j->Q a b c d e f g h i j->R a b c d e f g h i j->S a b c d e f g h i j->T a b c d e f g h i j->U a b c d e f g h i j->Z a b c d e f g h i j->W):W:=by obtain⟨a,b,c,d,e,f,g,h,i,j,m,n,o,p,q,r,s,t,u,z⟩:=x;exact y a b c d e f g h i j m n o p q r s t u z
theorem mY(h:l.length=n+1):∃a t,l=a::t/\t.length=n:=by(
cases l with
|nil=>cases h
|cons a t=>exact⟨a,t,O,Nat.succ.inj h⟩)
theorem k7(h:l.length=1):∃a,l=[a]:=List.length_eq_one_iff.mp h
theorem Iz(h:l.length=2):∃a b,l=[a,b]:=by obtain⟨a,t,rfl,k⟩:=mY h;obtain⟨b,rfl⟩:=k7 k;exact⟨a,b,O⟩
theorem pB(h:l.length=3):∃a b c,l=[a,b,c]:=by obtain⟨a,t,rfl,k⟩:=mY h;obtain⟨b,c,rfl⟩:=Iz k;exact⟨a,b,c,O⟩
theorem d0(h:l.length=4):∃a b c d,l=[a,b,c,d]:=by obtain⟨a,t,rfl,k⟩:=mY h;obtain⟨b,c,d,rfl⟩:=pB k;exact⟨a,b,c,d,O⟩
theorem jQ(h:l.length=5):∃a b c d e,l=[a,b,c,d,e]:=by obtain⟨a,t,rfl,k⟩:=mY h;obtain⟨b,c,d,e,rfl⟩:=d0 k;exact⟨a,b,c,d,e,O⟩
theorem uy(h:l.length=6):∃a b c d e f,l=[a,b,c,d,e,f]:=by obtain⟨a,t,rfl,k⟩:=mY h;obtain⟨b,c,d,e,f,rfl⟩:=jQ k;exact⟨a,b,c,d,e,f,O⟩
namespace Tw
open Sg45
inductive Jn (T:t1) (M:Nat) (x0:Place):Nat->Place->Prop
 |nil:Jn T M x0 0 x0
 |walk {n:Nat}{y z:Place}{w:Nat}:Jn T M x0 n y->go T M y (.walk w)=some z->Jn T M x0 n z
 |ride {n:Nat}{y z:Place}{p:Nat}{k:Int}{i j:Nat}:Jn T M x0 n y->go T M y (.ride p k i j)=some z->Jn T M x0 (n+1) z
theorem kU:∀(l m:List Leg) (x:Place),be T M x (l++m)=(be T M x l).bind λy=>be T M y m
 |[],m,x=>rfl
 |a::l,m,x=>by
  show(match go T M x a with|some y=>be T M y (l++m)|none=>none)=_;show _=(match go T M x a with|some y=>be T M y l|none=>none).bind _;cases go T M x a with
  |none=>rfl
  |some y=>exact kU l m y
theorem ly (l m:List Leg):rides (l++m)=rides l+rides m:=by
 simp[rides,kz]
theorem iX (w:Nat) (l:List Leg):rides (.walk w::l)=rides l:=by simp[rides]
theorem gp (p:Nat) (k:Int) (i j:Nat) (l:List Leg):rides (.ride p k i j::l)=rides l+1:=by simp[rides]
theorem LH:rides []=0:=rfl
theorem iO(x:Place) (a:Leg):be T M x [a]=go T M x a:=by
 show(match go T M x a with|some y=>be T M y []|none=>none)=_;cases go T M x a<;>rfl
theorem dj(h:be T M x (a::l)=some z):∃y,go T M x a=some y/\be T M y l=some z:=by(
have h':(match go T M x a with|some y=>be T M y l|none=>none)=some z:=h;cases e:go T M x a with
|none=>rw[e]at h';cases h'
|some y=>rw[e]at h';exact⟨y,O,h'⟩)
theorem gK(h:go T M x a=some y):be T M x (a::l)=be T M y l:=by
 show(match go T M x a with|some y=>be T M y l|none=>none)=_;rw[h]
theorem Hz(h:Jn T M x0 n y):∃l,be T M x0 l=some y/\rides l=n:=by(
induction h with
|nil=>exact⟨[],O,O⟩
|@walk n y z w _ g a=>
 obtain⟨l,h1,h2⟩:=a;refine⟨l++[.walk w],?_,?_⟩
 ·rw[kU,h1];show be T M y [_]=_;rw[iO,g]
 ·rw[ly,h2];rfl
|@ride n y z p k i j _ g a=>
 obtain⟨l,h1,h2⟩:=a;refine⟨l++[.ride p k i j],?_,?_⟩
 ·rw[kU,h1];show be T M y [_]=_;rw[iO,g]
 ·rw[ly,h2];rfl)
theorem uw:∀(l:List Leg) {x y:Place}{n:Nat},Jn T M x0 n x->be T M x l=some y->Jn T M x0 (n+rides l) y
 |[],x,y,n,h,f=>by cases f;exact h
 |.walk w::l,x,y,n,h,f=>by
  obtain⟨z,g,a⟩:=dj f;rw[iX];exact uw l (Jn.walk h g) a
 |.ride p k i j::l,x,y,n,h,f=>by
  obtain⟨z,g,a⟩:=dj f;rw[gp,show n+(rides l+1)=(n+1)+rides l by lia];exact uw l (Jn.ride h g) a
theorem Iw(f:be T M x0 l=some y):Jn T M x0 (rides l) y:=by(
have:=uw l (Jn.nil (T:=T) (M:=M) (x0:=x0)) f
rwa [su]at this)
theorem aM:go T M x (.walk w)=some z↔∃y,T.walks[w]?=some y/\y.from_=x.halt/\x.way≠2/\z=⟨y.to,x.time+(y.minutes:Int),2⟩:=by(
simp only[go];cases T.walks[w]? with
|none=>simp
|some y=>
 simp only[hk];constructor
 ·intro h;split at h
  ·rename_i c;exact⟨y,O,c.1,c.2,(b3 h).symm⟩
  ·cases h
 ·rintro⟨a,rfl,h1,h2,rfl⟩;rw[No ⟨h1,h2⟩])
noncomputable def chg (T:t1) (x:Place):Int:=if x.way=1 then((T.stops.getD x.halt 0:Nat):Int)else 0
theorem bQ:go T M x (.ride n k i j)=some z↔
  ∃p,T.trips[n]?=some p/\(-1<=k/\k<=1)/\p.runs M k=true/\i<j/\j<p.calls.length/\p.stopAt i=x.halt/\x.time+chg T x<=p.goes M k i/\z=⟨p.stopAt j,p.comes M k j,1⟩:=by(
simp only[go,chg];cases T.trips[n]? with
|none=>simp
|some p=>
 simp only[hk,within,ev,dL];constructor
 ·intro h;generalize e:(x.time+if x.way=1 then((T.stops.getD x.halt 0:Nat):Int)else 0)=d at h⊢;split at h
  ·rename_i c;obtain⟨⟨c1,c2,c3,c4,a⟩,b⟩:=c;exact⟨p,O,c1,c2,c3,c4,a,b,(b3 h).symm⟩
  ·cases h
 ·rintro⟨f,rfl,c1,c2,c3,c4,a,b,rfl⟩;rw[No ⟨⟨c1,c2,c3,c4,a⟩,b⟩])
theorem dr:(n,k,p)∈v4 T M↔T.trips[n]?=some p/\(-1<=k/\k<=1)/\p.runs M k=true:=by(
simp only[v4,fk,mo,f5];constructor
·rintro⟨⟨q,m⟩,g,i,⟨f,h⟩,e⟩;have a:=cM Prod.fst e;have b:=cM (λz=>z.2.1) e;have c:=cM (λz=>z.2.2) e;simp only at a b c;subst a b c;have:=ih.mp g;refine⟨this,?_,h⟩;simp at f;lia
·rintro⟨h1,h2,d⟩;refine⟨(p,n),ih.mpr h1,k,⟨?_,d⟩,O⟩;have:k= -1\/k=0\/k=1:=by lia
 rcases this with rfl|rfl|rfl<;>simp)
def ce (P:Int->Prop):Option Int->Prop
 |some x=>P x/\∀y,P y->x<=y
 |none=>∀y,¬P y
theorem ce.congr(h:ce P o) (e:∀x,P x↔Q x):ce Q o:=by(
have:P=Q:=funext λx=>propext (e x)
rwa [<- this])
theorem ce.uniq(h:ce P o) (h':ce P u):o=u:=by(
cases o with
|none=>cases u with
 |none=>rfl
 |some y=>exact absurd h'.1 (h y)
|some x=>cases u with
 |none=>exact absurd h.1 (h' x)
 |some y=>
  have h1:=h.2 y h'.1;have h2:=h'.2 x h.1;rw[show x=y by lia])
theorem ce.mkNone(h:∀x,¬P x):ce P none:=h
theorem ce.less {P Q:Int->Prop}{o u:Option Int}(h:ce P o) (h':ce Q u):ce (λx=>P x\/Q x) (less o u):=by(
cases o with
|none=>cases u with
 |none=>exact λy a=>a.elim (h y) (h' y)
 |some y=>exact⟨.inr h'.1,λz hz=>hz.elim (λq=>absurd q (h z)) (h'.2 z)⟩
|some x=>cases u with
 |none=>exact⟨.inl h.1,λz hz=>hz.elim (h.2 z) (λq=>absurd q (h' z))⟩
 |some y=>
  show(P (min x y)\/Q (min x y))/\∀z,P z\/Q z->min x y<=z;refine⟨?_,λz hz=>?_⟩
  ·by_cases e:x<=y
   ·rw[Int.min_eq_left e];exact .inl h.1
   ·rw[Int.min_eq_right (by lia)];exact .inr h'.1
  ·rcases hz with q|q
   ·have:=h.2 z q;lia
   ·have:=h'.2 z q;lia)
theorem ce.add(m:Int) (h:ce P (some x)):ce (λz=>∃y,P y/\z=y+m) (some (x+m)):=
 ⟨⟨x,h.1,O⟩,λz ⟨y,a,e⟩=>by have:=h.2 y a;lia⟩
theorem ce.yi(h:ce P o) (c g:Int):(o.any λy=>decide (y+c<=g))=true↔∃y,P y/\y+c<=g:=by(
cases o with
|none=>simp only[DW,fX,false_iff];rintro⟨y,a,_⟩;exact h y a
|some x=>
 simp only[DX,dL];constructor
 ·intro e;exact⟨x,h.1,e⟩
 ·rintro⟨y,a,e⟩;have:=h.2 y a;lia)
theorem ce.Fg(h:ce P o) (g:Int):(o.any λy=>decide (y<=g))=true↔∃y,P y/\y<=g:=by
 have:=h.yi 0 g;simp only[D8]at this;exact this
def an (N:Nat) (r:Row) (P:Nat->Int->Prop):Prop:=r.length=N/\∀s,s<N->ce (P s) (r.getD s none)
theorem an.congr(h:an N r P) (e:∀s,s<N->∀x,P s x↔Q s x):an N r Q:=
 ⟨h.1,λs a=>(h.2 s a).congr (e s a)⟩
theorem an.mkNone{b:Type}{l:List b}(a:l.length=N) (h:∀s x,¬P s x):an N (l.map λ_=>none) P:=by(
refine⟨by rw[FM,a],λs c=>?_⟩;have:((l.map λ_=>(none:Option Int)).getD s none)=none:=by
 rw[np,pr];cases l[s]?<;>rfl
rw[this];exact ce.mkNone (h s))
theorem Ld (r:Row) (s:Nat) (x:Int):(put r s x).length=r.length:=by simp[put]
theorem Lc(a:s<r.length) (u:Nat):(put r s x).getD u none=if u=s then less (r.getD s none) (some x)else r.getD u none:=by(
simp only[put,np,Cz];by_cases e:u=s
·subst e;simp[a]
·simp[e,Ne.symm e])
theorem an.put {N:Nat}{r:Row}{P:Nat->Int->Prop}{s:Nat}{x:Int}{Q:Int->Prop}(h:an N r P) (b:s<N) (a:ce Q (some x)):an N (put r s x) (λu y=>P u y\/(u=s/\Q y)):=by(
refine⟨by rw[Ld,h.1],λu hu=>?_⟩;rw[Lc (by rw[h.1];exact b)];by_cases e:u=s
·rw[No e];subst e;exact((h.2 u hu).less a).congr λy=>by simp
·rw[Ps e];exact(h.2 u hu).congr λy=>by simp[e])
def mz (W:List Walk) (P:Nat->Int->Prop) (s:Nat) (x:Int):Prop:=∃w,w∈W/\w.to=s/\∃y,P w.from_ y/\x=y+(w.minutes:Int)
theorem v8(hf:an N d P):∀(W:List Walk) (foot:Row) (Q:Nat->Int->Prop),(∀w,w∈W->w.from_<N/\w.to<N)->an N foot Q->
  an N (W.foldl (λ(r:Row) (w:Walk)=>match d.getD w.from_ none with
   |some x=>put r w.to (x+((w.minutes:Nat):Int))
   |none=>r) foot) (λs x=>Q s x\/mz W P s x)
 |[],foot,Q,_,h=>h.congr λs _ x=>by simp[mz]
 |w::W,foot,Q,hw,h=>by
  rw[dS];have f:=hw w (kt ..);have m:=hf.2 w.from_ f.1;cases e:d.getD w.from_ none with
  |none=>
   rw[e]at m;refine(v8 hf W foot Q (λu hu=>hw u (o0 _ hu)) h).congr λs _ x=>?_;constructor
   ·rintro(q|⟨u,hu,r⟩)
    ·exact .inl q
    ·exact .inr ⟨u,o0 _ hu,r⟩
   ·rintro(q|⟨u,hu,b,y,a,c⟩)
    ·exact .inl q
    ·rcases rs.mp hu with rfl|hu
     ·exact absurd a (m y)
     ·exact .inr ⟨u,hu,b,y,a,c⟩
  |some x0=>
   rw[e]at m;refine(v8 hf W _ _ (λu hu=>hw u (o0 _ hu)) (h.put f.2 (m.add (w.minutes:Int)))).congr λs _ x=>?_;constructor
   ·rintro((q|⟨b,y,a,c⟩)|⟨u,hu,r⟩)
    ·exact .inl q
    ·exact .inr ⟨w,kt ..,b.symm,y,a,c⟩
    ·exact .inr ⟨u,o0 _ hu,r⟩
   ·rintro(q|⟨u,hu,b,y,a,c⟩)
    ·exact .inl (.inl q)
    ·rcases rs.mp hu with rfl|hu
     ·exact .inl (.inr ⟨b.symm,y,a,c⟩)
     ·exact .inr ⟨u,hu,b,y,a,c⟩
def Bd (T:t1) (M:Nat) (F R:Nat->Int->Prop) (p:bu) (k:Int) (i:Nat):Prop:=
 (∃y,F (p.stopAt i) y/\y<=p.goes M k i)\/(∃y,R (p.stopAt i) y/\y+((T.stops.getD (p.stopAt i) 0:Nat):Int)<=p.goes M k i)
noncomputable def yI (T:t1) (M:Nat) (q:kq) (x:Nat×Int×bu) (s:Bool×Row) (i:Nat):Bool×Row:=
 let p:=x.2.2
 let at_:=p.stopAt i
 let b:=if s.1=true then put s.2 at_ (p.comes M x.2.1 i)else s.2
 let g:=p.goes M x.2.1 i
 let a:=s.1||((q.foot.getD at_ none).any λy=>decide (y<=g))||((q.train.getD at_ none).any λy=>decide (y+(((T.stops.getD at_ 0):Nat):Int)<=g))
 (a,b)
noncomputable def mP (T:t1) (M:Nat) (q:kq) (r:Row) (x:Nat×Int×bu):Row:=
 ((s4 x.2.2.calls.length).foldl (yI T M q x) (false,r)).2
theorem I5 (T:t1) (M:Nat) (bf:List (Nat×Int×bu)) (q:kq):
  n_ T M bf q=⟨bf.foldl (mP T M q) (T.stops.map λ_=>none),xj T (bf.foldl (mP T M q) (T.stops.map λ_=>none)) (T.stops.map λ_=>none)⟩:=rfl
def f_ (T:t1) (M:Nat) (F R:Nat->Int->Prop) (x:Nat×Int×bu) (m:Nat) (s:Nat) (y:Int):Prop:=
 ∃i j,i<j/\j<m/\Bd T M F R x.2.2 x.2.1 i/\s=x.2.2.stopAt j/\y=x.2.2.comes M x.2.1 j
def tj (N:Nat) (p:bu):Prop:=∀i,i<p.calls.length->p.stopAt i<N
theorem yJ(o:an T.stops.length q.foot F) (p:an T.stops.length q.train R) (u:tj T.stops.length x.2.2)
  (t:an T.stops.length r Q):∀m,m<=x.2.2.calls.length->
  ∃f g,(s4 m).foldl (yI T M q x) (false,r)=(f,g)/\(f=true↔∃i,i<m/\Bd T M F R x.2.2 x.2.1 i)/\an T.stops.length g (λs y=>Q s y\/f_ T M F R x m s y)
 |0,_=>⟨false,r,O,by simp,t.congr λs _ y=>by simp[f_]⟩
 |m+1,hm=>by
  obtain⟨f,g,e,h1,h2⟩:=yJ o p u t m (by lia);rw[wt,oF,e,dS,List.foldl_nil];have n:=u m (by lia);refine⟨_,_,O,?_,?_⟩
  ·have a1:=(o.2 _ n).Fg (x.2.2.goes M x.2.1 m);have a2:=(p.2 _ n).yi ((T.stops.getD (x.2.2.stopAt m) 0:Nat):Int) (x.2.2.goes M x.2.1 m);show(f||_||_)=true↔_;rw[hj,hj,h1,a1,a2];constructor
   ·rintro((⟨i,hi,b⟩|b)|b)
    ·exact⟨i,by lia,b⟩
    ·exact⟨m,by lia,.inl b⟩
    ·exact⟨m,by lia,.inr b⟩
   ·rintro⟨i,hi,b⟩;by_cases w:i=m
    ·subst w;rcases b with b|b
     ·exact .inl (.inr b)
     ·exact .inr b
    ·exact .inl (.inl ⟨i,by lia,b⟩)
  ·show an _ (if f=true then put g (x.2.2.stopAt m) (x.2.2.comes M x.2.1 m)else g) _;by_cases h:f=true
   ·rw[No h];have A:ce (λy=>y=x.2.2.comes M x.2.1 m) (some (x.2.2.comes M x.2.1 m)):=⟨O,λy C=>by lia⟩;refine(h2.put n A).congr λs _ y=>?_;constructor
    ·rintro((a|⟨i,j,a⟩)|⟨c,d⟩)
     ·exact .inl a
     ·exact .inr ⟨i,j,a.1,by lia,a.2.2⟩
     ·obtain⟨i,hi,b⟩:=h1.mp h;exact .inr ⟨i,m,hi,by lia,b,c,d⟩
    ·rintro(a|⟨i,j,k,z,b,c,d⟩)
     ·exact .inl (.inl a)
     ·by_cases l:j=m
      ·subst l;exact .inr ⟨c,d⟩
      ·exact .inl (.inr ⟨i,j,k,by lia,b,c,d⟩)
   ·rw[Ps h];refine h2.congr λs _ y=>?_;constructor
    ·rintro(a|⟨i,j,a⟩)
     ·exact .inl a
     ·exact .inr ⟨i,j,a.1,by lia,a.2.2⟩
    ·rintro(a|⟨i,j,k,z,b,c,d⟩)
     ·exact .inl a
     ·by_cases l:j=m
      ·subst l;exact absurd (h1.mpr ⟨i,k,b⟩) h
      ·exact .inr ⟨i,j,k,by lia,b,c,d⟩
theorem zv(b:an T.stops.length q.foot F) (c:an T.stops.length q.train R):∀(bf:List (Nat×Int×bu)) (r:Row) (Q:Nat->Int->Prop),(∀x,x∈bf->tj T.stops.length x.2.2)->an T.stops.length r Q->
  an T.stops.length (bf.foldl (mP T M q) r) (λs y=>Q s y\/∃x,x∈bf/\f_ T M F R x x.2.2.calls.length s y)
 |[],r,Q,_,h=>h.congr λs _ y=>by simp
 |x::bf,r,Q,d,h=>by
  rw[dS];obtain⟨i,f,e,_,h2⟩:=yJ b c (d x (kt ..)) h x.2.2.calls.length (tz _);have g:mP T M q r x=f:=by unfold mP;rw[e]
  rw[g];refine(zv b c bf f _ (λz hz=>d z (o0 _ hz)) h2).congr λs _ y=>?_;constructor
  ·rintro((a|a)|⟨z,hz,a⟩)
   ·exact .inl a
   ·exact .inr ⟨x,kt ..,a⟩
   ·exact .inr ⟨z,o0 _ hz,a⟩
  ·rintro(a|⟨z,hz,a⟩)
   ·exact .inl (.inl a)
   ·rcases rs.mp hz with rfl|hz
    ·exact .inl (.inr a)
    ·exact .inr ⟨z,hz,a⟩
theorem B6(hT:bw T) (hf:an T.stops.length a P) (h:an T.stops.length foot Q):an T.stops.length (xj T a foot) (λs x=>Q s x\/mz T.walks P s x):=
 v8 hf T.walks foot Q hT.2 h
theorem u7(hT:bw T) (a:p∈T.trips):tj T.stops.length p:=by
 intro i hi;have h:=hT.1 p a;simp only[eW,ev,hp,dL]at h;unfold Ey;rw[np,g1 hi];exact(h.1 _ (eX hi)).1
theorem Ho(h:x∈v4 T M):x.2.2∈T.trips:=by
 obtain⟨n,k,p⟩:=x;exact pi (dr.mp h).1
theorem I9(hT:bw T) (a:an T.stops.length q.foot F) (b:an T.stops.length q.train R):
  an T.stops.length (n_ T M (v4 T M) q).train (λs y=>∃x,x∈v4 T M/\f_ T M F R x x.2.2.calls.length s y)/\
  an T.stops.length (n_ T M (v4 T M) q).foot (mz T.walks λs y=>∃x,x∈v4 T M/\f_ T M F R x x.2.2.calls.length s y):=by(
rw[I5];have h0:an T.stops.length (T.stops.map λ_=>none) (λ_ _=>False):=an.mkNone rfl (λ_ _ h=>h);have h1:=(zv (M:=M) a b (v4 T M) _ _ (λx c=>u7 hT (Ho c)) h0).congr (Q:=λs y=>∃x,x∈v4 T M/\f_ T M F R x x.2.2.calls.length s y) λs _ y=>by simp
exact⟨h1,(B6 hT h1 h0).congr λs _ x=>by simp⟩)
def hD (T:t1) (M:Nat) (x0:Place) (n:Nat) (q:kq):Prop:=
 an T.stops.length q.train (λs y=>Jn T M x0 n ⟨s,y,1⟩)/\an T.stops.length q.foot (λs y=>Jn T M x0 n ⟨s,y,0⟩\/Jn T M x0 n ⟨s,y,2⟩)
theorem ph(h:Jn T M x0 n y):(n=0/\y=x0)\/y.way=1\/y.way=2:=by(
cases h with
|nil=>exact .inl ⟨O,O⟩
|walk _ g=>obtain⟨_,_,_,_,rfl⟩:=aM.mp g;exact .inr (.inr rfl)
|ride _ g=>obtain⟨_,_,_,_,_,_,_,_,rfl⟩:=bQ.mp g;exact .inr (.inl rfl))
section
variable {T:t1}{M a:Nat}{t:Int}
theorem zO:¬Jn T M ⟨a,t,0⟩ 0 ⟨s,y,1⟩:=by(
intro h;cases h with
|walk _ g=>obtain⟨_,_,_,_,e⟩:=aM.mp g;cases e)
theorem HC:Jn T M ⟨a,t,0⟩ 0 ⟨s,y,0⟩↔s=a/\y=t:=by(
constructor
·intro h;cases h with
 |nil=>exact⟨O,O⟩
 |walk _ g=>obtain⟨_,_,_,_,e⟩:=aM.mp g;cases e
·rintro⟨rfl,rfl⟩;exact .nil)
theorem zM:¬Jn T M ⟨a,t,0⟩ (n+1) ⟨s,y,0⟩:=by(
intro h;rcases ph h with⟨e,_⟩|e|e
·cases e
·cases e
·cases e)
theorem zN:Jn T M ⟨a,t,0⟩ n ⟨s,y,2⟩↔mz T.walks (λu z=>Jn T M ⟨a,t,0⟩ n ⟨u,z,0⟩\/Jn T M ⟨a,t,0⟩ n ⟨u,z,1⟩) s y:=by(
constructor
·intro h;cases h with
 |@walk _ z _ w h g=>
  obtain⟨wk,c,b,d,j⟩:=aM.mp g;injection j with k f _;refine⟨wk,pi c,k.symm,z.time,?_,f⟩;obtain⟨l,zt,m⟩:=z;simp only at b d f⊢;subst b;rcases ph h with⟨_,e⟩|e|e
  ·cases e;exact .inl h
  ·simp only at e;subst e;exact .inr h
  ·exact absurd e d
 |ride _ g=>obtain⟨_,_,_,_,_,_,_,_,e⟩:=bQ.mp g;cases e
·rintro⟨w,hw,c,z,hz,b⟩;obtain⟨i,hi⟩:=fW.mp hw;rcases hz with hz|hz
 ·exact Jn.walk hz (aM.mpr ⟨w,hi,O,by simp,by rw[c,b]⟩)
 ·exact Jn.walk hz (aM.mpr ⟨w,hi,O,by simp,by rw[c,b]⟩))
theorem uq:Jn T M ⟨a,t,0⟩ (n+1) ⟨s,y,1⟩↔∃x,x∈v4 T M/\f_ T M (λs y=>Jn T M ⟨a,t,0⟩ n ⟨s,y,0⟩\/Jn T M ⟨a,t,0⟩ n ⟨s,y,2⟩) (λs y=>Jn T M ⟨a,t,0⟩ n ⟨s,y,1⟩) x x.2.2.calls.length s y:=by(
constructor
·intro h;cases h with
 |walk _ g=>obtain⟨_,_,_,_,e⟩:=aM.mp g;cases e
 |@ride _ z _ p k i j h g=>
  obtain⟨tr,c,d,u,w,A,q,f,C⟩:=bQ.mp g;injection C with D r _;refine⟨(p,k,tr),dr.mpr ⟨c,d,u⟩,i,j,w,A,?_,D,r⟩;obtain⟨H,zt,J⟩:=z;simp only[chg]at q f;subst q;unfold Bd;simp only;rcases ph h with⟨_,e⟩|e|e
  ·cases e;exact .inl ⟨_,.inl h,by simpa using f⟩
  ·simp only at e;subst e;exact .inr ⟨_,h,by simpa using f⟩
  ·simp only at e;subst e;exact .inl ⟨_,.inr h,by simpa using f⟩
·rintro⟨⟨p,k,tr⟩,E,i,j,h1,h2,b,c,d⟩;obtain⟨m,o,g3⟩:=dr.mp E;simp only at h2 b c d;rcases b with⟨z,hz|hz,l⟩|⟨z,hz,l⟩
 ·exact Jn.ride hz (bQ.mpr ⟨tr,m,o,g3,h1,h2,O,by simpa [chg]using l,by rw[c,d]⟩)
 ·exact Jn.ride hz (bQ.mpr ⟨tr,m,o,g3,h1,h2,O,by simpa [chg]using l,by rw[c,d]⟩)
 ·exact Jn.ride hz (bQ.mpr ⟨tr,m,o,g3,h1,h2,O,by simpa [chg]using l,by rw[c,d]⟩))
theorem Mz (hT:bw T) (b:a<T.stops.length):hD T M ⟨a,t,0⟩ 0 (start T a t):=by(
have h0:∀P:Nat->Int->Prop,(∀s x,¬P s x)->an T.stops.length (T.stops.map λ_=>none) P:=λP h=>an.mkNone rfl h;have h1:an T.stops.length (put (T.stops.map λ_=>none) a t) (λs y=>Jn T M ⟨a,t,0⟩ 0 ⟨s,y,0⟩):=
 ((h0 (λ_ _=>False) (λ_ _ h=>h)).put (Q:=λy=>y=t) b ⟨O,λy c=>by lia⟩).congr λs _ x=>by rw[HC];simp
refine⟨h0 _ λs x=>zO,?_⟩;show an _ (xj T _ _) _;refine(B6 hT h1 h1).congr λs _ x=>?_;rw[zN];have:(λu z=>Jn T M ⟨a,t,0⟩ 0 ⟨u,z,0⟩\/Jn T M ⟨a,t,0⟩ 0 ⟨u,z,1⟩)=(λu z=>Jn T M ⟨a,t,0⟩ 0 ⟨u,z,0⟩):=by
 funext u z;exact propext ⟨λh=>h.elim id (λh=>absurd h zO),.inl⟩
rw[this])
theorem I8(hT:bw T) (h:hD T M ⟨a,t,0⟩ n q):hD T M ⟨a,t,0⟩ (n+1) (n_ T M (v4 T M) q):=by(
obtain⟨h1,h2⟩:=I9 (M:=M) hT h.2 h.1;refine⟨h1.congr λs _ y=>uq.symm,h2.congr λs _ y=>?_⟩;have:(λu z=>Jn T M ⟨a,t,0⟩ (n+1) ⟨u,z,0⟩\/Jn T M ⟨a,t,0⟩ (n+1) ⟨u,z,1⟩)=(λs y=>∃x,x∈v4 T M/\f_ T M (λs y=>Jn T M ⟨a,t,0⟩ n ⟨s,y,0⟩\/Jn T M ⟨a,t,0⟩ n ⟨s,y,2⟩) (λs y=>Jn T M ⟨a,t,0⟩ n ⟨s,y,1⟩) x x.2.2.calls.length s y):=by
 funext u z;exact propext ⟨λh=>h.elim (λh=>absurd h zM) uq.mp,λh=>.inr (uq.mpr h)⟩
rw[zN,this];constructor
·exact .inr
·rintro(h|h)
 ·exact absurd h zM
 ·exact h)
theorem Hy(hT:bw T) (b:a<T.stops.length) (h:Jn T M ⟨a,t,0⟩ n y):y.halt<T.stops.length:=by(
cases h with
|nil=>exact b
|walk _ g=>obtain⟨w,e,_,_,rfl⟩:=aM.mp g;exact(hT.2 w (pi e)).2
|ride _ g=>obtain⟨p,e,_,_,_,c,_,_,rfl⟩:=bQ.mp g;exact u7 hT (pi e) _ c)
theorem HA(h:Jn T M ⟨a,t,0⟩ n y):∀m,m<=n->∃z,Jn T M ⟨a,t,0⟩ m z:=by(
induction h with
|nil=>intro m hm;rw[show m=0 by lia];exact⟨_,.nil⟩
|walk _ _ b=>exact b
|@ride n _ _ _ _ _ _ h g b=>
 intro m hm;by_cases e:m=n+1
 ·subst e;exact⟨_,Jn.ride h g⟩
 ·exact b m (by lia))
def ap (T:t1) (M a:Nat) (t:Int) (n s:Nat) (y:Int):Prop:=∃w,Jn T M ⟨a,t,0⟩ n ⟨s,y,w⟩
theorem BN:ap T M a t n s y↔Jn T M ⟨a,t,0⟩ n ⟨s,y,1⟩\/(Jn T M ⟨a,t,0⟩ n ⟨s,y,0⟩\/Jn T M ⟨a,t,0⟩ n ⟨s,y,2⟩):=by(
constructor
·rintro⟨w,h⟩;rcases ph h with⟨e,b⟩|e|e
 ·injection b with d f c;subst c;exact .inr (.inl h)
 ·simp only at e;subst e;exact .inl h
 ·simp only at e;subst e;exact .inr (.inr h)
·rintro(h|h|h)<;>exact⟨_,h⟩)
def rowOf (q:kq):Row:=(q.train.zip q.foot).map λx=>less x.1 x.2
theorem hD.row(h:hD T M ⟨a,t,0⟩ n q):an T.stops.length (rowOf q) (ap T M a t n):=by(
refine⟨by simp[rowOf,h.1.1,h.2.1],λs b=>?_⟩;have e:(rowOf q).getD s none=less (q.train.getD s none) (q.foot.getD s none):=by
 have c:s<q.train.length:=by rw[h.1.1];exact b
 have d:s<q.foot.length:=by rw[h.2.1];exact b
 simp[rowOf,np,pr,List.getElem?_zip_eq_some,g1 c,g1 d,List.getElem?_zipWith,List.zip]
rw[e];exact((h.1.2 s b).less (h.2.2 s b)).congr λy=>BN.symm)
theorem hD.empty(hT:bw T) (i:a<T.stops.length) (h:hD T M ⟨a,t,0⟩ n q) (e:(q.train++q.foot).all (λx=>x.isNone)=true):∀m y,n<=m->¬Jn T M ⟨a,t,0⟩ m y:=by(
have h0:∀y,¬Jn T M ⟨a,t,0⟩ n y:=by
 rintro⟨s,y,w⟩ b;have c:=Hy hT i b;simp only at c;rw[hp]at e;have nn:∀r:Row,r.length=T.stops.length->(∀x,x∈r->x∈q.train++q.foot)->r.getD s none=none:=by
  intro r j hm;have g:s<r.length:=by rw[j];exact c
  rw[np,g1 g];have:=e _ (hm _ (eX g));simpa using this
 have m1:=h.1.2 s c;have m2:=h.2.2 s c;rw[nn q.train h.1.1 λx f=>gx _ f]at m1;rw[nn q.foot h.2.1 λx f=>fY _ f]at m2;rcases BN.mp ⟨w,b⟩with d|d
 ·exact m1 y d
 ·exact m2 y d
intro m y hm b;obtain⟨z,hz⟩:=HA b n hm;exact h0 z hz)
theorem A3 (hT:bw T) (b:a<T.stops.length):∀(most n:Nat) (q:kq),hD T M ⟨a,t,0⟩ n q->0<(ec T M (v4 T M) most q).length/\(ec T M (v4 T M) most q).length<=most+1/\
  (∀i r,(ec T M (v4 T M) most q)[i]?=some r->hD T M ⟨a,t,0⟩ (n+i) r)/\
  ((ec T M (v4 T M) most q).length<=most->∀m y,n+(ec T M (v4 T M) most q).length<=m->¬Jn T M ⟨a,t,0⟩ m y)
 |0,n,q,h=>by
  refine⟨by simp[ec],by simp[ec],?_,by simp[ec]⟩;intro i r hi;cases i with
  |zero=>simp[ec]at hi;subst hi;exact h
  |succ i=>simp[ec]at hi
 |most+1,n,q,h=>by
  unfold ec;split
  ·rename_i e;refine⟨by simp,by simp,?_,?_⟩
   ·intro i r hi;cases i with
    |zero=>simp at hi;subst hi;exact h
    |succ i=>simp at hi
   ·intro _ m y hm;exact h.empty hT b e m y (by lia)
  ·obtain⟨h1,h2,c,d⟩:=A3 hT b most (n+1) _ (I8 hT h);refine⟨by simp,by simp only[bt];lia,?_,?_⟩
   ·intro i r hi;cases i with
    |zero=>simp at hi;subst hi;exact h
    |succ i=>
     have:=c i r (by simpa using hi)
     rwa [show n+1+i=n+(i+1) by lia]at this
   ·simp only[bt];intro f m y hm;exact d (by lia) m y (by lia)
theorem oT (hT:bw T) (c:a<T.stops.length) (most:Nat):
  (aE T M a t most).length<=most+1/\
  (∀n r,(aE T M a t most)[n]?=some r->an T.stops.length r (ap T M a t n))/\
  (∀n s y,n<=most->(aE T M a t most).length<=n->¬ap T M a t n s y):=by(
obtain⟨_,h2,d,f⟩:=A3 (T:=T) (M:=M) (a:=a) (t:=t) hT c most 0 _ (Mz hT c);have h:(aE T M a t most).length=(ec T M (v4 T M) most (start T a t)).length:=by simp[aE]
refine⟨by lia,?_,?_⟩
·intro n r b;unfold aE at b;rw[pr]at b;cases e:(ec T M (v4 T M) most (start T a t))[n]? with
 |none=>rw[e]at b;cases b
 |some q=>
  rw[e]at b;have:=d n q e;rw[su]at this;cases b;exact this.row
·rintro n s y j i ⟨w,g⟩;exact f (by lia) n _ (by lia) g)
end
theorem AH {c:Type}(D:c->Nat->Prop) (b:∀z i j,D z i->D z j->i=j):∀(n:Nat) (A:List c),(∀i,1<=i->i<=n->∃z,z∈A/\D z i)->n<=A.length
 |0,_,_=>f4 _
 |n+1,A,h=>by
  classical
  obtain⟨z,hz,d⟩:=h (n+1) (by lia) (tz _);have h1:(A.filter λy=>decide (¬D y (n+1))).length<A.length:=
   List.length_filter_lt_length_iff_exists.mpr ⟨z,hz,by simpa using d⟩
  have h2:=AH D b n (A.filter λy=>decide (¬D y (n+1))) λi hi f=>by
   obtain⟨y,e,a⟩:=h i hi (by lia);refine⟨y,f5.mpr ⟨e,?_⟩,a⟩;simp only[dL];intro q;have:=b y _ _ a q;lia
  lia
noncomputable def m_ (T:t1) (M:Nat):List Place:=(v4 T M).flatMap λx=>(s4 x.2.2.calls.length).map λj=>⟨x.2.2.stopAt j,x.2.2.comes M x.2.1 j,1⟩
theorem Jl (T:t1) (M:Nat):(m_ T M).length+1=aJ T M:=by
 unfold m_ aJ;rw[wg];simp
theorem GR {P:Nat->Prop}:∀n,P n->∃m,m<=n/\P m/\∀i,i<m->¬P i:=by(
intro n
induction n using Nat.strongRecOn with
|_ n b=>
 intro h;by_cases e:∃i,i<n/\P i
 ·obtain⟨i,hi,a⟩:=e;obtain⟨m,hm,h1,h2⟩:=b i hi a;exact⟨m,by lia,h1,h2⟩
 ·exact⟨n,tz _,h,λi hi a=>e ⟨i,hi,a⟩⟩)
section
variable {T:t1}{M:Nat}{x0:Place}
theorem LC(g:go T M y (.ride p k i j)=some z):z∈m_ T M:=by
 obtain⟨tr,a,b,c,e,d,f,h,rfl⟩:=bQ.mp g;exact fk.mpr ⟨(p,k,tr),dr.mpr ⟨a,b,c⟩,mo.mpr ⟨j,bS.mpr d,O⟩⟩
theorem Hx(h:Jn T M x0 n y):(∀m,m<n->¬Jn T M x0 m y)->∀i,1<=i->i<=n->∃z,z∈m_ T M/\Jn T M x0 i z/\∀m,m<i->¬Jn T M x0 m z:=by(
induction h with
|nil=>intro _ i h1 h2;lia
|@walk n y z w h g c=>intro hm i h1 h2;exact c (λm d q=>hm m d (Jn.walk q g)) i h1 h2
|@ride n y z p k a b h g c=>
 intro hm i h1 h2;by_cases e:i=n+1
 ·subst e;exact⟨z,LC g,Jn.ride h g,hm⟩
 ·exact c (λm d q=>hm (m+1) (by lia) (Jn.ride q g)) i h1 (by lia))
theorem HB(h:Jn T M x0 n y):∃m,m<=n/\m<aJ T M/\Jn T M x0 m y:=by(
obtain⟨m,hm,h1,h2⟩:=GR (P:=λm=>Jn T M x0 m y) n h;refine⟨m,hm,?_,h1⟩;have:=AH (λ(z:Place) i=>Jn T M x0 i z/\∀m,m<i->¬Jn T M x0 m z) (λz i j hi a=>by
 rcases DG i j with q|q|q
 ·exact absurd hi.1 (a.2 i q)
 ·exact q
 ·exact absurd a.1 (hi.2 j q)) m (m_ T M) (Hx h1 h2)
have:=Jl T M;lia)
end
section
variable {T:t1}{M a:Nat}{t:Int}
theorem BO(h:ap T M a t n s y):∃m,m<=n/\m<aJ T M/\ap T M a t m s y:=by
 obtain⟨w,h⟩:=h;obtain⟨m,h1,h2,b⟩:=HB h;exact⟨m,h1,h2,w,b⟩
noncomputable def arr (l:List Row) (s n:Nat):Option Int:=(l[n]?.getD []).getD s none
theorem yk(hT:bw T) (c:a<T.stops.length) (d:n<=most) (f:s<T.stops.length):ce (ap T M a t n s) (arr (aE T M a t most) s n):=by(
obtain⟨h1,h2,b⟩:=oT (T:=T) (M:=M) (a:=a) (t:=t) hT c most;unfold arr;cases e:(aE T M a t most)[n]? with
|none=>exact ce.mkNone λy=>b n s y d (sU.mp e)
|some r=>exact(h2 n r e).2 s f)
theorem yw:∀(l:List Row) (m:Option Int) (P:Int->Prop) (Q:Nat->Int->Prop),ce P m->(∀n,n<l.length->ce (Q n) (arr l s n))->ce (λx=>P x\/∃n,n<l.length/\Q n x) (l.foldl (λm r=>less m (r.getD s none)) m)
 |[],m,P,Q,h,_=>h.congr λx=>by simp
 |r::l,m,P,Q,h,c=>by
  rw[dS];have h0:ce (Q 0) (r.getD s none):=c 0 (by simp);refine(yw l _ _ (λn=>Q (n+1)) (h.less h0) (λn b=>c (n+1) (by simp;lia))).congr λx=>?_;constructor
  ·rintro((q|q)|⟨n,b,q⟩)
   ·exact .inl q
   ·exact .inr ⟨0,by simp,q⟩
   ·exact .inr ⟨n+1,by simp;lia,q⟩
  ·rintro(q|⟨n,b,q⟩)
   ·exact .inl (.inl q)
   ·cases n with
    |zero=>exact .inl (.inr q)
    |succ n=>exact .inr ⟨n,by simp at b;lia,q⟩
theorem oX(hT:bw T) (b:a<T.stops.length) (f:s<T.stops.length):ce (λx=>∃n,ap T M a t n s x) (l2 (aE T M a t (aJ T M)) s):=by(
obtain⟨h1,h2,d⟩:=oT (T:=T) (M:=M) (a:=a) (t:=t) hT b (aJ T M);refine(yw (s:=s) (aE T M a t (aJ T M)) none (λ_=>False) (λn=>ap T M a t n s) (λy h=>h) (λn g=>yk hT b (by lia) f)).congr λx=>?_;constructor
·rintro(q|⟨n,_,q⟩)
 ·exact q.elim
 ·exact⟨n,q⟩
·rintro⟨n,q⟩;obtain⟨m,_,hm,c⟩:=BO q;refine .inr ⟨m,?_,c⟩;by_cases e:m<(aE T M a t (aJ T M)).length
 ·exact e
 ·exact absurd c (d m s x (by lia) (by lia)))
def eg (P:Nat->Prop):Option Nat->Prop
 |some n=>P n/\∀i,i<n->¬P i
 |none=>∀n,¬P n
theorem eg.uniq(h:eg P o) (h':eg P u):o=u:=by(
cases o with
|none=>cases u with
 |none=>rfl
 |some y=>exact absurd h'.1 (h y)
|some x=>cases u with
 |none=>exact absurd h.1 (h' x)
 |some y=>
  rcases DG x y with q|q|q
  ·exact absurd h.1 (h'.2 x q)
  ·rw[q]
  ·exact absurd h'.1 (h.2 y q))
theorem eg.congr(h:eg P o) (e:∀x,P x↔Q x):eg Q o:=by(
have:P=Q:=funext λx=>propext (e x)
rwa [<- this])
theorem GN (l:List Row) (s:Nat) (ok:Int->Bool):eg (λn=>(arr l s n).any ok=true) (gw l s ok):=by(
unfold gw;cases e:l.findIdx? (λr=>(r.getD s none).any ok)with
|none=>
 rw[List.findIdx?_eq_none_iff]at e;intro n b;unfold arr at b;cases c:l[n]? with
 |none=>rw[c]at b;simp at b
 |some r=>
  rw[c]at b;have:=e r (pi c);rw[show(Option.getD (some r) [])=r from rfl]at b;rw[b]at this;cases this
|some n=>
 rw[ED]at e;obtain⟨b,h1,h2⟩:=e;refine⟨?_,?_⟩
 ·show((l[n]?.getD []).getD s none).any ok=true;rw[g1 b];exact h1
 ·intro i hi h;have d:=h2 i hi;unfold arr at h;rw[g1 (by lia)]at h;exact d h)
theorem y_(hT:bw T) (d:a<T.stops.length) (k:s<T.stops.length) (ag:∀n x y,ap T M a t n s x->ap T M a t n s y->y<=x->ok x=true->ok y=true):
  eg (λn=>∃x,ap T M a t n s x/\ok x=true) (gw (aE T M a t (aJ T M)) s ok):=by(
obtain⟨h1,h2,p⟩:=oT (T:=T) (M:=M) (a:=a) (t:=t) hT d (aJ T M);have key:∀n,n<=aJ T M->((arr (aE T M a t (aJ T M)) s n).any ok=true↔∃x,ap T M a t n s x/\ok x=true):=by
 intro n j;have m:=yk (M:=M) (t:=t) hT d j k;cases e:arr (aE T M a t (aJ T M)) s n with
 |none=>rw[e]at m;simp only[DW,fX,false_iff];rintro⟨x,b,_⟩;exact m x b
 |some x=>
  rw[e]at m;simp only[DX];exact⟨λo=>⟨x,m.1,o⟩,λ⟨y,g,o⟩=>ag n y x g m.1 (m.2 y g) o⟩
have lt:∀n,(arr (aE T M a t (aJ T M)) s n).any ok=true->n<=aJ T M:=by
 intro n h;unfold arr at h;cases c:(aE T M a t (aJ T M))[n]? with
 |none=>rw[c]at h;simp at h
 |some r=>
  have:=(aD.mp c).1;lia
have f:=GN (aE T M a t (aJ T M)) s ok;cases e:gw (aE T M a t (aJ T M)) s ok with
|none=>
 rw[e]at f;rintro n ⟨x,b,o⟩;obtain⟨m,_,hm,l⟩:=BO b;exact f m ((key m (by lia)).mpr ⟨x,l,o⟩)
|some n=>
 rw[e]at f;refine⟨(key n (lt n f.1)).mp f.1,λi hi q=>f.2 i hi ((key i ?_).mpr q)⟩;have:=lt n f.1;lia)
theorem F_(hT:bw T) (c:a<T.stops.length) (d:b<T.stops.length) (h1:ce (λx=>∃n,ap T M a t n b x) (some x)) (h2:eg (λn=>ap T M a t n b x) (some r)):jc T M a b t=some (x,r):=by(
have e:=(oX (M:=M) (t:=t) hT c d).uniq h1;have f:gw (aE T M a t (aJ T M)) b (λy=>y==x)=some r:=by
 refine eg.uniq ((y_ (M:=M) (t:=t) hT c d ?_).congr λn=>?_) h2
 ·intro n y z _ hz g o;simp only[gu]at o⊢;have:=h1.2 z ⟨n,hz⟩;lia
 ·simp
unfold jc;simp only[e,sD,f,ik])
theorem F9(hT:bw T) (d:a<T.stops.length) (e:b<T.stops.length) (h1:ce (λx=>∃n,ap T M a t n b x) none):jc T M a b t=none:=by
 have c:=(oX (M:=M) (t:=t) hT d e).uniq h1;unfold jc;simp only[c,Option.bind_none]
end
theorem Nv {a:Type}(l:List a) (i:Nat) (h:i+1<l.length):(l[i],l[i+1])∈l.zip l.tail:=by
 rw[Cr];refine⟨i,by simp;lia,by simp⟩
section
variable {T:t1}
theorem tR(hT:bw T) (a:p∈T.trips):∀d i,i+d+1<p.calls.length->(p.calls.getD i ⟨0,0,0⟩).goes<=(p.calls.getD (i+d+1) ⟨0,0,0⟩).comes
 |0,i,h=>by
  have h1:=hT.1 p a;simp only[eW,ev,hp,dL]at h1;have:=h1.2 _ (Nv p.calls i h);simpa [np,g1 h,g1 (show i<p.calls.length by lia)]using this
 |d+1,i,h=>by
  have a1:=tR hT a d i (by lia);have a2:=tR hT a 0 (i+d+1) (by lia);have h1:=hT.1 p a;simp only[eW,ev,hp,dL]at h1;have a3:=(h1.1 _ (eX (show i+d+1<p.calls.length by lia))).2.1;have e:p.calls.getD (i+d+1) ⟨0,0,0⟩=p.calls[i+d+1]'(by lia):=by
   rw[np,g1 (by lia)];rfl
  rw[show i+(d+1)+1=i+d+1+0+1 by lia];rw[e]at a1 a2;lia
theorem ue(hT:bw T) (a:p∈T.trips) (M:Nat) (k:Int) (h:i<j) (b:j<p.calls.length):p.goes M k i<=p.comes M k j:=by
 have:=tR hT a (j-i-1) i (by lia);rw[show i+(j-i-1)+1=j by lia]at this;unfold xZ xY;split<;>split<;>lia
theorem yS (T:t1) (x:Place):0<=chg T x:=by unfold chg;split<;>lia
theorem G_(hT:bw T) (h:go T M x a=some y):x.time<=y.time:=by(
cases a with
|walk w=>obtain⟨wk,_,_,_,rfl⟩:=aM.mp h;show x.time<=x.time+_;lia
|ride n k i j=>
 obtain⟨p,b,_,_,c,d,_,e,rfl⟩:=bQ.mp h;have:=ue hT (pi b) M k c d;have:=yS T x;show x.time<=p.comes M k j;lia)
theorem kW(hT:bw T) :∀(l:List Leg) {x y:Place},be T M x l=some y->x.time<=y.time
 |[],x,y,h=>by cases h;exact fj _
 |a::l,x,y,h=>by
  obtain⟨z,g,f⟩:=dj h;have:=G_ hT g;have:=kW hT l f;lia
theorem i0:ap T M a t n s y↔∃l w,be T M ⟨a,t,0⟩ l=some ⟨s,y,w⟩/\rides l=n:=by(
constructor
·rintro⟨w,h⟩;obtain⟨l,h1,h2⟩:=Hz h;exact⟨l,w,h1,h2⟩
·rintro⟨l,w,h1,rfl⟩;exact⟨w,Iw h1⟩)
theorem pC:u∈xg T M a b g↔u<=g/\((a=b/\u=g)\/(∃w,w∈T.walks/\w.from_=a/\w.to=b/\u=g-(w.minutes:Int))\/
  ∃x,x∈v4 T M/\∃i,i<x.2.2.calls.length/\((x.2.2.stopAt i=a/\u=x.2.2.goes M x.2.1 i)\/∃w,w∈T.walks/\w.from_=a/\w.to=x.2.2.stopAt i/\u=x.2.2.goes M x.2.1 i-(w.minutes:Int))):=by(
unfold xg;simp only[f5,dL,cs,mo,fk,bS,ev,gu,rs];constructor
·rintro⟨h,hu⟩;refine⟨hu,?_⟩;rcases h with(h|⟨w,⟨h1,h2,c⟩,d⟩)|⟨x,f,i,hi,z,⟨hz,k⟩,e⟩
 ·split at h
  ·rename_i e;simp at h;exact .inl ⟨e,h⟩
  ·simp at h
 ·exact .inr (.inl ⟨w,h1,h2,c,d.symm⟩)
 ·refine .inr (.inr ⟨x,f,i,hi,?_⟩);rcases hz with rfl|⟨w,⟨hw,j⟩,rfl⟩
  ·exact .inl ⟨k.symm,by simp at e;lia⟩
  ·exact .inr ⟨w,hw,j,k,e.symm⟩
·rintro⟨hu,h⟩;refine⟨?_,hu⟩;rcases h with⟨e,h⟩|⟨w,h1,h2,c,d⟩|⟨x,f,i,hi,⟨j,l⟩|⟨w,h1,h2,c,d⟩⟩
 ·rw[No e];exact .inl (.inl (by simp[h]))
 ·exact .inl (.inr ⟨w,⟨h1,h2,c⟩,d.symm⟩)
 ·exact .inr ⟨x,f,i,hi,(a,0),⟨.inl rfl,j.symm⟩,by simp[l]⟩
 ·exact .inr ⟨x,f,i,hi,(w.to,(w.minutes:Int)),⟨.inr ⟨w,⟨h1,h2⟩,O⟩,c⟩,d.symm⟩)
theorem leaving(hT:bw T) (h:ap T M a u n b x) (E:x<=o):∃H L,H∈xg T M a b o/\u<=H/\ap T M a H n b L/\L<=o:=by(
obtain⟨l,w,f,c⟩:=i0.mp h
match l,f,c with
|[],f,c=>
 cases f;refine⟨o,o,pC.mpr ⟨fj _,.inl ⟨O,O⟩⟩,E,i0.mpr ⟨[],0,O,c⟩,fj _⟩
|[.walk v],f,c=>
 rw[iO]at f;obtain⟨wk,D,m,N,Q⟩:=aM.mp f;injection Q with J U Y;simp only at m U;refine⟨o-(wk.minutes:Int),o,pC.mpr ⟨by lia,.inr (.inl ⟨wk,pi D,m,J.symm,O⟩)⟩,by lia,i0.mpr ⟨[.walk v],2,?_,c⟩,fj _⟩;rw[iO];refine aM.mpr ⟨wk,D,m,by simp,?_⟩;rw[J];simp
|.walk v:: .walk OM::l,f,c=>
 obtain⟨y,g,f⟩:=dj f;obtain⟨z,g',f⟩:=dj f;obtain⟨_,_,_,_,rfl⟩:=aM.mp g;obtain⟨_,_,_,q,_⟩:=aM.mp g';exact absurd rfl q
|.walk v:: .ride p k i j::l,f,c=>
 obtain⟨y,g,f⟩:=dj f;obtain⟨z,g',f⟩:=dj f;obtain⟨wk,D,m,N,rfl⟩:=aM.mp g;obtain⟨tr,d,s,t,A,C,e,r,rfl⟩:=bQ.mp g';simp only[chg]at m e r;simp at r;have m1:=ue hT (pi d) M k A C;have m2:=kW hT l f;simp only at m2;refine⟨tr.goes M k i-(wk.minutes:Int),x,pC.mpr ⟨by lia,.inr (.inr ⟨(p,k,tr),dr.mpr ⟨d,s,t⟩,i,by simp;lia,.inr ⟨wk,pi D,m,e.symm,O⟩⟩)⟩,by lia,i0.mpr ⟨.walk v:: .ride p k i j::l,w,?_,c⟩,E⟩;rw[gK (aM.mpr ⟨wk,D,m,by simp,O⟩)];rw[gK (bQ.mpr ⟨tr,d,s,t,A,C,e,by simp[chg],O⟩)];exact f
|.ride p k i j::l,f,c=>
 obtain⟨z,g',f⟩:=dj f;obtain⟨tr,d,s,t,A,C,e,r,rfl⟩:=bQ.mp g';simp only[chg]at e r;simp at r;have m1:=ue hT (pi d) M k A C;have m2:=kW hT l f;simp only at m2;refine⟨tr.goes M k i,x,pC.mpr ⟨by lia,.inr (.inr ⟨(p,k,tr),dr.mpr ⟨d,s,t⟩,i,by simp;lia,.inl ⟨e,O⟩⟩)⟩,r,i0.mpr ⟨.ride p k i j::l,w,?_,c⟩,E⟩;rw[gK (bQ.mpr ⟨tr,d,s,t,A,C,e,by simp[chg],O⟩)];exact f)
theorem zb{b:Type}{f:Int->Option b}{y:b}(hu:f u=some y) (hm:∀v,u<v->f v=none):∀l:List Int,l.Pairwise (λx y=>y<=x)->u∈l->l.findSome? f=some y
 |[],_,h=>by simp at h
 |x::l,a,h=>by
  rw[oC]at a;rw[oA];cases e:f x with
  |none=>
   rcases rs.mp h with rfl|h
   ·rw[hu]at e;cases e
   ·exact zb hu hm l a.2 h
  |some z=>
   have:x=u:=by
    rcases rs.mp h with rfl|h
    ·rfl
    ·have:=a.1 u h;by_cases q:u<x
     ·rw[hm x q]at e;cases e
     ·lia
   subst this;rw[hu]at e;exact e.symm
theorem GQ {a d:Type}{f:a->Option d}(l:List a) (h:∀x,x∈l->f x=none):l.findSome? f=none:=by(
induction l with
|nil=>rfl
|cons x l c=>rw[oA,h x (kt ..)];exact c λy b=>h y (o0 _ b))
theorem Mw (l:List Int):(l.mergeSort λx y=>decide (y<=x)).Pairwise (λx y=>y<=x):=by
 have:=Ck (le:=λx y:Int=>decide (y<=x)) (λa b c=>by simp;lia) (λa b=>by simp;lia) l;exact this.imp λh=>by simpa using h
theorem tY(hT:bw T) (d:a<T.stops.length) (e:b<T.stops.length) (u c:Int):
  eg (λn=>∃x,ap T M a u n b x/\x<=c) (gw (aE T M a u (aJ T M)) b λx=>decide (x<=c)):=
 (y_ (M:=M) (t:=u) hT d e (ok:=λx=>decide (x<=c)) (λn x y _ _ f o=>by simp at o ⊢;lia)).congr λn=>by simp
theorem Im(hT:bw T) (g:a<T.stops.length) (h:b<T.stops.length) (h1:eg (λn=>∃x,ap T M a u n b x/\x<=c) (some r)) (h2:∀v n x,u<v->ap T M a v n b x->c<x):l1 T M a b c=some (u,r):=by(
have hf:(gw (aE T M a u (aJ T M)) b λx=>decide (x<=c))=some r:=(tY hT g h u c).uniq h1;have j:∀v,u<v->(gw (aE T M a v (aJ T M)) b λx=>decide (x<=c))=none:=λv hv=>
 (tY hT g h v c).uniq (u:=none) λn ⟨x,d,i⟩=>by have:=h2 v n x hv d;lia
obtain⟨x,d,i⟩:=h1.1;obtain⟨e,l,hm,hu,k,m⟩:=leaving hT d i;have:e=u:=by
 by_cases q:u<e
 ·have:=h2 e r l q k;lia
 ·lia
subst this;unfold l1;exact zb (f:=λv=>(gw (aE T M a v (aJ T M)) b λx=>decide (x<=c)).map λr=>(v,r)) (by rw[hf];rfl) (λv hv=>by rw[j v hv];rfl) _ (Mw _) (Cv.mpr hm))
theorem Il(hT:bw T) (d:a<T.stops.length) (e:b<T.stops.length) (h2:∀v n x,ap T M a v n b x->c<x):l1 T M a b c=none:=by(
unfold l1;refine GQ _ λv _=>?_;have:(gw (aE T M a v (aJ T M)) b λx=>decide (x<=c))=none:=
 (tY hT d e v c).uniq (u:=none) λn ⟨x,f,g⟩=>by have:=h2 v n x f;lia
rw[this];rfl)
end
theorem oV:∀l,ci l l=false
 |[]=>rfl
 |x::l=>by simp[ci,oV l]
theorem tF:∀ {a b c:List Int},ci a b=true->ci b c=true->ci a c=true
 |[],_,[],h1,h2=>by
  rename_i b;cases b<;>simp[ci]at h1 h2
 |[],_,_::_,_,_=>rfl
 |_::_,[],_,h1,_=>by simp[ci]at h1
 |_::_,_::_,[],_,h2=>by simp[ci]at h2
 |x::a,y::b,z::c,h1,h2=>by
  simp only[ci,hj,ev,dL]at h1 h2⊢;rcases h1 with h1|⟨d,h1⟩<;>rcases h2 with h2|⟨e,h2⟩
  ·left;lia
  ·left;lia
  ·left;lia
  ·exact .inr ⟨by lia,tF h1 h2⟩
theorem tE:∀(a b:List Int),ci a b=true\/a=b\/ci b a=true
 |[],[]=>.inr (.inl rfl)
 |[],_::_=>.inl rfl
 |_::_,[]=>.inr (.inr rfl)
 |x::a,y::b=>by
  simp only[ci,hj,ev,dL,kx];rcases Int.lt_trichotomy x y with h|h|h
  ·exact .inl (.inl h)
  ·rcases tE a b with q|q|q
   ·exact .inl (.inr ⟨h,q⟩)
   ·exact .inr (.inl ⟨h,q⟩)
   ·exact .inr (.inr (.inr ⟨h.symm,q⟩))
  ·exact .inr (.inr (.inl h))
theorem yu(h:ci a b=true):ci b a=false:=by(
cases e:ci b a with
|false=>rfl
|true=>have:=tF h e;rw[oV]at this;cases this)
theorem tD:∀(p l m:List Int),ci (p++l) (p++m)=ci l m
 |[],_,_=>rfl
 |x::p,l,m=>by simp[ci,tD p l m]
def c6 (a b:List Int):Prop:=a=b\/ci a b=true
theorem A5(h:c6 a b) (h':c6 b a):a=b:=by(
rcases h with h|h
·exact h
·rcases h' with h'|h'
 ·exact h'.symm
 ·rw[yu h]at h';cases h')
theorem A6(h:c6 l m):c6 (p++l) (p++m):=by(
rcases h with rfl|h
·exact .inl rfl
·exact .inr (by rw[tD];exact h))
theorem jT:(!ci b a)=true↔c6 a b:=by(
constructor
·intro h;rcases tE a b with q|q|q
 ·exact .inr q
 ·exact .inl q
 ·rw[q]at h;cases h
·rintro(rfl|h)
 ·rw[oV];rfl
 ·rw[yu h];rfl)
theorem LJ(h:c6 a b) (h':c6 b c):c6 a c:=by(
rcases h with rfl|h
·exact h'
·rcases h' with rfl|h'
 ·exact .inr h
 ·exact .inr (tF h h'))
theorem LI (a b:List Int):c6 a b\/c6 b a:=by(
rcases tE a b with q|q|q
·exact .inl (.inr q)
·exact .inl (.inl q)
·exact .inr (.inr q))
theorem Mx (l:List (List Int)):(l.mergeSort λa b=>!ci b a).Pairwise c6:=by(
have:=Ck (le:=λa b:List Int=>!ci b a) (λa b c h1 h2=>jT.mpr (LJ (jT.mp h1) (jT.mp h2)))
 (λa b=>by rw[hj,jT,jT];exact LI a b) l
exact this.imp λh=>jT.mp h)
theorem Bt {d:Type}{R:d->d->Prop}(f:∀a b,R a b->R b a->a=b):∀ {l m:List d},l.Perm m->l.Pairwise R->m.Pairwise R->l=m
 |[],m,p,_,_=>(List.nil_perm.mp p).symm
 |x::l,[],p,_,_=>absurd p.length_eq (by simp)
 |x::l,y::m,p,c,hm=>by
  rw[oC]at c hm;have e:x=y:=by
   have h1:x∈y::m:=p.mem_iff.mp (kt ..);have h2:y∈x::l:=p.mem_iff.mpr (kt ..);rcases rs.mp h1 with h1|h1
   ·exact h1
   ·rcases rs.mp h2 with h2|h2
    ·exact h2.symm
    ·exact f x y (c.1 y h2) (hm.1 x h1)
  subst e;rw[Bt f (List.perm_cons x |>.mp p) c.2 hm.2]
def uf (T:t1) (halt M:Nat) (t:Int):List (List Int):=T.trips.zipIdx.flatMap λ(x:bu×Nat)=>([-1,0,1]:List Int).flatMap λ(k:Int)=>if x.1.runs M k=false then []else
 (s4 (x.1.calls.length-1)).filterMap λ(i:Nat)=>if x.1.stopAt i=halt/\t<=x.1.goes M k i then some [x.1.goes M k i,((x.2:Nat):Int),k,((x.1.stopAt (x.1.calls.length-1):Nat):Int)]else none
theorem Hb(c:l.Perm (uf T halt M t)) (d:l.Pairwise c6):so T halt M t=l:=
 Bt (λa b=>A5) ((List.mergeSort_perm _ _).trans c.symm) (Mx _) d
def Ok (T:t1) (M b:Nat) (a:Int) (left:Nat) (x:Place) (m:List Leg):Prop:=(∃w,be T M x m=some ⟨b,a,w⟩)/\rides m=left
def mV:Leg->Leg->Prop
 |.walk w,.walk e=>w<e
 |.walk _,.ride _ _ _ _=>True
 |.ride n k i j,.ride c b a d=>n<c\/(n=c/\(k<b\/(k=b/\(i<a\/(i=a/\j<d)))))
 |.ride _ _ _ _,.walk _=>False
def b8 (left:Nat):Leg->Nat
 |.walk _=>left
 |.ride _ _ _ _=>left-1
noncomputable def hQ (x:Place) (bf:List (Nat×Int×bu)):List Leg:=bf.flatMap λz=>(s4 z.2.2.calls.length).flatMap λi=>if z.2.2.stopAt i≠x.halt then []else
 (s4 z.2.2.calls.length).flatMap λj=>if j<=i then []else [Leg.ride z.1 z.2.1 i j]
noncomputable def cands (T:t1) (x:Place) (left:Nat) (bf:List (Nat×Int×bu)):List Leg:=(s4 T.walks.length).map Leg.walk++(if left=0 then []else hQ x bf)
theorem o7 {a b c:Type}(f:b->Option c) (g:a->List b):∀l:List a,(l.flatMap g).findSome? f=l.findSome? λx=>(g x).findSome? f
 |[]=>rfl
 |x::l=>by
  rw[gA,Co,o7 f g l,oA];cases(g x).findSome? f<;>rfl
section
variable {T:t1}{M:Nat}
theorem Mj (b:Nat) (a:Int) (bf:List (Nat×Int×bu)) (fuel left:Nat) (x:Place):eD T M b a bf (fuel+1) left x=
  if x.halt=b/\x.time=a/\left=0 then some []else if a<x.time then none else(cands T x left bf).findSome? λl=>(go T M x l).bind λy=>(eD T M b a bf fuel (b8 left l) y).map λm=>l::m:=by(
conv=>lhs;unfold eD
split
·rfl
split
·rfl
unfold cands;rw[Co,List.findSome?_map];have c:((λl=>(go T M x l).bind λy=>(eD T M b a bf fuel (b8 left l) y).map λm=>l::m)∘Leg.walk)=λw=>(go T M x (.walk w)).bind λy=>(eD T M b a bf fuel left y).map λm=>.walk w::m:=rfl;rw[c];dsimp only;cases(s4 T.walks.length).findSome? (λw=>(go T M x (.walk w)).bind λy=>(eD T M b a bf fuel left y).map λm=>Leg.walk w::m)with
|some l=>rfl
|none=>
 dsimp only;rw[Option.none_or];split
 ·rfl
 ·unfold hQ;rw[o7]
  congr 1
  funext z;rw[o7]
  congr 1
  funext i;split
  ·rfl
  ·rw[o7]
   congr 1
   funext j;split
   ·rfl
   ·simp only[oA,List.findSome?_nil,b8];cases(go T M x (.ride z.1 z.2.1 i j)).bind λy=>(eD T M b a bf fuel (left-1) y).map λm=>Leg.ride z.1 z.2.1 i j::m<;>rfl)
theorem um:(v4 T M).Pairwise λx y=>x.1<y.1\/(x.1=y.1/\x.2.1<y.2.1):=by(
unfold v4;rw[sV];refine⟨?_,?_⟩
·intro x _;rw[jl];have h0:List.Pairwise (λa b:Int=>a<b) [-1,0,1]:=by decide
 exact(h0.filter _).imp λh=>.inr ⟨O,h⟩
·have h1:T.trips.zipIdx.Pairwise λ(x y:bu×Nat)=>x.2<y.2:=by
  rw[ky];intro i j hi c h;simp[Ct];exact h
 refine h1.imp λ{x y} h=>?_;intro u hu v hv;rw[mo]at hu hv;obtain⟨k,_,rfl⟩:=hu;obtain⟨d,_,rfl⟩:=hv;exact .inl h)
theorem u1 (n:Nat):(s4 n).Pairwise λa b=>a<b:=Cn
theorem pD{bf:List (Nat×Int×bu)}:c∈hQ x bf↔∃z,z∈bf/\∃i j,i<j/\j<z.2.2.calls.length/\z.2.2.stopAt i=x.halt/\c=.ride z.1 z.2.1 i j:=by(
unfold hQ;simp only[fk,bS];constructor
·rintro⟨z,hz,i,hi,h⟩;split at h
 ·simp at h
 ·rename_i q;simp only[fk,bS]at h;obtain⟨j,b,h⟩:=h;split at h
  ·simp at h
  ·simp at h;exact⟨z,hz,i,j,by lia,b,Decidable.not_not.mp q,h⟩
·rintro⟨z,hz,i,j,h1,h2,a,rfl⟩;refine⟨z,hz,i,by lia,?_⟩;rw[Ps (λq=>q a)];simp only[fk,bS];exact⟨j,h2,by rw[Ps (by lia)];simp⟩)
theorem FI (x:Place) (left:Nat):(cands T x left (v4 T M)).Pairwise mV:=by(
unfold cands;rw[we];refine⟨?_,?_,?_⟩
·rw[jl];exact(u1 _).imp λh=>h
·split
 ·exact .nil
 ·unfold hQ;rw[sV];refine⟨λz _=>?_,?_⟩
  ·rw[sV];refine⟨λi _=>?_,?_⟩
   ·split
    ·exact .nil
    ·rw[sV];refine⟨λj _=>by split<;>simp,?_⟩;refine(u1 _).imp λ{j b} h u hu v hv=>?_;split at hu<;>simp at hu;split at hv<;>simp at hv;subst hu hv;exact .inr ⟨O,.inr ⟨O,.inr ⟨O,h⟩⟩⟩
   ·refine(u1 _).imp λ{i e} h u hu v hv=>?_;split at hu
    ·simp at hu
    split at hv
    ·simp at hv
    simp only[fk,bS]at hu hv;obtain⟨j,_,hu⟩:=hu;obtain⟨b,_,hv⟩:=hv;split at hu<;>simp at hu;split at hv<;>simp at hv;subst hu hv;exact .inr ⟨O,.inr ⟨O,.inl h⟩⟩
  ·refine(um (T:=T) (M:=M)).imp λ{z f} h u hu v hv=>?_;have c:u∈hQ x [z]:=by unfold hQ;rw[gA];simpa using hu
   have d:v∈hQ x [f]:=by unfold hQ;rw[gA];simpa using hv
   obtain⟨_,hz,i,j,_,_,_,rfl⟩:=pD.mp c;obtain⟨_,a,e,b,_,_,_,rfl⟩:=pD.mp d;simp at hz a;subst hz a;rcases h with h|⟨h1,h2⟩
   ·exact .inl h
   ·exact .inr ⟨h1,.inl h2⟩
·intro u hu v hv;rw[mo]at hu;obtain⟨w,_,rfl⟩:=hu;split at hv
 ·simp at hv
 ·obtain⟨z,_,i,j,_,_,_,rfl⟩:=pD.mp hv;trivial)
theorem Aj(h:mV c b) (g:go T M x c=some y) (g':go T M x b=some u) (l m:List Int):ci (bT T M x c++l) (bT T M x b++m)=true:=by(
cases c with
|walk w=>cases b with
 |walk o=>
  obtain⟨k,e,_⟩:=aM.mp g;obtain⟨d,a,_⟩:=aM.mp g';have h:w<o:=h;simp[bT,e,a,ci];lia
 |ride n k i j=>
  obtain⟨q,e,_⟩:=aM.mp g;obtain⟨f,a,_⟩:=bQ.mp g';simp[bT,e,a,ci];lia
|ride n k i j=>cases b with
 |walk w=>exact h.elim
 |ride t d r s=>
  obtain⟨q,e,_⟩:=bQ.mp g;obtain⟨f,a,_⟩:=bQ.mp g';simp only[bT,e,a,ci,mc,me,hj,ev,dL];rcases h with h|⟨h1,h|⟨h2,h|⟨p,h⟩⟩⟩
  ·left;lia
  ·right;exact⟨by lia,.inl h⟩
  ·right;exact⟨by lia,.inr ⟨h2,.inl (by lia)⟩⟩
  ·right;exact⟨by lia,.inr ⟨h2,.inr ⟨by lia,.inl (by lia)⟩⟩⟩)
theorem ze {d j:Type}{R:d->d->Prop}{f:d->Option j}{y:j}:∀ {l:List d},l.Pairwise R->l.findSome? f=some y->∃c,c∈l/\f c=some y/\∀a,a∈l->f a≠none->a=c\/R c a
 |[],_,h=>by simp at h
 |x::l,g,h=>by
  rw[oC]at g;rw[oA]at h;cases e:f x with
  |some z=>
   rw[e]at h;refine⟨x,kt ..,h▸e,λa b _=>?_⟩;rcases rs.mp b with rfl|b
   ·exact .inl rfl
   ·exact .inr (g.1 a b)
  |none=>
   rw[e]at h;obtain⟨c,h1,h2,k⟩:=ze g.2 h;refine⟨c,o0 _ h1,h2,λa b i=>?_⟩;rcases rs.mp b with rfl|b
   ·exact absurd e i
   ·exact k a b i
theorem i1(g:go T M x c=some y) (l:List Leg):bn T M x (c::l)=bT T M x c++bn T M y l:=by
 show bT T M x c++(match go T M x c with|some y=>bn T M y l|none=>[])=_;rw[g]
theorem uH(h:Ok T M b a left x (c::m)):∃y,go T M x c=some y/\Ok T M b a (b8 left c) y m/\c∈cands T x left (v4 T M):=by(
obtain⟨⟨w,f⟩,d⟩:=h;obtain⟨y,g,f⟩:=dj f;refine⟨y,g,⟨⟨w,f⟩,?_⟩,?_⟩
·cases c with
 |walk v=>rw[iX]at d;exact d
 |ride n k i j=>rw[gp]at d;show _=left-1;lia
·unfold cands;rw[cs];cases c with
 |walk v=>
  obtain⟨k,e,_⟩:=aM.mp g;exact .inl (mo.mpr ⟨v,bS.mpr (aD.mp e).1,O⟩)
 |ride n k i j=>
  rw[gp]at d;rw[Ps (by lia)];obtain⟨p,l,o,q,r,s,t,_,_⟩:=bQ.mp g;exact .inr (pD.mpr ⟨(n,k,p),dr.mpr ⟨l,o,q⟩,i,j,r,s,t,O⟩))
theorem FN(g:go T M x c=some y) (h:Ok T M b a (b8 left c) y m) (d:c∈cands T x left (v4 T M)):Ok T M b a left x (c::m):=by(
obtain⟨⟨w,f⟩,l⟩:=h;refine⟨⟨w,by rw[gK g];exact f⟩,?_⟩;cases c with
|walk v=>rw[iX];exact l
|ride n k i j=>
 rw[gp,l];show left-1+1=left;unfold cands at d;rw[cs]at d;rcases d with d|d
 ·rw[mo]at d;obtain⟨_,_,e⟩:=d;cases e
 ·split at d
  ·simp at d
  ·lia)
theorem Bm (hT:bw T) (b:Nat) (a:Int):∀(fuel left:Nat) (x:Place),
  (∀l,eD T M b a (v4 T M) fuel left x=some l->Ok T M b a left x l/\∀m,Ok T M b a left x m->m.length<fuel->c6 (bn T M x l) (bn T M x m))/\
  (eD T M b a (v4 T M) fuel left x=none->∀m,Ok T M b a left x m->¬m.length<fuel)
 |0,left,x=>⟨λl h=>by simp[eD]at h,λ_ m _ h=>by lia⟩
 |fuel+1,left,x=>by
  have p:=λleft x=>Bm hT b a fuel left x;rw[Mj];by_cases c1:x.halt=b/\x.time=a/\left=0
  ·rw[No c1];refine⟨λl h=>?_,λh=>by cases h⟩;cases h;refine⟨⟨⟨x.way,?_⟩,c1.2.2.symm⟩,λm _ _=>?_⟩
   ·obtain⟨H,J,L⟩:=x;simp only at c1;obtain⟨rfl,rfl,_⟩:=c1;rfl
   ·cases e:bn T M x m with
    |nil=>exact .inl rfl
    |cons=>exact .inr rfl
  ·rw[Ps c1];have s:∀m,Ok T M b a left x m->∃c d,m=c::d:=by
    rintro m ⟨⟨w,f⟩,A⟩;cases m with
    |nil=>cases f;exact absurd ⟨O,O,A.symm⟩ c1
    |cons c d=>exact⟨c,d,O⟩
   by_cases c2:a<x.time
   ·rw[No c2];refine⟨λl h=>(by cases h),λ_ m hm _=>?_⟩;obtain⟨⟨w,f⟩,_⟩:=hm;have:=kW hT m f;simp only at this;lia
   ·rw[Ps c2];refine⟨λl h=>?_,λh m hm o=>?_⟩
    ·obtain⟨c,u,hf,t⟩:=ze (FI (T:=T) (M:=M) x left) h;cases g:go T M x c with
     |none=>rw[g]at hf;cases hf
     |some y=>
      rw[g,sD]at hf;cases e:eD T M b a (v4 T M) fuel (b8 left c) y with
      |none=>rw[e]at hf;cases hf
      |some E=>
       rw[e]at hf;cases hf;obtain⟨C,D⟩:=(p (b8 left c) y).1 E e;refine⟨FN g C u,λm hm o=>?_⟩;obtain⟨i,d,rfl⟩:=s m hm;obtain⟨r,g',k,n⟩:=uH hm;have j:d.length<fuel:=by simp at o;lia
       have ne:(go T M x i).bind (λy=>(eD T M b a (v4 T M) fuel (b8 left i) y).map λm=>i::m)≠none:=by
        rw[g',sD];intro q;rw[DR]at q;exact(p (b8 left i) r).2 q d k j
       rw[i1 g,i1 g'];rcases t i n ne with rfl|z
       ·rw[g]at g';cases g';exact A6 (D d k j)
       ·exact .inr (Aj z g g' _ _)
    ·obtain⟨i,d,rfl⟩:=s m hm;obtain⟨r,g',k,n⟩:=uH hm;have j:d.length<fuel:=by simp at o;lia
     rw[List.findSome?_eq_none_iff]at h;have:=h i n;rw[g',sD,DR]at this;exact(p (b8 left i) r).2 this d k j
theorem Ao:∀(m:List Leg) {left:Nat}{x:Place},Ok T M b a left x m->m.length<=2*left+(if x.way=2 then 0 else 1)
 |[],_,_,_=>by simp
 |c::m,left,x,h=>by
  obtain⟨y,g,h',_⟩:=uH h;have d:=Ao m h';have f:=h.2;cases c with
  |walk w=>
   obtain⟨_,_,_,e,rfl⟩:=aM.mp g;rw[Ps e];simp[b8]at d;simp;lia
  |ride n k i j=>
   obtain⟨_,_,_,_,_,_,_,_,rfl⟩:=bQ.mp g;rw[gp]at f;simp[b8]at d;simp;lia
theorem vV:∀(m:List Leg) {x y:Place},be T M x m=some y->(bn T M x m).length=5*m.length
 |[],_,_,_=>rfl
 |c::m,x,z,h=>by
  obtain⟨y,g,f⟩:=dj h;rw[i1 g,ls,vV m f];have:(bT T M x c).length=5:=by
   cases c with
   |walk w=>obtain⟨k,e,_⟩:=aM.mp g;simp[bT,e]
   |ride n k i j=>obtain⟨k,e,_⟩:=bQ.mp g;simp[bT,e]
  simp[this];lia
theorem Ml(hT:bw T) (h:Ok T M b a left x l) (hm:∀m,Ok T M b a left x m->c6 (bn T M x l) (bn T M x m)) (hf:2*left+2<=fuel):
  ∃l',eD T M b a (v4 T M) fuel left x=some l'/\bn T M x l'=bn T M x l/\l'.length=l.length:=by(
have len:∀m,Ok T M b a left x m->m.length<fuel:=λm hm=>by
 have:=Ao m hm;split at this<;>lia
obtain⟨i,j⟩:=Bm hT b a (M:=M) fuel left x;cases e:eD T M b a (v4 T M) fuel left x with
|none=>exact absurd (len l h) (j e l h)
|some l'=>
 obtain⟨o,g⟩:=i l' e;have c:bn T M x l'=bn T M x l:=A5 (g l h (len l h)) (hm l' o);refine⟨l',O,c,?_⟩;obtain⟨⟨w,f⟩,_⟩:=h;obtain⟨⟨k,d⟩,_⟩:=o;have h1:=vV l f;have h2:=vV l' d;rw[c]at h2;lia)
end
noncomputable def dO:Option Int->Nat->List (Option Int)->List (List Int)
 |_,_,[]=>[]
 |m,k,c::l=>(match c with
  |some y=>if c=m then []else [[((k:Nat):Int),y]]
  |none=>[])++dO c (k+1) l
def eK:Option Int->List (Option Int)->List (Option Int)
 |_,[]=>[]
 |m,x::l=>less m x::eK (less m x) l
theorem y4:∀(l:List (Option Int)) (m:Option Int) (k:Nat),gv m ((l.zipIdx k).map λx=>(x.2,x.1))=dO m k (eK m l)
 |[],_,_=>rfl
 |x::l,m,k=>by
  rw[kB,m0];have a:=λm=>y4 l m (k+1);cases x with
  |none=>
   have e:∀L,gv m ((k,none)::L)=gv m L:=λL=>by cases m<;>rfl
   rw[e,a m];cases m<;>simp[eK,dO,less]
  |some y=>cases m with
   |none=>
    show [((k:Nat):Int),y]::gv (some y) _=_;rw[a];simp[eK,dO,less]
   |some z=>
    show(if y<z then [((k:Nat):Int),y]::gv (some y) _ else gv (some z) _)=_;rw[a,a];by_cases h:y<z
    ·rw[No h];simp[eK,dO,less,show min z y=y by lia,show ¬y=z by lia]
    ·rw[Ps h];simp[eK,dO,less,show min z y=z by lia]
end Tw
namespace Tw
abbrev on:=Int×Nat×Nat
structure Nt where
 chg:List Int
 runs:List (List Nat×List Int)
 af:List (List on)
 foot:List (List (Nat×Int×Nat))
 aZ:List (Nat×Int)
noncomputable def Nt.ft (N:Nt) (s:Nat):List (Nat×Int):=(N.foot.getD s []).map λw=>(w.1,w.2.1)
def Nt.n (N:Nt):Nat:=N.chg.length
def Nt.len (N:Nt) (r:Nat):Nat:=(N.runs.getD r ([],[])).1.length
noncomputable def Nt.stop (N:Nt) (r i:Nat):Nat:=(N.runs.getD r ([],[])).1.getD i 0
def Nt.comes (N:Nt) (r i:Nat):Int:=(N.runs.getD r ([],[])).2.getD i 0
def FS:Int:=1000000
structure bz (N:Nt) (goes:Nat->Nat->Int):Prop where
 hI:N.af.length=N.n
 mM:N.foot.length=N.n
 sorted:∀s,s<N.n->(N.af.getD s []).Pairwise (λa b=>a.1<=b.1)
 af:∀s,s<N.n->∀g r i,(g,r,i)∈N.af.getD s []↔r<N.runs.length/\i+1<N.len r/\N.stop r i=s/\g=goes r i
 eO:∀r i,r<N.runs.length->i<N.len r->N.stop r i<N.n
 iL:∀r i,r<N.runs.length->i<N.len r->N.comes r i+240<FS
 k4:∀r i,r<N.runs.length->i<N.len r->goes r i<FS
 mW:∀r,r<N.runs.length->0<N.len r
 chg:∀s,s<N.n->0<=N.chg.getD s 0/\N.chg.getD s 0<=240
 foot:∀s g m,s<N.n->(g,m)∈N.ft s->g<N.n/\0<=m/\m<=240
inductive NJ (N:Nt) (goes:Nat->Nat->Int) (s0:Nat) (t0:Int):Nat->Nat->Nat->Int->Prop
 |start:NJ N goes s0 t0 0 0 s0 t0
 |walk {n w s g:Nat}{x m:Int}:NJ N goes s0 t0 n w s x->w≠2->(g,m)∈N.ft s->NJ N goes s0 t0 n 2 g (x+m)
 |ride {n w s r i j:Nat}{x:Int}:NJ N goes s0 t0 n w s x->r<N.runs.length->i<j->j<N.len r->N.stop r i=s->x+(if w=1 then N.chg.getD s 0 else 0)<=goes r i->NJ N goes s0 t0 (n+1) 1 (N.stop r j) (N.comes r j)
section
variable {N:Nt}{goes:Nat->Nat->Int}{s0:Nat}{t0:Int}
def Rk (N:Nt) (goes:Nat->Nat->Int) (s0:Nat) (t0:Int) (k s:Nat) (x:Int):Prop:=∃n,n<=k/\NJ N goes s0 t0 n 1 s x
def Fk (N:Nt) (goes:Nat->Nat->Int) (s0:Nat) (t0:Int) (k s:Nat) (x:Int):Prop:=∃n w,n<=k/\w≠1/\NJ N goes s0 t0 n w s x
def Ak (N:Nt) (goes:Nat->Nat->Int) (s0:Nat) (t0:Int) (k s:Nat) (x:Int):Prop:=∃n w,n<=k/\NJ N goes s0 t0 n w s x
def Gk (N:Nt) (goes:Nat->Nat->Int) (s0:Nat) (t0:Int) (k s:Nat) (x:Int):Prop:=Fk N goes s0 t0 k s x\/∃y,Rk N goes s0 t0 k s y/\x=y+N.chg.getD s 0
def bd (N:Nt) (goes:Nat->Nat->Int) (s0:Nat) (t0:Int) (k r i:Nat):Prop:=∃x,Gk N goes s0 t0 k (N.stop r i) x/\x<=goes r i
theorem uD(h:NJ N goes s0 t0 n w s x):(n=0/\w=0/\s=s0/\x=t0)\/w=1\/w=2:=by(
cases h with
|start=>exact .inl ⟨O,O,O,O⟩
|walk _ _ _=>exact .inr (.inr rfl)
|ride _ _ _ _ _ _=>exact .inr (.inl rfl))
theorem m5:¬NJ N goes s0 t0 0 1 s x:=by
 intro h;cases h
theorem gE:Ak N goes s0 t0 k s x↔Fk N goes s0 t0 k s x\/Rk N goes s0 t0 k s x:=by(
constructor
·rintro⟨n,w,a,h⟩;by_cases e:w=1
 ·subst e;exact .inr ⟨n,a,h⟩
 ·exact .inl ⟨n,w,a,e,h⟩
·rintro(⟨n,w,a,_,h⟩|⟨n,a,h⟩)
 ·exact⟨n,w,a,h⟩
 ·exact⟨n,1,a,h⟩)
theorem lz:¬Rk N goes s0 t0 0 s x:=by
 rintro⟨n,a,h⟩;rw[show n=0 by lia]at h;exact m5 h
theorem yt:bd N goes s0 t0 k r i↔∃n w x,n<=k/\NJ N goes s0 t0 n w (N.stop r i) x/\x+(if w=1 then N.chg.getD (N.stop r i) 0 else 0)<=goes r i:=by(
constructor
·rintro⟨x,⟨n,w,a,hw,h⟩|⟨y,⟨n,a,h⟩,rfl⟩,b⟩
 ·exact⟨n,w,x,a,h,by rw[Ps hw];lia⟩
 ·exact⟨n,1,y,a,h,by rw[No rfl];exact b⟩
·rintro⟨n,w,x,a,h,b⟩;by_cases e:w=1
 ·subst e;rw[No rfl]at b;exact⟨_,.inr ⟨x,⟨n,a,h⟩,O⟩,b⟩
 ·rw[Ps e]at b;exact⟨x,.inl ⟨n,w,a,e,h⟩,by lia⟩)
theorem hR:Rk N goes s0 t0 (k+1) s x↔∃r i j,r<N.runs.length/\i<j/\j<N.len r/\bd N goes s0 t0 k r i/\s=N.stop r j/\x=N.comes r j:=by(
constructor
·rintro⟨n,f,h⟩;cases h with
 |@ride n w s r i j y h h1 h2 a b c=>
  subst b;exact⟨r,i,j,h1,h2,a,yt.mpr ⟨n,w,y,by lia,h,c⟩,O,O⟩
·rintro⟨r,i,j,h1,h2,a,d,rfl,rfl⟩;obtain⟨n,w,y,f,h,e⟩:=yt.mp d;exact⟨n+1,by lia,NJ.ride h h1 h2 a rfl e⟩)
theorem t2:Fk N goes s0 t0 0 s x↔(s=s0/\x=t0)\/∃m,(s,m)∈N.ft s0/\x=t0+m:=by(
constructor
·rintro⟨n,w,a,hw,h⟩;cases h with
 |start=>exact .inl ⟨O,O⟩
 |@walk n w s g y m h h1 h2=>
  rcases uD h with⟨_,_,rfl,rfl⟩|e|e
  ·exact .inr ⟨m,h2,O⟩
  ·subst e;rw[show n=0 by lia]at h;exact absurd h m5
  ·exact absurd e h1
 |ride=>exact absurd rfl hw
·rintro(⟨rfl,rfl⟩|⟨m,h,rfl⟩)
 ·exact⟨0,0,tz _,by decide,.start⟩
 ·exact⟨0,2,tz _,by decide,.walk .start (by decide) h⟩)
theorem jJ:Fk N goes s0 t0 (k+1) s x↔Fk N goes s0 t0 k s x\/∃u y m,Rk N goes s0 t0 (k+1) u y/\(s,m)∈N.ft u/\x=y+m:=by(
constructor
·rintro⟨n,w,b,hw,h⟩;by_cases e:n<=k
 ·exact .inl ⟨n,w,e,hw,h⟩
 ·cases h with
  |start=>lia
  |@walk n w s g y m h h1 h2=>
   rcases uD h with⟨a,_⟩|a|a
   ·lia
   ·subst a;exact .inr ⟨s,y,m,⟨n,b,h⟩,h2,O⟩
   ·exact absurd a h1
  |ride=>exact absurd rfl hw
·rintro(⟨n,w,b,hw,h⟩|⟨u,y,m,⟨n,b,h⟩,h2,rfl⟩)
 ·exact⟨n,w,by lia,hw,h⟩
 ·exact⟨n,2,b,by decide,.walk h (by decide) h2⟩)
theorem u9(a:k<=l) (h:Rk N goes s0 t0 k s x):Rk N goes s0 t0 l s x:=by
 obtain⟨n,b,h⟩:=h;exact⟨n,by lia,h⟩
theorem tp(a:k<=l) (h:Ak N goes s0 t0 k s x):Ak N goes s0 t0 l s x:=by
 obtain⟨n,w,b,h⟩:=h;exact⟨n,w,by lia,h⟩
theorem zf(a:k<=l) (h:Fk N goes s0 t0 k s x):Fk N goes s0 t0 l s x:=by
 obtain⟨n,w,b,hw,h⟩:=h;exact⟨n,w,by lia,hw,h⟩
theorem zr(a:k<=l) (h:Gk N goes s0 t0 k s x):Gk N goes s0 t0 l s x:=by(
rcases h with h|⟨y,h,e⟩
·exact .inl (zf a h)
·exact .inr ⟨y,u9 a h,e⟩)
theorem Fo(a:k<=l) (h:bd N goes s0 t0 k r i):bd N goes s0 t0 l r i:=by
 obtain⟨x,h,e⟩:=h;exact⟨x,zr a h,e⟩
theorem yr(h:∀r i,r<N.runs.length->i+1<N.len r->bd N goes s0 t0 k r i->0<k/\bd N goes s0 t0 (k-1) r i):∀m,(∀s x,Rk N goes s0 t0 (k+m) s x↔Rk N goes s0 t0 k s x)/\(∀s x,Fk N goes s0 t0 (k+m) s x↔Fk N goes s0 t0 k s x)
 |0=>⟨λ_ _=>Iff.rfl,λ_ _=>Iff.rfl⟩
 |m+1=>by
  obtain⟨w,d⟩:=yr h m;have f:∀s x,Rk N goes s0 t0 (k+m+1) s x↔Rk N goes s0 t0 k s x:=by
   intro s x;refine⟨λa=>?_,u9 (by lia)⟩;obtain⟨r,i,j,h1,h2,b,o,l,n⟩:=hR.mp a;have p:bd N goes s0 t0 k r i:=by
    obtain⟨z,hz,e⟩:=o;refine⟨z,?_,e⟩;rcases hz with hz|⟨y,hz,g⟩
    ·exact .inl ((d _ _).mp hz)
    ·exact .inr ⟨y,(w _ _).mp hz,g⟩
   obtain⟨A,t⟩:=h r i h1 (by lia) p;have:=hR.mpr ⟨r,i,j,h1,h2,b,t,l,n⟩
   rwa [show k-1+1=k by lia]at this
  refine⟨f,λs x=>⟨λa=>?_,zf (by lia)⟩⟩;rcases jJ.mp a with a|⟨u,y,q,h1,h2,b⟩
  ·exact(d s x).mp a
  ·have c:=(f u y).mp h1;by_cases e:k=0
   ·subst e;exact absurd c lz
   ·have:=jJ (N:=N) (goes:=goes) (s0:=s0) (t0:=t0) (k:=k-1) (s:=s) (x:=x);rw[show k-1+1=k by lia]at this;exact this.mpr (.inr ⟨u,y,q,c,h2,b⟩)
end
def lw (P:Int->Prop) (x:Int):Prop:=(P x\/x=FS)/\∀y,P y->x<=y
theorem lw.congr(h:lw P x) (e:∀y,P y↔Q y):lw Q x:=by(
have:P=Q:=funext λy=>propext (e y)
rwa [<- this])
theorem lw.never(h:∀y,¬P y):lw P FS:=⟨.inr rfl,λy q=>absurd q (h y)⟩
theorem lw.put(h:lw P x):lw (λz=>P z\/z=y) (if y<x then y else x)\/¬y<FS:=by(
by_cases a:y<FS
·left;by_cases e:y<x
 ·rw[No e];refine⟨.inl (.inr rfl),λz hz=>?_⟩;rcases hz with hz|hz
  ·have:=h.2 z hz;lia
  ·lia
 ·rw[Ps e];refine⟨?_,λz hz=>?_⟩
  ·rcases h.1 with q|q
   ·exact .inl (.inl q)
   ·subst q;lia
  ·rcases hz with hz|hz
   ·exact h.2 z hz
   ·lia
·exact .inr a)
theorem lw.widen(h:lw P x) (h1:∀y,P y->Q y) (h2:∀y,Q y->∃z,P z/\z<=y):lw Q x:=by
 refine⟨h.1.imp (h1 x) id,λy a=>?_⟩;obtain⟨z,hz,b⟩:=h2 y a;have:=h.2 z hz;lia
theorem lw.minOf(h:lw P x) (b:∀y,P y->y<FS):ce P (if x=FS then none else some x):=by(
by_cases e:x=FS
·rw[No e];intro y a;have h1:=h.2 y a;have h2:=b y a;lia
·rw[Ps e];rcases h.1 with q|q
 ·exact⟨q,h.2⟩
 ·exact absurd q e)
end Tw
namespace Tw
structure SS where
 taken:Nat
 arr:List Int
 rides:List Nat
 ab:List Int
 ready:List Int
 ah:List Nat
 aa:List Nat
 ae:List on
def dB:on:=(0,0,0)
noncomputable def aR (d:List on) (ready:Int):Nat->List on->Nat×List on
 |0,b=>(0,b)
 |p+1,b=>if ready<=(d.getD p dB).1 then aR d ready p (b++[d.getD p dB])else(p+1,b)
noncomputable def board (N:Nt) (S:SS) (stop:Nat) (ready:Int):SS:=
 {S with ah:=S.ah.set stop (aR (N.af.getD stop []) ready (S.ah.getD stop 0) S.ae).1,ae:=(aR (N.af.getD stop []) ready (S.ah.getD stop 0) S.ae).2}
noncomputable def az (S:SS) (stop:Nat) (Is:Int):SS:=if Is<S.arr.getD stop 0 then {S with arr:=S.arr.set stop Is,rides:=S.rides.set stop S.taken}else S
noncomputable def e1 (N:Nt) (S:SS) (stop:Nat) (ready:Int):SS:=if ready<S.ready.getD stop 0 then board N {S with ready:=S.ready.set stop ready} stop ready else S
def av (N:Nt) (S:SS) (stop:Nat) (Is ready:Int):SS:=e1 N (az S stop Is) stop ready
noncomputable def bI (N:Nt) (S:SS) (stop:Nat) (Is:Int):SS:=(N.ft stop).foldl (λS w=>av N S w.1 (Is+w.2) (Is+w.2)) S
noncomputable def f1 (N:Nt):SS:=⟨0,f8 N.n FS,f8 N.n 0,f8 N.n FS,f8 N.n FS,N.af.map cC,N.runs.map λr=>r.1.length-1,[]⟩
def cp (N:Nt) (start:Nat) (Is:Int):SS:=bI N (av N (f1 N) start Is Is) start Is
structure Off where
 aa:List Nat
 ab:List Int
 ai:List Nat
noncomputable def cP (N:Nt) (run:Nat) (o:Off) (cu:Nat):Off:=
 if N.comes run cu<o.ab.getD (N.stop run cu) 0 then {o with ab:=o.ab.set (N.stop run cu) (N.comes run cu),ai:=if N.stop run cu∈o.ai then o.ai else o.ai++[N.stop run cu]}else o
noncomputable def er (N:Nt) (o:Off) (e:on):Off:=
 if e.2.2<o.aa.getD e.2.1 0 then(kE (e.2.2+1) (o.aa.getD e.2.1 0-e.2.2)).foldl (cP N e.2.1) {o with aa:=o.aa.set e.2.1 e.2.2}else o
noncomputable def bF (N:Nt) (S:SS):Off:=S.ae.foldl (er N) ⟨S.aa,S.ab,[]⟩
def ba (N:Nt) (S:SS) (stop:Nat):SS:=bI N (av N S stop (S.ab.getD stop 0) (S.ab.getD stop 0+N.chg.getD stop 0)) stop (S.ab.getD stop 0)
noncomputable def cA (N:Nt) (S:SS):SS:=
 (bF N S).ai.foldl (ba N) {S with taken:=S.taken+1,aa:=(bF N S).aa,ab:=(bF N S).ab,ae:=[]}
theorem gW{a:Type}{l:List a}{x:a}(b:s<l.length) (u:Nat) (d:a):(l.set s x).getD u d=if u=s then x else l.getD u d:=by(
simp only[np,Cz];by_cases e:u=s
·subst e;simp[b]
·simp[e,Ne.symm e])
theorem getD_mem{b:Type}{l:List b}(a:p<l.length) (d:b):l.getD p d∈l:=by
 rw[np,g1 a];exact eX a
theorem mem_getD {a:Type}{l:List a}{x:a}(h:x∈l) (d:a):∃p,p<l.length/\l.getD p d=x:=by
 obtain⟨p,b,e⟩:=Cr.mp h;refine⟨p,b,?_⟩;rw[np,g1 b];exact e
theorem KI{a:Type}{R:a->a->Prop}{l:List a}(h:l.Pairwise R) (c:p<q) (b:q<l.length) (d:a):R (l.getD p d) (l.getD q d):=by
 rw[np,np,g1 (by lia),g1 b];exact ky.mp h p q (by lia) b c
theorem yD(j:d.Pairwise (λa b=>a.1<=b.1)):∀(p:Nat) (b:List on),p<=d.length->
  (aR d ready p b).1<=p/\(∀q,q<(aR d ready p b).1->(d.getD q dB).1<ready)/\(∀q,(aR d ready p b).1<=q->q<p->ready<=(d.getD q dB).1/\d.getD q dB∈(aR d ready p b).2)/\
  (∀e,e∈(aR d ready p b).2->e∈b\/(e∈d/\ready<=e.1))/\(∀e,e∈b->e∈(aR d ready p b).2)/\(aR d ready p b).2.length+(aR d ready p b).1=b.length+p
 |0,b,_=>⟨tz _,λq h=>absurd h (xm _),λq _ h=>absurd h (xm _),λe h=>.inl h,λe h=>h,O⟩
 |p+1,b,o=>by
  unfold aR;by_cases c:ready<=(d.getD p dB).1
  ·rw[No c];obtain⟨h1,h2,k,l,i,m⟩:=yD j p (b++[d.getD p dB]) (by lia);refine⟨by lia,h2,λq f n=>?_,λe g=>?_,λe g=>i e (gx _ g),by rw[ls,bK]at m;lia⟩
   ·by_cases e:q=p
    ·subst e;exact⟨c,i _ (by simp)⟩
    ·exact k q f (by lia)
   ·rcases l e g with h|h
    ·rcases cs.mp h with h|h
     ·exact .inl h
     ·simp at h;subst h;exact .inr ⟨getD_mem (by lia) _,c⟩
    ·exact .inr h
  ·rw[Ps c];refine⟨tz _,λq f=>?_,λq f n=>by dsimp only at f;lia,λe h=>.inl h,λe h=>h,O⟩;dsimp only at f;by_cases e:q=p
   ·subst e;lia
   ·have:=KI j (show q<p by lia) (by lia) dB;lia
structure aL (N:Nt) (b5:Nat->Int->Prop) (FR:Nat->Int->Nat->Prop) (ext aG:on->Prop) (A G:Nat->Int->Prop) (S:SS):Prop where
 dn:S.arr.length=N.n
 dq:S.rides.length=N.n
 dG:S.ready.length=N.n
 dH:S.ah.length=N.n
 arr:∀s,s<N.n->lw (A s) (S.arr.getD s 0)
 sub:∀s x,s<N.n->b5 s x->A s x
 rides:∀s,s<N.n->S.arr.getD s 0<FS->(b5 s (S.arr.getD s 0)/\FR s (S.arr.getD s 0) (S.rides.getD s 0))\/(¬b5 s (S.arr.getD s 0)/\S.rides.getD s 0=S.taken)
 ready:∀s,s<N.n->lw (G s) (S.ready.getD s 0)
 bH:∀s,s<N.n->S.ah.getD s 0<=(N.af.getD s []).length
 d6:∀s,s<N.n->∀p,p<S.ah.getD s 0->((N.af.getD s []).getD p dB).1<S.ready.getD s 0
 du:∀s,s<N.n->∀p,S.ah.getD s 0<=p->p<(N.af.getD s []).length->S.ready.getD s 0<=((N.af.getD s []).getD p dB).1
 dX:∀e,e∈S.ae->ext e\/∃s,s<N.n/\e∈N.af.getD s []/\S.ready.getD s 0<=e.1
 cX:∀s,s<N.n->∀e,e∈N.af.getD s []->S.ready.getD s 0<=e.1->aG e\/e∈S.ae
section
variable {N:Nt}{goes:Nat->Nat->Int}{b5:Nat->Int->Prop}{FR:Nat->Int->Nat->Prop}{ext aG:on->Prop}
theorem aL.congr(h:aL N b5 FR ext aG A G S) (b:∀s,s<N.n->∀x,A s x↔c s x) (hg:∀s,s<N.n->∀x,G s x↔G' s x):aL N b5 FR ext aG c G' S:=
 {h with
  arr:=λs a=>(h.arr s a).congr (b s a)
  sub:=λs x a o=>(b s a x).mp (h.sub s x a o)
  ready:=λs a=>(h.ready s a).congr (hg s a)}
theorem aL.widen(h:aL N b5 FR ext aG A G S) (c:∀s,s<N.n->∀x,A s x->b s x) (d:∀s,s<N.n->∀x,b s x->∃z,A s z/\z<=x) (hg:∀s,s<N.n->∀x,G s x->G' s x) (e:∀s,s<N.n->∀x,G' s x->∃z,G s z/\z<=x):aL N b5 FR ext aG b G' S:=
 {h with
  arr:=λs a=>(h.arr s a).widen (c s a) (d s a)
  sub:=λs x a o=>c s a x (h.sub s x a o)
  ready:=λs a=>(h.ready s a).widen (hg s a) (e s a)}
theorem aL.az {A G:Nat->Int->Prop}{S:SS}(h:aL N b5 FR ext aG A G S) {stop:Nat}{Is:Int}(d:stop<N.n) (hm:Is<FS):aL N b5 FR ext aG (λs x=>A s x\/(s=stop/\x=Is)) G (az S stop Is):=by(
unfold Tw.az;have put:=λs d=>((h.arr s d).put (y:=Is)).resolve_right (λq=>q hm);have same:∀s,s<N.n->s≠stop->∀x,(A s x\/(s=stop/\x=Is))↔A s x:=λs _ i x=>⟨λq=>q.elim id (λq=>absurd q.1 i),.inl⟩;have at_:∀x,(A stop x\/x=Is)↔(A stop x\/(stop=stop/\x=Is)):=λx=>by simp
by_cases c:Is<S.arr.getD stop 0
·rw[No c];have f:∀s,(S.arr.set stop Is).getD s 0=if s=stop then Is else S.arr.getD s 0:=λs=>gW (by rw[h.dn];exact d) s 0;have g:∀s,(S.rides.set stop S.taken).getD s 0=if s=stop then S.taken else S.rides.getD s 0:=λs=>gW (by rw[h.dq];exact d) s 0;refine {dn:=by simp[h.dn],dq:=by simp[h.dq],dG:=h.dG,dH:=h.dH,arr:=λs a=>?_,sub:=λs x a o=>.inl (h.sub s x a o),rides:=λs a b=>?_,ready:=h.ready,bH:=h.bH,d6:=h.d6,du:=h.du,dX:=h.dX,cX:=h.cX}
 ·show lw _ ((S.arr.set stop Is).getD s 0);rw[f];by_cases e:s=stop
  ·rw[No e];subst e;have:=put s a;rw[No c]at this;exact this.congr at_
  ·rw[Ps e];exact(h.arr s a).congr λx=>(same s a e x).symm
 ·have b:(S.arr.set stop Is).getD s 0<FS:=b;show(b5 s ((S.arr.set stop Is).getD s 0)/\FR s ((S.arr.set stop Is).getD s 0) ((S.rides.set stop S.taken).getD s 0))\/(¬b5 s ((S.arr.set stop Is).getD s 0)/\(S.rides.set stop S.taken).getD s 0=S.taken);rw[f]at b⊢;rw[g];by_cases e:s=stop
  ·simp only[No e]at b⊢;subst e;refine .inr ⟨λo=>?_,trivial⟩;have:=(h.arr s a).2 Is (h.sub s Is a o);lia
  ·simp only[Ps e]at b⊢;exact h.rides s a b
·rw[Ps c];refine {h with arr:=λs a=>?_,sub:=λs x a o=>.inl (h.sub s x a o)};by_cases e:s=stop
 ·subst e;have:=put s a;rw[Ps c]at this;exact this.congr at_
 ·exact(h.arr s a).congr λx=>(same s a e x).symm)
theorem aL.e1 (ok:bz N goes) {A G:Nat->Int->Prop}{S:SS}(h:aL N b5 FR ext aG A G S) {stop:Nat}{ready:Int}(i:stop<N.n) (hm:ready<FS):aL N b5 FR ext aG A (λs x=>G s x\/(s=stop/\x=ready)) (e1 N S stop ready):=by(
unfold Tw.e1;have put:=λs i=>((h.ready s i).put (y:=ready)).resolve_right (λq=>q hm);have same:∀s,s<N.n->s≠stop->∀x,(G s x\/(s=stop/\x=ready))↔G s x:=λs _ E x=>⟨λq=>q.elim id (λq=>absurd q.1 E),.inl⟩;have at_:∀x,(G stop x\/x=ready)↔(G stop x\/(stop=stop/\x=ready)):=λx=>by simp
by_cases c:ready<S.ready.getD stop 0
·rw[No c];have d:∀s,(S.ready.set stop ready).getD s 0=if s=stop then ready else S.ready.getD s 0:=λs=>gW (by rw[h.dG];exact i) s 0;obtain⟨u,k,l,t,m,w⟩:=yD (ready:=ready) (ok.sorted stop i) (S.ah.getD stop 0) S.ae (h.bH stop i);generalize D:aR (N.af.getD stop []) ready (S.ah.getD stop 0) S.ae=L at u k l t m w;have z:board N {S with ready:=S.ready.set stop ready} stop ready= {S with ready:=S.ready.set stop ready,ah:=S.ah.set stop L.1,ae:=L.2}:=by
  unfold board;simp only[D]
 rw[z];have r:∀s,(S.ah.set stop L.1).getD s 0=if s=stop then L.1 else S.ah.getD s 0:=λs=>gW (by rw[h.dH];exact i) s 0;have le:∀s,(S.ready.set stop ready).getD s 0<=S.ready.getD s 0:=λs=>by
  rw[d];by_cases e:s=stop
  ·rw[No e];subst e;lia
  ·rw[Ps e];lia
 refine {dn:=h.dn,dq:=h.dq,dG:=by simp[h.dG],dH:=by simp[h.dH],arr:=h.arr,sub:=h.sub,rides:=h.rides,ready:=λs a=>?_,bH:=λs a=>?_,d6:=λs a p g=>?_,du:=λs a p g f=>?_,dX:=λe j=>?_,cX:=λs a e j f=>?_}
 ·show lw _ ((S.ready.set stop ready).getD s 0);rw[d];by_cases e:s=stop
  ·rw[No e];subst e;have:=put s a;rw[No c]at this;exact this.congr at_
  ·rw[Ps e];exact(h.ready s a).congr λx=>(same s a e x).symm
 ·show(S.ah.set stop L.1).getD s 0<=_;rw[r];by_cases e:s=stop
  ·rw[No e];subst e;have:=h.bH s a;lia
  ·rw[Ps e];exact h.bH s a
 ·have b:p<(S.ah.set stop L.1).getD s 0:=g;clear g;show _<(S.ready.set stop ready).getD s 0;rw[r]at b;rw[d];by_cases e:s=stop
  ·rw[No e]at b ⊢;subst e;exact k p b
  ·rw[Ps e]at b ⊢;exact h.d6 s a p b
 ·have b:(S.ah.set stop L.1).getD s 0<=p:=g;clear g;show(S.ready.set stop ready).getD s 0<=_;rw[r]at b;by_cases e:s=stop
  ·rw[No e]at b;rw[d,No e];subst e;by_cases q:p<S.ah.getD s 0
   ·exact(l p b q).1
   ·have:=h.du s a p (by lia) f;lia
  ·rw[Ps e]at b;rw[d,Ps e];exact h.du s a p b f
 ·rcases t e j with q|⟨J,Q⟩
  ·rcases h.dX e q with h0|⟨s,h1,h2,C⟩
   ·exact .inl h0
   ·exact .inr ⟨s,h1,h2,xv (le s) C⟩
  ·refine .inr ⟨stop,i,J,?_⟩;show(S.ready.set stop ready).getD stop 0<=_;rw[d,No rfl];exact Q
 ·have f:(S.ready.set stop ready).getD s 0<=e.1:=f;show aG e\/e∈L.2;by_cases es:s=stop
  ·rw[d,No es]at f;subst es;obtain⟨p,g,rfl⟩:=mem_getD j dB;by_cases q:p<S.ah.getD s 0
   ·by_cases H:L.1<=p
    ·exact .inr (l p H q).2
    ·have:=k p (by lia);lia
   ·have:=h.du s a p (by lia) g;rcases h.cX s a _ j this with o|o
    ·exact .inl o
    ·exact .inr (m _ o)
  ·rw[d,Ps es]at f;rcases h.cX s a e j f with o|o
   ·exact .inl o
   ·exact .inr (m _ o)
·rw[Ps c];refine {h with ready:=λs a=>?_};by_cases e:s=stop
 ·subst e;have:=put s a;rw[Ps c]at this;exact this.congr at_
 ·exact(h.ready s a).congr λx=>(same s a e x).symm)
theorem aL.av (ok:bz N goes) {A G:Nat->Int->Prop}{S:SS}(h:aL N b5 FR ext aG A G S) {stop:Nat}{Is ready:Int}(a:stop<N.n) (hm:Is<FS) (b:ready<FS):
  aL N b5 FR ext aG (λs x=>A s x\/(s=stop/\x=Is)) (λs x=>G s x\/(s=stop/\x=ready)) (av N S stop Is ready):=
 (h.az a hm).e1 ok a b
theorem B3(ok:bz N goes) :∀(W:List (Nat×Int)) {A G:Nat->Int->Prop}{S:SS},(∀g m,(g,m)∈W->g<N.n/\Is+m<FS)->aL N b5 FR ext aG A G S->
  aL N b5 FR ext aG (λs x=>A s x\/∃m,(s,m)∈W/\x=Is+m) (λs x=>G s x\/∃m,(s,m)∈W/\x=Is+m) (W.foldl (λS w=>Tw.av N S w.1 (Is+w.2) (Is+w.2)) S)
 |[],A,G,S,_,h=>h.congr (λs _ x=>by simp) (λs _ x=>by simp)
 |(g,m)::W,A,G,S,hw,h=>by
  rw[dS];obtain⟨h1,h2⟩:=hw g m (kt ..);have e:∀(P:Nat->Int->Prop) (s:Nat) (x:Int),((P s x\/(s=g/\x=Is+m))\/∃a,(s,a)∈W/\x=Is+a)↔(P s x\/∃a,(s,a)∈(g,m)::W/\x=Is+a):=by
   intro P s x;constructor
   ·rintro((q|⟨rfl,q⟩)|⟨a,b,c⟩)
    ·exact .inl q
    ·exact .inr ⟨m,kt ..,q⟩
    ·exact .inr ⟨a,o0 _ b,c⟩
   ·rintro(q|⟨a,b,c⟩)
    ·exact .inl (.inl q)
    ·rcases rs.mp b with b|b
     ·injection b with d f;subst d f;exact .inl (.inr ⟨O,c⟩)
     ·exact .inr ⟨a,b,c⟩
  exact(B3 ok W (λg' a h'=>hw g' a (o0 _ h')) (h.av ok h1 h2 h2)).congr (λs _ x=>e A s x) (λs _ x=>e G s x)
theorem aL.bI (ok:bz N goes) {A G:Nat->Int->Prop}{S:SS}(h:aL N b5 FR ext aG A G S) {stop:Nat}{Is:Int}(b:stop<N.n) (hm:Is+240<FS):
  aL N b5 FR ext aG (λs x=>A s x\/∃m,(s,m)∈N.ft stop/\x=Is+m) (λs x=>G s x\/∃m,(s,m)∈N.ft stop/\x=Is+m) (bI N S stop Is):=
 B3 ok _ (λg m a=>by obtain⟨h1,h2,c⟩:=ok.foot stop g m b a;exact⟨h1,by lia⟩) h
theorem tq (S:SS) (stop:Nat) (Is ready:Int):(av N S stop Is ready).taken=S.taken/\(av N S stop Is ready).ab=S.ab/\(av N S stop Is ready).aa=S.aa:=by
 unfold Tw.av Tw.e1 Tw.az board;split<;>split<;>exact⟨O,O,O⟩
theorem zi (Is:Int):∀(W:List (Nat×Int)) (S:SS),(W.foldl (λS w=>av N S w.1 (Is+w.2) (Is+w.2)) S).taken=S.taken/\(W.foldl (λS w=>av N S w.1 (Is+w.2) (Is+w.2)) S).ab=S.ab/\(W.foldl (λS w=>av N S w.1 (Is+w.2) (Is+w.2)) S).aa=S.aa
 |[],S=>⟨O,O,O⟩
 |w::W,S=>by
  rw[dS];obtain⟨h1,h2,a⟩:=zi Is W (av N S w.1 (Is+w.2) (Is+w.2));obtain⟨b,c,d⟩:=tq (N:=N) S w.1 (Is+w.2) (Is+w.2);exact⟨h1.trans b,h2.trans c,a.trans d⟩
theorem B4 (S:SS) (stop:Nat) (Is:Int):(bI N S stop Is).taken=S.taken/\(bI N S stop Is).ab=S.ab/\(bI N S stop Is).aa=S.aa:=zi Is _ S
theorem uJ (S:SS) (stop:Nat):(ba N S stop).taken=S.taken/\(ba N S stop).ab=S.ab/\(ba N S stop).aa=S.aa:=by
 unfold ba;obtain⟨h1,h2,a⟩:=B4 (N:=N) (av N S stop (S.ab.getD stop 0) (S.ab.getD stop 0+N.chg.getD stop 0)) stop (S.ab.getD stop 0);obtain⟨b,c,d⟩:=tq (N:=N) S stop (S.ab.getD stop 0) (S.ab.getD stop 0+N.chg.getD stop 0);exact⟨h1.trans b,h2.trans c,a.trans d⟩
theorem uI (ok:bz N goes) (ab:List Int):∀(U:List Nat) {A G:Nat->Int->Prop}{S:SS},S.ab=ab->(∀u,u∈U->u<N.n/\ab.getD u 0+240<FS)->aL N b5 FR ext aG A G S->
  aL N b5 FR ext aG (λs x=>A s x\/(s∈U/\x=ab.getD s 0)\/∃u m,u∈U/\(s,m)∈N.ft u/\x=ab.getD u 0+m)
   (λs x=>G s x\/(s∈U/\x=ab.getD s 0+N.chg.getD s 0)\/∃u m,u∈U/\(s,m)∈N.ft u/\x=ab.getD u 0+m) (U.foldl (ba N) S)
 |[],A,G,S,_,_,h=>h.congr (λs _ x=>by simp) (λs _ x=>by simp)
 |u::U,A,G,S,c,hu,h=>by
  rw[dS];obtain⟨h1,h2⟩:=hu u (kt ..);have e:=ok.chg u h1;have step:aL N b5 FR ext aG _ _ (ba N S u):=(h.av ok (Is:=S.ab.getD u 0) (ready:=S.ab.getD u 0+N.chg.getD u 0) h1 (by rw[c];lia) (by rw[c];lia)).bI ok h1 (by rw[c];exact h2);refine(uI ok ab U ((uJ S u).2.1.trans c) (λv hv=>hu v (o0 _ hv)) step).congr (λs _ x=>?_) (λs _ x=>?_)
  all_goals
   rw[c];constructor
   ·rintro(((q|⟨rfl,q⟩)|⟨m,a,b⟩)|⟨a,b⟩|⟨v,m,a,b,d⟩)
    ·exact .inl q
    ·exact .inr (.inl ⟨kt ..,q⟩)
    ·exact .inr (.inr ⟨u,m,kt ..,a,b⟩)
    ·exact .inr (.inl ⟨o0 _ a,b⟩)
    ·exact .inr (.inr ⟨v,m,o0 _ a,b,d⟩)
   ·rintro(q|⟨a,b⟩|⟨v,m,a,b,d⟩)
    ·exact .inl (.inl (.inl q))
    ·rcases rs.mp a with rfl|a
     ·exact .inl (.inl (.inr ⟨O,b⟩))
     ·exact .inr (.inl ⟨a,b⟩)
    ·rcases rs.mp a with rfl|a
     ·exact .inl (.inr ⟨m,b,d⟩)
     ·exact .inr (.inr ⟨v,m,a,b,d⟩)
end
end Tw
namespace Tw
section
variable {N:Nt}{goes:Nat->Nat->Int}{s0:Nat}{t0:Int}
structure OffI (N:Nt) (a:List Int) (P:Nat->Int->Prop) (o:Off):Prop where
 len:o.ab.length=N.n
 min:∀s,s<N.n->lw (P s) (o.ab.getD s 0)
 le:∀s,s<N.n->o.ab.getD s 0<=a.getD s 0
 ai:∀s,s∈o.ai↔s<N.n/\o.ab.getD s 0<a.getD s 0
theorem OffI.congr(h:OffI N b P o) (e:∀s,s<N.n->∀x,P s x↔Q s x):OffI N b Q o:=
 {h with min:=λs a=>(h.min s a).congr (e s a)}
theorem OffI.step{run:Nat}(h:OffI N g P o) (b:N.stop run cu<N.n) (f:N.comes run cu<FS):
  OffI N g (λs x=>P s x\/(s=N.stop run cu/\x=N.comes run cu)) (cP N run o cu):=by(
unfold cP;generalize j:N.stop run cu=st at b⊢;generalize i:N.comes run cu=c at f⊢;have put:=λs b=>((h.min s b).put (y:=c)).resolve_right (λq=>q f);by_cases q:c<o.ab.getD st 0
·rw[No q];have d:∀s,(o.ab.set st c).getD s 0=if s=st then c else o.ab.getD s 0:=λs=>gW (by rw[h.len];exact b) s 0;refine {len:=by simp[h.len],min:=λs a=>?_,le:=λs a=>?_,ai:=λs=>?_}
 ·show lw _ ((o.ab.set st c).getD s 0);rw[d];by_cases e:s=st
  ·rw[No e];subst e;have:=put s a;rw[No q]at this;exact this.congr λx=>by simp
  ·rw[Ps e];exact(h.min s a).congr λx=>by simp[e]
 ·show(o.ab.set st c).getD s 0<=_;rw[d];by_cases e:s=st
  ·rw[No e];subst e;have:=h.le s a;lia
  ·rw[Ps e];exact h.le s a
 ·show s∈(if st∈o.ai then o.ai else o.ai++[st])↔s<N.n/\(o.ab.set st c).getD s 0<_;rw[d];by_cases e:s=st
  ·rw[No e];subst e;have:=h.le s b;refine⟨λ_=>⟨b,by lia⟩,λ_=>?_⟩;split
   ·assumption
   ·simp
  ·rw[Ps e,<-h.ai s];split
   ·exact Iff.rfl
   ·simp[e]
·rw[Ps q];refine {h with min:=λs a=>?_};by_cases e:s=st
 ·subst e;have:=put s a;rw[Ps q]at this;exact this.congr λx=>by simp
 ·exact(h.min s a).congr λx=>by simp[e])
theorem Ji (run:Nat) (o:Off) (cu:Nat):(cP N run o cu).aa=o.aa:=by
 unfold cP;split<;>rfl
theorem Am(run:Nat):∀(L:List Nat) {P:Nat->Int->Prop}{o:Off},(∀j,j∈L->N.stop run j<N.n/\N.comes run j<FS)->OffI N f P o->
  OffI N f (λs x=>P s x\/∃j,j∈L/\s=N.stop run j/\x=N.comes run j) (L.foldl (cP N run) o)/\(L.foldl (cP N run) o).aa=o.aa
 |[],P,o,_,h=>⟨h.congr λs _ x=>by simp,O⟩
 |j::L,P,o,c,h=>by
  rw[dS];obtain⟨h1,h2⟩:=c j (kt ..);obtain⟨d,e⟩:=Am run L (λi hi=>c i (o0 _ hi)) (h.step h1 h2);refine⟨d.congr λs _ x=>?_,e.trans (Ji run o j)⟩;constructor
  ·rintro((q|q)|⟨i,a,b⟩)
   ·exact .inl q
   ·exact .inr ⟨j,kt ..,q⟩
   ·exact .inr ⟨i,o0 _ a,b⟩
  ·rintro(q|⟨i,a,b⟩)
   ·exact .inl (.inl q)
   ·rcases rs.mp a with rfl|a
    ·exact .inl (.inr b)
    ·exact .inr ⟨i,a,b⟩
def Behind (N:Nt) (aa:List Nat) (s:Nat) (x:Int):Prop:=∃r j,r<N.runs.length/\aa.getD r 0<j/\j<N.len r/\s=N.stop r j/\x=N.comes r j
structure f' (N:Nt) (b:List Int) (a:List Nat) (Wp:List on) (o:Off):Prop where
 off:OffI N b (Behind N o.aa) o
 cY:o.aa.length=N.runs.length
 fE:∀r,r<N.runs.length->o.aa.getD r 0<=a.getD r 0
 leB:∀e,e∈Wp->o.aa.getD e.2.1 0<=e.2.2
 from_:∀r,r<N.runs.length->o.aa.getD r 0=a.getD r 0\/∃e,e∈Wp/\e.2.1=r/\e.2.2=o.aa.getD r 0
theorem f'.run(ok:bz N goes) (h:f' N w t Wp o) (h0:∀r,r<N.runs.length->t.getD r 0<N.len r) (f:e.2.1<N.runs.length):f' N w t (Wp++[e]) (er N o e):=by(
obtain⟨g,run,call⟩:=e;simp only at f;unfold er;simp only;by_cases c:call<o.aa.getD run 0
·rw[No c];have C:=h.fE run f;have zu:=h0 run f;have k:∀r,(o.aa.set run call).getD r 0=if r=run then call else o.aa.getD r 0:=λr=>gW (by rw[h.cY];exact f) r 0;have z:OffI N w (Behind N o.aa) {o with aa:=o.aa.set run call}:= {len:=h.off.len,min:=h.off.min,le:=h.off.le,ai:=h.off.ai};obtain⟨u,i⟩:=Am (N:=N) run (kE (call+1) (o.aa.getD run 0-call)) (λj A=>by
  rw[sY]at A;have h1:=ok.eO run j f (by lia);have h2:=ok.iL run j f (by lia);exact⟨h1,by lia⟩) z
 generalize (kE (call+1) (o.aa.getD run 0-call)).foldl (cP N run) {o with aa:=o.aa.set run call}=o' at u i;simp only at i;refine {off:=u.congr λs _ x=>?_,cY:=by rw[i];simp[h.cY],fE:=λr l=>?_,leB:=λe n=>?_,from_:=λr l=>?_}
 ·unfold Behind;rw[i];constructor
  ·rintro(⟨r,j,d,b,m⟩|⟨j,d,b⟩)
   ·refine⟨r,j,d,?_,m⟩;rw[k];by_cases a:r=run
    ·rw[No a];subst a;lia
    ·rw[Ps a];exact b
   ·rw[sY]at d;exact⟨run,j,f,by rw[k,No rfl];lia,by lia,b⟩
  ·rintro⟨r,j,d,b,m,p⟩;rw[k]at b;by_cases a:r=run
   ·rw[No a]at b;subst a;by_cases y:o.aa.getD r 0<j
    ·exact .inl ⟨r,j,d,y,m,p⟩
    ·exact .inr ⟨j,by rw[sY];lia,p⟩
   ·rw[Ps a]at b;exact .inl ⟨r,j,d,b,m,p⟩
 ·rw[i,k];by_cases a:r=run
  ·rw[No a];subst a;lia
  ·rw[Ps a];exact h.fE r l
 ·rw[i,k];rcases cs.mp n with q|q
  ·have:=h.leB e q;by_cases a:e.2.1=run
   ·rw[No a];rw[a]at this;lia
   ·rw[Ps a];exact this
  ·simp at q;subst q;simp
 ·rw[i,k];by_cases a:r=run
  ·rw[No a];exact .inr ⟨(g,run,call),by simp,a.symm,O⟩
  ·rw[Ps a];rcases h.from_ r l with q|⟨e,d,b⟩
   ·exact .inl q
   ·exact .inr ⟨e,gx _ d,b⟩
·rw[Ps c];refine {h with leB:=λe n=>?_,from_:=λr l=>?_}
 ·rcases cs.mp n with q|q
  ·exact h.leB e q
  ·simp at q;subst q;simp only;lia
 ·rcases h.from_ r l with q|⟨e,d,b⟩
  ·exact .inl q
  ·exact .inr ⟨e,gx _ d,b⟩)
theorem f'.fold(ok:bz N goes) (h0:∀r,r<N.runs.length->a.getD r 0<N.len r):∀(L Wp:List on) {o:Off},(∀e,e∈L->e.2.1<N.runs.length)->f' N f a Wp o->f' N f a (Wp++L) (L.foldl (er N) o)
 |[],Wp,o,_,h=>by simpa using h
 |e::L,Wp,o,b,h=>by
  have:=f'.fold ok h0 L (Wp++[e]) (λc d=>b c (o0 _ d)) (h.run ok h0 (b e (kt ..)));rw[dv]at this;exact this
def oH (N:Nt) (goes:Nat->Nat->Int) (s0:Nat) (t0:Int) (k s:Nat) (x:Int) (r:Nat):Prop:=r<=k/\Ak N goes s0 t0 r s x/\∀m,m<r->¬Ak N goes s0 t0 m s x
def jW (N:Nt) (goes:Nat->Nat->Int) (s0:Nat) (t0:Int) (k:Nat) (e:on):Prop:=0<k/\bd N goes s0 t0 (k-1) e.2.1 e.2.2
structure SInv (N:Nt) (goes:Nat->Nat->Int) (s0:Nat) (t0:Int) (k:Nat) (S:SS):Prop where
 taken:S.taken=k
 mid:aL N (λ_ _=>False) (λ_ _ _=>True) (λ_=>False) (jW N goes s0 t0 k) (Ak N goes s0 t0 k) (Gk N goes s0 t0 k) {S with rides:=f8 N.n k}
 dq:S.rides.length=N.n
 rides:∀s,s<N.n->S.arr.getD s 0<FS->oH N goes s0 t0 k s (S.arr.getD s 0) (S.rides.getD s 0)
 e8:S.ab.length=N.n
 ab:∀s,s<N.n->lw (Rk N goes s0 t0 k s) (S.ab.getD s 0)
 cY:S.aa.length=N.runs.length
 gH:∀r,r<N.runs.length->S.aa.getD r 0<N.len r
 gI:∀r,r<N.runs.length->S.aa.getD r 0+1=N.len r\/(0<k/\bd N goes s0 t0 (k-1) r (S.aa.getD r 0))
 mK:∀r i,r<N.runs.length->i+1<N.len r->0<k->bd N goes s0 t0 (k-1) r i->S.aa.getD r 0<=i
theorem SInv.Al(a:S.taken=k) (h:aL N b5 FR (λ_=>False) (jW N goes s0 t0 k) (Ak N goes s0 t0 k) (Gk N goes s0 t0 k) S)
  (b:∀s,s<N.n->S.arr.getD s 0<FS->oH N goes s0 t0 k s (S.arr.getD s 0) (S.rides.getD s 0))
  (e8:S.ab.length=N.n) (ab:∀s,s<N.n->lw (Rk N goes s0 t0 k s) (S.ab.getD s 0)) (cY:S.aa.length=N.runs.length) (gH:∀r,r<N.runs.length->S.aa.getD r 0<N.len r)
  (gI:∀r,r<N.runs.length->S.aa.getD r 0+1=N.len r\/(0<k/\bd N goes s0 t0 (k-1) r (S.aa.getD r 0)))
  (mK:∀r i,r<N.runs.length->i+1<N.len r->0<k->bd N goes s0 t0 (k-1) r i->S.aa.getD r 0<=i):SInv N goes s0 t0 k S:=
 ⟨a,{dn:=h.dn,dq:=by simp,dG:=h.dG,dH:=h.dH,arr:=h.arr,sub:=λ_ _ _ q=>q.elim,rides:=λs c _=>.inr ⟨λq=>q,by rw[a];simp[np,ox,c]⟩,ready:=h.ready,bH:=h.bH,d6:=h.d6,du:=h.du,dX:=h.dX,cX:=h.cX},h.dq,b,e8,ab,cY,gH,gI,mK⟩
theorem kP (ok:bz N goes) (t:s0<N.n) (E:t0+240<FS):SInv N goes s0 t0 0 (cp N s0 t0):=by(
have rep:∀ {J:Type}(n s:Nat) (x d:J),s<n->(f8 n x).getD s d=x:=λn s x d a=>by simp[np,ox,a]
have k:∀s,s<N.n->(N.af.map cC).getD s 0=(N.af.getD s []).length:=λs a=>by
 simp only[np,pr];rw[g1 (by rw[ok.hI];exact a)];rfl
have l:∀s,s<N.n->∀e,e∈N.af.getD s []->e.1<FS:=λs a e f=>by
 obtain⟨g,r,i⟩:=e;obtain⟨h1,h2,_,L⟩:=(ok.af s a g r i).mp f;have:=ok.k4 r i h1 (by lia);simp only;lia
have H:aL N (λ_ _=>False) (λ_ _ _=>True) (λ_=>False) (jW N goes s0 t0 0) (λ_ _=>False) (λ_ _=>False) (f1 N):= {
 dn:=by simp[f1]
 dq:=by simp[f1]
 dG:=by simp[f1]
 dH:=by simp[f1,ok.hI]
 arr:=λs a=>by show lw _ ((f8 N.n FS).getD s 0);rw[rep _ _ _ _ a];exact lw.never λ_ q=>q
 sub:=λ_ _ _ q=>q
 rides:=λs a h=>by
  have h:(f8 N.n FS).getD s 0<FS:=h;rw[rep _ _ _ _ a]at h;lia
 ready:=λs a=>by show lw _ ((f8 N.n FS).getD s 0);rw[rep _ _ _ _ a];exact lw.never λ_ q=>q
 bH:=λs a=>ku (k s a)
 d6:=λs a p b=>by
  have b:p<(N.af.map cC).getD s 0:=b;rw[k s a]at b;show _<(f8 N.n FS).getD s 0;rw[rep _ _ _ _ a];exact l s a _ (getD_mem b _)
 du:=λs a p b j=>by
  have b:(N.af.map cC).getD s 0<=p:=b;rw[k s a]at b;lia
 dX:=λe f=>by simp[f1]at f
 cX:=λs a e f j=>by
  have j:(f8 N.n FS).getD s 0<=e.1:=j;rw[rep _ _ _ _ a]at j;have:=l s a e f;lia}
have m1:=(H.av ok t (Is:=t0) (ready:=t0) (by lia) (by lia)).bI ok t E;have key:∀s x,Fk N goes s0 t0 0 s x↔((False\/(s=s0/\x=t0))\/∃m,(s,m)∈N.ft s0/\x=t0+m):=λs x=>by rw[t2];simp
have m2:aL N _ _ (λ_=>False) (jW N goes s0 t0 0) (Ak N goes s0 t0 0) (Gk N goes s0 t0 0) (cp N s0 t0):=m1.congr
 (λs _ x=>by rw[gE,<-key];exact⟨.inl,λq=>q.elim id λq=>absurd q lz⟩)
 (λs _ x=>by rw[<- key];exact⟨.inl,λq=>q.elim id λ⟨y,q,_⟩=>absurd q lz⟩)
obtain⟨u,w,z⟩:=B4 (N:=N) (av N (f1 N) s0 t0 t0) s0 t0;obtain⟨A,C,D⟩:=tq (N:=N) (f1 N) s0 t0 t0;have o:∀r,r<N.runs.length->(cp N s0 t0).aa.getD r 0=N.len r-1:=λr c=>by
 show(bI N _ s0 t0).aa.getD r 0=_;rw[z,D];show(N.runs.map λr=>r.1.length-1).getD r 0=_;simp only[np,pr,Nt.len];rw[g1 c];rfl
refine SInv.Al (show(bI N _ s0 t0).taken=0 from u.trans A) m2 (λs a h=>?_) ?_ (λs a=>?_) ?_ (λr c=>?_) (λr c=>?_) (λr i _ _ h0=>absurd h0 (by lia))
·rcases m2.rides s a h with⟨q,_⟩|⟨_,q⟩
 ·exact q.elim
 ·rw[q,show(cp N s0 t0).taken=0 from u.trans A];refine⟨tz _,?_,λm hm=>absurd hm (by lia)⟩;rcases(m2.arr s a).1 with q|q
  ·exact q
  ·lia
·show(bI N _ s0 t0).ab.length=_;rw[w,C];simp[f1]
·show lw _ ((bI N _ s0 t0).ab.getD s 0);rw[w,C];show lw _ ((f8 N.n FS).getD s 0);rw[rep _ _ _ _ a];exact lw.never λ_ q=>lz q
·show(bI N _ s0 t0).aa.length=_;rw[z,D];simp[f1]
·rw[o r c];have:=ok.mW r c;lia
·rw[o r c];have:=ok.mW r c;exact .inl (by lia))
theorem MT(ok:bz N goes) (h:SInv N goes s0 t0 k S):SInv N goes s0 t0 (k+1) (cA N S):=by(
have hm:=h.mid;have mA:∀s,s<N.n->lw (Ak N goes s0 t0 k s) (S.arr.getD s 0):=hm.arr;have OO:∀s,s<N.n->lw (Gk N goes s0 t0 k s) (S.ready.getD s 0):=hm.ready;have hB:∀e,e∈S.ae->e.2.1<N.runs.length/\e.2.2+1<N.len e.2.1/\bd N goes s0 t0 k e.2.1 e.2.2:=by
 rintro⟨g,r,i⟩ w;obtain⟨s,b,h1,h2⟩:=(hm.dX _ w).resolve_left id;have h2:S.ready.getD s 0<=g:=h2;obtain⟨a,c,f,C⟩:=(ok.af s b g r i).mp h1;refine⟨a,c,S.ready.getD s 0,?_,by rw[<- C];exact h2⟩;have hg:=ok.k4 r i a (by lia);simp only;rw[f];rcases(OO s b).1 with q|q
 ·exact q
 ·rw[q]at h2;lia
have O0:∀r i,r<N.runs.length->i+1<N.len r->bd N goes s0 t0 k r i->jW N goes s0 t0 k (goes r i,r,i)\/(goes r i,r,i)∈S.ae:=by
 rintro r i d hi ⟨x,T,A⟩;have b:=ok.eO r i d (by lia);refine hm.cX _ b _ ((ok.af _ b _ _ _).mpr ⟨d,hi,O,O⟩) ?_;have:=(OO _ b).2 x T;show S.ready.getD (N.stop r i) 0<=goes r i;lia
have l:f' N S.ab S.aa ([]++S.ae) (bF N S):=by
 refine f'.fold ok h.gH S.ae [] (λe w=>(hB e w).1) ?_;refine {off:= {len:=h.e8,min:=λs b=>(h.ab s b).congr λx=>?_,le:=λs b=>fj _,ai:=λs=>?_},cY:=h.cY,fE:=λr d=>tz _,leB:=λe w=>by simp at w,from_:=λr d=>.inl rfl}
 ·constructor
  ·rintro T;by_cases OZ:k=0
   ·subst OZ;exact absurd T lz
   ·have:=hR (N:=N) (goes:=goes) (s0:=s0) (t0:=t0) (k:=k-1) (s:=s) (x:=x);rw[show k-1+1=k by lia]at this;obtain⟨r,i,j,h1,h2,t,D,L⟩:=this.mp T;have:=h.mK r i h1 (by lia) (by lia) D;exact⟨r,j,h1,by simp only;lia,t,L⟩
  ·rintro⟨r,j,h1,h2,t,D,L⟩;rcases h.gI r h1 with q|⟨a,c⟩
   ·simp only at h2;lia
   ·have:=hR (N:=N) (goes:=goes) (s0:=s0) (t0:=t0) (k:=k-1) (s:=s) (x:=x);rw[show k-1+1=k by lia]at this;exact this.mpr ⟨r,_,j,h1,h2,t,c,D,L⟩
 ·simp
rw[me]at l;generalize O1:bF N S=o at l;have OQ:∀r,r<N.runs.length->o.aa.getD r 0+1=N.len r\/(o.aa.getD r 0+1<N.len r/\bd N goes s0 t0 k r (o.aa.getD r 0)):=by
 intro r d;have h1:=l.fE r d;have h2:=h.gH r d;rcases l.from_ r d with q|⟨e,a,c,f⟩
 ·rcases h.gI r d with p|⟨O4,p2⟩
  ·exact .inl (by lia)
  ·by_cases e:o.aa.getD r 0+1=N.len r
   ·exact .inl e
   ·exact .inr ⟨by lia,by rw[q];exact Fo (by lia) p2⟩
 ·obtain⟨O4,p2,OS⟩:=hB e a;rw[c,f]at OS;rw[c,f]at p2;exact .inr ⟨p2,OS⟩
have OR:∀r i,r<N.runs.length->i+1<N.len r->bd N goes s0 t0 k r i->o.aa.getD r 0<=i:=by
 intro r i d hi OP;rcases O0 r i d hi OP with⟨a,c⟩|q
 ·have:=h.mK r i d hi a c;have:=l.fE r d;lia
 ·exact l.leB _ q
have E:∀s,s<N.n->lw (Rk N goes s0 t0 (k+1) s) (o.ab.getD s 0):=λs b=>(l.off.min s b).congr λx=>by
 rw[hR];constructor
 ·rintro⟨r,j,h1,h2,t,D⟩;rcases OQ r h1 with q|⟨_,q⟩
  ·lia
  ·exact⟨r,_,j,h1,h2,t,q,D⟩
 ·rintro⟨r,i,j,h1,h2,t,D,L⟩;have:=OR r i h1 (by lia) D;exact⟨r,j,h1,by lia,t,L⟩
have O3:aL N (Ak N goes s0 t0 k) (oH N goes s0 t0 k) (λ_=>False) (jW N goes s0 t0 (k+1)) (Ak N goes s0 t0 k) (Gk N goes s0 t0 k) {S with taken:=S.taken+1,aa:=o.aa,ab:=o.ab,ae:=[]}:= {
 dn:=hm.dn,dq:=h.dq,dG:=hm.dG,dH:=hm.dH,arr:=mA,sub:=λ_ _ _ q=>q
 rides:=λs b Q=>by
  refine .inl ⟨?_,h.rides s b Q⟩;rcases(mA s b).1 with q|q
  ·exact q
  ·have Q:S.arr.getD s 0<FS:=Q;lia
 ready:=OO,bH:=hm.bH,d6:=hm.d6,du:=hm.du
 dX:=λe w=>by simp at w
 cX:=λs b e w A=>by
  obtain⟨g,r,i⟩:=e;obtain⟨a,c,f,C⟩:=(ok.af s b g r i).mp w;have A:S.ready.getD s 0<=g:=A;have hg:=ok.k4 r i a (by lia);refine .inl ⟨by lia,S.ready.getD s 0,?_,by simp only;lia⟩;simp only[xk];rw[f];rcases(OO s b).1 with q|q
  ·exact q
  ·rw[q]at A;lia}
have ea:∀u,u∈o.ai->u<N.n/\Rk N goes s0 t0 (k+1) u (o.ab.getD u 0)/\o.ab.getD u 0+240<FS:=by
 intro u hu;obtain⟨h1,h2⟩:=(l.off.ai u).mp hu;have t:Rk N goes s0 t0 (k+1) u (o.ab.getD u 0):=by
  rcases(E u h1).1 with q|q
  ·exact q
  ·rcases(h.ab u h1).1 with p|p
   ·obtain⟨r,i,j,a,c,f,_,_,C⟩:=hR.mp (u9 (ij _) p);have:=ok.iL r j a f;lia
   ·lia
 refine⟨h1,t,?_⟩;obtain⟨r,i,j,a,c,f,_,_,C⟩:=hR.mp t;rw[C];exact ok.iL r j a f
have m1:=uI ok o.ab o.ai (S:= {S with taken:=S.taken+1,aa:=o.aa,ab:=o.ab,ae:=[]}) rfl (λu hu=>⟨(ea u hu).1,(ea u hu).2.2⟩) O3;have OY:cA N S=o.ai.foldl (ba N) {S with taken:=S.taken+1,aa:=o.aa,ab:=o.ab,ae:=[]}:=by
 unfold cA;rw[O1]
have keep:∀(U:List Nat) (Z:SS),(U.foldl (ba N) Z).taken=Z.taken/\(U.foldl (ba N) Z).ab=Z.ab/\(U.foldl (ba N) Z).aa=Z.aa:=by
 intro U
 induction U with
 |nil=>intro Z;exact⟨O,O,O⟩
 |cons u U O2=>
  intro Z;rw[dS];obtain⟨a1,a2,a3⟩:=O2 (ba N Z u);obtain⟨OV,OW,OX⟩:=uJ (N:=N) Z u;exact⟨a1.trans OV,a2.trans OW,a3.trans OX⟩
obtain⟨ON,OM,J⟩:=keep o.ai {S with taken:=S.taken+1,aa:=o.aa,ab:=o.ab,ae:=[]};rw[<- OY]at m1 ON OM J;simp only at ON OM J;have aG:∀u y,u<N.n->u∉o.ai->Rk N goes s0 t0 (k+1) u y->0<k/\∃z,Rk N goes s0 t0 k u z/\z<=y:=by
 intro u y hu d Y;have h1:=(E u hu).2 y Y;have h2:¬o.ab.getD u 0<S.ab.getD u 0:=λq=>d ((l.off.ai u).mpr ⟨hu,q⟩);obtain⟨r,i,j,a,c,f,_,_,C⟩:=hR.mp Y;have t:=ok.iL r j a f;rcases(h.ab u hu).1 with q|q
 ·refine⟨?_,_,q,by lia⟩;cases k with
  |zero=>exact absurd q lz
  |succ k=>lia
 ·lia
have OU:∀u s z m,0<k->Rk N goes s0 t0 k u z->(s,m)∈N.ft u->Fk N goes s0 t0 k s (z+m):=by
 intro u s z m H hz hf;have:=jJ (N:=N) (goes:=goes) (s0:=s0) (t0:=t0) (k:=k-1) (s:=s) (x:=z+m);rw[show k-1+1=k by lia]at this;exact this.mpr (.inr ⟨u,z,m,hz,hf,O⟩)
have OT:∀u y,Rk N goes s0 t0 (k+1) u y->u<N.n:=by
 intro u y Y;obtain⟨r,i,j,a,c,f,_,C,_⟩:=hR.mp Y;rw[C];exact ok.eO r j a f
have m2:aL N (Ak N goes s0 t0 k) (oH N goes s0 t0 k) (λ_=>False) (jW N goes s0 t0 (k+1)) (Ak N goes s0 t0 (k+1)) (Gk N goes s0 t0 (k+1)) (cA N S):=by
 refine m1.widen (λs b x q=>?_) (λs b x q=>?_) (λs b x q=>?_) (λs b x q=>?_)
 ·rcases q with q|⟨a,c⟩|⟨u,m,a,c,f⟩
  ·exact tp (ij _) q
  ·rw[c];exact gE.mpr (.inr (ea s a).2.1)
  ·exact gE.mpr (.inl (jJ.mpr (.inr ⟨u,_,m,(ea u a).2.1,c,f⟩)))
 ·rcases gE.mp q with q|q
  ·rcases jJ.mp q with q|⟨u,y,m,a,c,f⟩
   ·exact⟨x,.inl (gE.mpr (.inl q)),fj _⟩
   ·have hu:=OT u y a;by_cases e:u∈o.ai
    ·have:=(E u hu).2 y a;exact⟨_,.inr (.inr ⟨u,m,e,c,O⟩),by lia⟩
    ·obtain⟨H,z,hz,A⟩:=aG u y hu e a;exact⟨z+m,.inl (gE.mpr (.inl (OU u s z m H hz c))),by lia⟩
  ·by_cases e:s∈o.ai
   ·have:=(E s b).2 x q;exact⟨_,.inr (.inl ⟨e,O⟩),this⟩
   ·obtain⟨H,z,hz,A⟩:=aG s x b e q;exact⟨z,.inl (gE.mpr (.inr hz)),A⟩
 ·rcases q with q|⟨a,c⟩|⟨u,m,a,c,f⟩
  ·exact zr (ij _) q
  ·exact .inr ⟨_,(ea s a).2.1,c⟩
  ·exact .inl (jJ.mpr (.inr ⟨u,_,m,(ea u a).2.1,c,f⟩))
 ·rcases q with q|⟨y,q,O5⟩
  ·rcases jJ.mp q with q|⟨u,y,m,a,c,f⟩
   ·exact⟨x,.inl (.inl q),fj _⟩
   ·have hu:=OT u y a;by_cases e:u∈o.ai
    ·have:=(E u hu).2 y a;exact⟨_,.inr (.inr ⟨u,m,e,c,O⟩),by lia⟩
    ·obtain⟨H,z,hz,A⟩:=aG u y hu e a;exact⟨z+m,.inl (.inl (OU u s z m H hz c)),by lia⟩
  ·by_cases e:s∈o.ai
   ·have:=(E s b).2 y q;exact⟨_,.inr (.inl ⟨e,O⟩),by lia⟩
   ·obtain⟨H,z,hz,A⟩:=aG s y b e q;exact⟨z+N.chg.getD s 0,.inl (.inr ⟨z,hz,O⟩),by lia⟩
refine SInv.Al (by rw[ON,h.taken]) m2 (λs b Q=>?_) (by rw[OM];exact l.off.len) (λs b=>by rw[OM];exact E s b) (by rw[J];exact l.cY) (λr d=>?_) (λr d=>?_) (λr i d hi _ OP=>?_)
·rcases m2.rides s b Q with⟨_,q⟩|⟨a,c⟩
 ·exact⟨by have:=q.1;lia,q.2.1,q.2.2⟩
 ·rw[c,ON,h.taken];refine⟨tz _,?_,λm hm q=>a (tp (by lia) q)⟩;rcases(m2.arr s b).1 with q|q
  ·exact q
  ·lia
·rw[J];have:=l.fE r d;have:=h.gH r d;lia
·rw[J];rcases OQ r d with q|⟨_,q⟩
 ·exact .inl q
 ·exact .inr ⟨by lia,by simpa using q⟩
·rw[J];exact OR r i d hi (by simpa using OP))
theorem vj(ok:bz N goes) (h:SInv N goes s0 t0 k S) (p:S.ae=[]) (g:s<N.n):
  lw (λx=>∃n w,NJ N goes s0 t0 n w s x) (S.arr.getD s 0)/\(S.arr.getD s 0<FS->eg (λn=>∃w,NJ N goes s0 t0 n w s (S.arr.getD s 0)) (some (S.rides.getD s 0))):=by(
have t:∀r i,r<N.runs.length->i+1<N.len r->bd N goes s0 t0 k r i->0<k/\bd N goes s0 t0 (k-1) r i:=by
 rintro r i f hi ⟨x,a,u⟩;have b:=ok.eO r i f (by lia);have:=(h.mid.ready _ b).2 x a;rcases h.mid.cX _ b _ ((ok.af _ b _ _ _).mpr ⟨f,hi,O,O⟩) (by show S.ready.getD (N.stop r i) 0<=goes r i;exact xv this u)with q|q
 ·exact q
 ·have q:(goes r i,r,i)∈S.ae:=q;rw[p]at q;simp at q
have o:∀n w x,NJ N goes s0 t0 n w s x->Ak N goes s0 t0 k s x:=by
 intro n w x a;by_cases e:n<=k
 ·exact⟨n,w,e,a⟩
 ·obtain⟨c,d⟩:=yr t (n-k);rw[show k+(n-k)=n by lia]at c d;rcases gE.mp (⟨n,w,tz _,a⟩:Ak N goes s0 t0 n s x)with q|q
  ·exact gE.mpr (.inl ((d s x).mp q))
  ·exact gE.mpr (.inr ((c s x).mp q))
have hA:lw (Ak N goes s0 t0 k s) (S.arr.getD s 0):=h.mid.arr s g;refine⟨hA.congr λx=>⟨λ⟨n,w,_,q⟩=>⟨n,w,q⟩,λ⟨n,w,q⟩=>o n w x q⟩,λy=>?_⟩;obtain⟨A,⟨n,w,C,j⟩,l⟩:=h.rides s g y;have en:n=S.rides.getD s 0:=by
 by_cases e:n<S.rides.getD s 0
 ·exact absurd ⟨n,w,tz _,j⟩ (l n e)
 ·lia
subst en;exact⟨⟨w,j⟩,λm hm ⟨z,q⟩=>l m hm ⟨m,z,tz _,q⟩⟩)
end
end Tw
namespace Tw
structure Sys where
 ride:Nat->Int->Nat->Int->Prop
 walk:Nat->Nat->Int->Prop
 chg:Nat->Int
inductive GJ (Y:Sys) (s0:Nat) (t0:Int):Nat->Nat->Nat->Int->Prop
 |start:GJ Y s0 t0 0 0 s0 t0
 |walk {n w s g:Nat}{x m:Int}:GJ Y s0 t0 n w s x->w≠2->Y.walk s g m->GJ Y s0 t0 n 2 g (x+m)
 |ride {n w s s':Nat}{x g c:Int}:GJ Y s0 t0 n w s x->Y.ride s g s' c->x+(if w=1 then Y.chg s else 0)<=g->GJ Y s0 t0 (n+1) 1 s' c
def Sys.back (Y:Sys):Sys:=⟨λs g s' c=>Y.ride s' (-c) s (-g),λs s' m=>Y.walk s' s m,Y.chg⟩
def gD (Y:Sys) (s:Nat) (x:Int) (s':Nat) (y:Int):Prop:=(s=s'/\x<=y)\/∃m,Y.walk s s' m/\x+m<=y
def iy (Y:Sys) (s:Nat) (x:Int) (s':Nat) (y:Int):Prop:=(s=s'/\x+Y.chg s<=y)\/∃m,Y.walk s s' m/\x+m<=y
def Rd (Y:Sys) (s:Nat) (x:Int):Nat->Nat->Int->Prop
 |0,s',c=>∃a g,gD Y s x a g/\Y.ride a g s' c
 |n+1,s',c=>∃b c2 a g,Rd Y s x n b c2/\iy Y b c2 a g/\Y.ride a g s' c
def Dr (Y:Sys) (s':Nat) (y:Int):Nat->Nat->Int->Prop
 |0,s,g=>∃a c,Y.ride s g a c/\gD Y a c s' y
 |n+1,s,g=>∃a c b g3,Y.ride s g a c/\iy Y a c b g3/\Dr Y s' y n b g3
section
variable {Y:Sys}{s s':Nat}{x y:Int}
theorem yE:∀(m n:Nat),(∃a c2 b g3,Rd Y s x n a c2/\iy Y a c2 b g3/\Dr Y s' y m b g3)↔∃a c2 b g3,Rd Y s x 0 a c2/\iy Y a c2 b g3/\Dr Y s' y (n+m) b g3
 |m,0=>by rw[su]
 |m,n+1=>by
  have h:=yE (m+1) n;rw[show n+(m+1)=n+1+m by lia]at h;rw[<- h];constructor
  ·rintro⟨a,c2,b,g3,⟨f,c4,g,g5,h1,h2,c⟩,d,e⟩;exact⟨f,c4,g,g5,h1,h2,a,c2,b,g3,c,d,e⟩
  ·rintro⟨f,c4,g,g5,h1,h2,a,c2,b,g3,c,d,e⟩;exact⟨a,c2,b,g3,⟨f,c4,g,g5,h1,h2,c⟩,d,e⟩
theorem Lu (n:Nat):(∃a c2,Rd Y s x n a c2/\gD Y a c2 s' y)↔∃e d,gD Y s x e d/\Dr Y s' y n e d:=by(
cases n with
|zero=>
 constructor
 ·rintro⟨a,c2,⟨e,d,h1,h2⟩,c⟩;exact⟨e,d,h1,a,c2,h2,c⟩
 ·rintro⟨e,d,h1,a,c2,h2,c⟩;exact⟨a,c2,⟨e,d,h1,h2⟩,c⟩
|succ n=>
 have b:=yE (Y:=Y) (s:=s) (s':=s') (x:=x) (y:=y) 0 n;rw[Nat.add_zero]at b;constructor
 ·rintro⟨a,c2,⟨o,c4,p,g5,h1,h2,c⟩,i⟩;obtain⟨a2,g,a3,h,⟨a1,f,j,k⟩,l,m⟩:=b.mp ⟨o,c4,p,g5,h1,h2,a,c2,c,i⟩;exact⟨a1,f,j,a2,g,a3,h,k,l,m⟩
 ·rintro⟨a1,f,j,a2,g,a3,h,k,l,m⟩;obtain⟨o,c4,p,g5,h1,h2,a,c2,c,i⟩:=b.mpr ⟨a2,g,a3,h,⟨a1,f,j,k⟩,l,m⟩;exact⟨a,c2,⟨o,c4,p,g5,h1,h2,c⟩,i⟩)
theorem mX:gD Y.back s' (-y) s (-x)↔gD Y s x s' y:=by(
unfold gD Sys.back;constructor
·rintro(⟨rfl,h⟩|⟨m,h1,h2⟩)
 ·exact .inl ⟨O,by lia⟩
 ·exact .inr ⟨m,h1,by lia⟩
·rintro(⟨rfl,h⟩|⟨m,h1,h2⟩)
 ·exact .inl ⟨O,by lia⟩
 ·exact .inr ⟨m,h1,by lia⟩)
theorem z7:iy Y.back s' (-y) s (-x)↔iy Y s x s' y:=by(
unfold iy Sys.back;constructor
·rintro(⟨rfl,h⟩|⟨m,h1,h2⟩)
 ·exact .inl ⟨O,by simp only at h;lia⟩
 ·exact .inr ⟨m,h1,by lia⟩
·rintro(⟨rfl,h⟩|⟨m,h1,h2⟩)
 ·exact .inl ⟨O,by simp only;lia⟩
 ·exact .inr ⟨m,h1,by lia⟩)
theorem lx:∀(n s:Nat) (g:Int),Rd Y.back s' (-y) n s (-g)↔Dr Y s' y n s g
 |0,s,g=>by
  constructor
  ·rintro⟨a,c,h1,h2⟩;have e:Y.ride s (- -g) a (-c):=h2;rw[dU]at e;refine⟨a,-c,e,?_⟩;rw[<- mX,dU];exact h1
  ·rintro⟨a,c,h1,h2⟩;refine⟨a,-c,mX.mpr h2,?_⟩;show Y.ride s (- -g) a (- -c);rw[dU,dU];exact h1
 |n+1,s,g=>by
  constructor
  ·rintro⟨b,g3,a,c,h1,h2,d⟩;have f:Y.ride s (- -g) a (-c):=d;rw[dU]at f;refine⟨a,-c,b,-g3,f,?_,?_⟩
   ·rw[<- z7,dU,dU];exact h2
   ·rw[<- lx n b (-g3),dU];exact h1
  ·rintro⟨a,c,b,g3,h1,h2,d⟩;refine⟨b,-g3,a,-c,(lx n b g3).mpr d,z7.mpr h2,?_⟩;show Y.ride s (- -g) a (- -c);rw[dU,dU];exact h1
theorem k2(h:GJ Y s0 t0 n w s x):(n=0/\w=0/\s=s0/\x=t0)\/w=1\/w=2:=by(
cases h with
|start=>exact .inl ⟨O,O,O,O⟩
|walk _ _ _=>exact .inr (.inr rfl)
|ride _ _ _=>exact .inr (.inl rfl))
theorem mO(h:GJ Y s0 t0 n w s x):(w=0->n=0/\s=s0/\x=t0)/\(w=2->∃u z m,Y.walk u s m/\x=z+m/\((n=0/\u=s0/\z=t0)\/GJ Y s0 t0 n 1 u z)):=by(
cases h with
|start=>exact⟨λ_=>⟨O,O,O⟩,λe=>by cases e⟩
|@walk n w u g z m h hw d=>
 refine⟨λe=>(by cases e),λ_=>⟨u,z,m,d,O,?_⟩⟩;rcases k2 h with⟨a,f,b,c⟩|e|e
 ·exact .inl ⟨a,b,c⟩
 ·subst e;exact .inr h
 ·exact absurd e hw
|ride _ _ _=>exact⟨λe=>(by cases e),λe=>(by cases e)⟩)
theorem iP:∀(n s:Nat) (c:Int),GJ Y s0 t0 (n+1) 1 s c↔Rd Y s0 t0 n s c
 |0,s,c=>by
  constructor
  ·intro h;cases h with
   |@ride n w u _ z g _ h d b=>
    refine⟨u,g,?_,d⟩;rcases k2 h with⟨_,k,l,o⟩|e|e
    ·subst k l o;exact .inl ⟨O,by simpa using b⟩
    ·subst e;cases h
    ·subst e;obtain⟨v,i,m,h1,h2,a⟩:=(mO h).2 rfl;rcases a with⟨_,rfl,rfl⟩|a
     ·exact .inr ⟨m,h1,by rw[Ps (by decide)]at b;lia⟩
     ·cases a
  ·rintro⟨q,g,h1,h2⟩;rcases h1 with⟨rfl,h1⟩|⟨m,h1,a⟩
   ·exact GJ.ride .start h2 (by simpa using h1)
   ·exact GJ.ride (GJ.walk .start (by decide) h1) h2 (by simpa using a)
 |n+1,s,c=>by
  constructor
  ·intro h;cases h with
   |@ride _ w u _ z g _ h d b=>
    rcases k2 h with⟨f,_⟩|e|e
    ·cases f
    ·subst e;exact⟨u,z,u,g,(iP n u z).mp h,.inl ⟨O,by simpa using b⟩,d⟩
    ·subst e;obtain⟨v,i,m,h1,h2,a⟩:=(mO h).2 rfl;rcases a with⟨f,_⟩|a
     ·cases f
     ·exact⟨v,i,u,g,(iP n v i).mp a,.inr ⟨m,h1,by rw[Ps (by decide)]at b;lia⟩,d⟩
  ·rintro⟨r,c2,q,g,h1,h2,a⟩;have j:=(iP n r c2).mpr h1;rcases h2 with⟨rfl,h2⟩|⟨m,h2,p⟩
   ·exact GJ.ride j a (by simpa using h2)
   ·exact GJ.ride (GJ.walk j (by decide) h2) a (by simpa using p)
def By (Y:Sys) (s0:Nat) (t0:Int) (n s:Nat) (y:Int):Prop:=∃w x,GJ Y s0 t0 n w s x/\x<=y
theorem yH:By Y s0 t0 0 s y↔gD Y s0 t0 s y:=by(
constructor
·rintro⟨w,x,h,b⟩;rcases k2 h with⟨_,_,rfl,rfl⟩|e|e
 ·exact .inl ⟨O,b⟩
 ·subst e;cases h
 ·subst e;obtain⟨v,c,m,h1,h2,a⟩:=(mO h).2 rfl;rcases a with⟨_,rfl,rfl⟩|a
  ·exact .inr ⟨m,h1,by lia⟩
  ·cases a
·rintro(⟨rfl,h⟩|⟨m,h1,h2⟩)
 ·exact⟨0,t0,.start,h⟩
 ·exact⟨2,t0+m,.walk .start (by decide) h1,h2⟩)
theorem yG:By Y s0 t0 (n+1) s y↔∃a c2,Rd Y s0 t0 n a c2/\gD Y a c2 s y:=by(
constructor
·rintro⟨w,x,h,g⟩;rcases k2 h with⟨e,_⟩|e|e
 ·cases e
 ·subst e;exact⟨s,x,(iP n s x).mp h,.inl ⟨O,g⟩⟩
 ·subst e;obtain⟨v,d,m,h1,h2,b⟩:=(mO h).2 rfl;rcases b with⟨e,_⟩|b
  ·cases e
  ·exact⟨v,d,(iP n v d).mp b,.inr ⟨m,h1,by lia⟩⟩
·rintro⟨a,c2,h1,h2⟩;have c:=(iP n a c2).mpr h1;rcases h2 with⟨rfl,h2⟩|⟨m,h2,f⟩
 ·exact⟨1,c2,c,h2⟩
 ·exact⟨2,c2+m,.walk c (by decide) h2,f⟩)
theorem FA(n:Nat):By Y.back b (-v) n a (-u)↔By Y a u n b v:=by(
cases n with
|zero=>rw[yH,yH];exact mX
|succ n=>
 rw[yG,yG,Lu (Y:=Y)];constructor
 ·rintro⟨e,c2,h1,h2⟩;refine⟨e,-c2,?_,?_⟩
  ·rw[<- mX,dU];exact h2
  ·rw[<- lx,dU];exact h1
 ·rintro⟨d,c,h1,h2⟩;exact⟨d,-c,(lx n d c).mpr h2,mX.mpr h1⟩)
end
noncomputable def Nt.sys (N:Nt) (goes:Nat->Nat->Int):Sys:=⟨λs g s' c=>∃r i j,r<N.runs.length/\i<j/\j<N.len r/\s=N.stop r i/\g=goes r i/\s'=N.stop r j/\c=N.comes r j,λs g m=>(g,m)∈N.ft s,λs=>N.chg.getD s 0⟩
theorem eo:NJ N goes s0 t0 n w s x↔GJ (N.sys goes) s0 t0 n w s x:=by(
constructor
·intro h
 induction h with
 |start=>exact .start
 |walk _ hw hf a=>exact .walk a hw hf
 |ride _ h1 h2 b c d a=>exact .ride a ⟨_,_,_,h1,h2,b,c.symm,O,O,O⟩ d
·intro h
 induction h with
 |start=>exact .start
 |walk _ hw hf a=>exact .walk a hw hf
 |ride _ k g a=>
  obtain⟨r,i,j,h1,h2,b,c,d,e,f⟩:=k;rw[e,f];exact .ride a h1 h2 b c.symm (by rw[<- d];exact g))
open Sg45 in
def aH (T:t1) (M:Nat):Sys:=⟨λs g s' c=>∃x,x∈v4 T M/\∃i j,i<j/\j<x.2.2.calls.length/\s=x.2.2.stopAt i/\g=x.2.2.goes M x.2.1 i/\s'=x.2.2.stopAt j/\c=x.2.2.comes M x.2.1 j,λs g m=>∃w,w∈T.walks/\w.from_=s/\w.to=g/\m=(w.minutes:Int),λs=>((T.stops.getD s 0:Nat):Int)⟩
theorem zJ:Jn T M ⟨s0,t0,0⟩ n y↔GJ (aH T M) s0 t0 n y.way y.halt y.time:=by(
constructor
·intro h
 induction h with
 |nil=>exact .start
 |walk _ g a=>
  obtain⟨w,b,c,d,rfl⟩:=aM.mp g;exact .walk a d ⟨w,pi b,c,O,O⟩
 |@ride n y z p k i j _ g a=>
  obtain⟨tr,b,c,d,m,o,q,r,rfl⟩:=bQ.mp g;exact .ride a ⟨(p,k,tr),dr.mpr ⟨b,c,d⟩,i,j,m,o,q.symm,O,O,O⟩ (by simpa [chg,aH]using r)
·obtain⟨C,D,E⟩:=y;simp only;intro h
 induction h with
 |start=>exact .nil
 |walk _ hw u a=>
  obtain⟨w,h1,h2,e,f⟩:=u;obtain⟨i,hi⟩:=fW.mp h1;exact Jn.walk a (aM.mpr ⟨w,hi,h2,hw,by rw[e,f]⟩)
 |ride _ x l a=>
  obtain⟨⟨p,k,tr⟩,A,i,j,h1,h2,e,f,s,t⟩:=x;obtain⟨b,c,d⟩:=dr.mp A;exact Jn.ride a (bQ.mpr ⟨tr,b,c,d,h1,h2,e.symm,by rw[f]at l;simpa [chg,aH]using l,by rw[s,t]⟩))
theorem GJ.map(f:∀s g s' c,Y.ride s g s' c->Z.ride s g s' c) (hw:∀s g m,Y.walk s g m->Z.walk s g m) (b:∀s,Y.chg s=Z.chg s) (h:GJ Y s0 t0 n w s x):GJ Z s0 t0 n w s x:=by(
induction h with
|start=>exact .start
|walk _ j d a=>exact .walk a j (hw _ _ _ d)
|ride _ i e a=>exact .ride a (f _ _ _ _ i) (by rw[<- b];exact e))
def dh (Y Z:Sys):Prop:=(∀s g s' c,Y.ride s g s' c↔Z.ride s g s' c)/\(∀s g m,Y.walk s g m↔Z.walk s g m)/\∀s,Y.chg s=Z.chg s
theorem dh.gj(h:dh Y Z) :GJ Y s0 t0 n w s x↔GJ Z s0 t0 n w s x:=
 ⟨GJ.map (λ_ _ _ _=>(h.1 _ _ _ _).mp) (λ_ _ _=>(h.2.1 _ _ _).mp) h.2.2,GJ.map (λ_ _ _ _=>(h.1 _ _ _ _).mpr) (λ_ _ _=>(h.2.1 _ _ _).mpr) λs=>(h.2.2 s).symm⟩
theorem gY:ap T M a t n s x↔∃w,GJ (aH T M) a t n w s x:=by(
unfold ap;constructor
·rintro⟨w,h⟩;exact⟨w,zJ.mp h⟩
·rintro⟨w,h⟩;exact⟨w,zJ.mpr h⟩)
theorem I_(ok:bz N goes) (h0:s0<N.n) (h:NJ N goes s0 t0 n w s x):s<N.n:=by(
induction h with
|start=>exact h0
|walk _ _ hf b=>exact(ok.foot _ _ _ b hf).1
|ride _ h1 _ a _ _ _=>exact ok.eO _ _ h1 a)
theorem iT(ok:bz N goes) (h0:s0<N.n) (b:t0+240<FS) (h:NJ N goes s0 t0 n w s x):x<FS/\(w≠2->x+240<FS):=by(
induction h with
|start=>exact⟨by lia,λ_=>b⟩
|walk h hw hf c=>
 have:=(ok.foot _ _ _ (I_ ok h0 h) hf).2.2;have:=c.2 hw;exact⟨by lia,λq=>absurd rfl q⟩
|ride _ h1 _ a _ _ _=>
 have:=ok.iL _ _ h1 a;exact⟨by lia,λ_=>this⟩)
theorem t_(ok:bz N goes) (same:dh (N.sys goes) (aH T M)) (h:SInv N goes a t k S) (b:S.ae=[]) (d:s<N.n):
  lw (λx=>∃n,ap T M a t n s x) (S.arr.getD s 0)/\(S.arr.getD s 0<FS->eg (λn=>ap T M a t n s (S.arr.getD s 0)) (some (S.rides.getD s 0))):=by(
have e:∀n x,(∃w,NJ N goes a t n w s x)↔ap T M a t n s x:=λn x=>by
 rw[gY];exact⟨λ⟨w,q⟩=>⟨w,same.gj.mp (eo.mp q)⟩,λ⟨w,q⟩=>⟨w,eo.mpr (same.gj.mpr q)⟩⟩
obtain⟨h1,h2⟩:=vj ok h b d;exact⟨h1.congr λx=>⟨λ⟨n,q⟩=>⟨n,(e n x).mp q⟩,λ⟨n,q⟩=>⟨n,(e n x).mpr q⟩⟩,λc=>(h2 c).congr λn=>e n _⟩)
theorem Fz(ok:bz N goes) (same:dh (N.sys goes) (aH T M).back) (h:SInv N goes b (-d) k S) (o:S.ae=[]) (p:a<N.n) (m:b<N.n) (r: -d+240<FS):
  (S.arr.getD a 0<FS->eg (λn=>∃x,ap T M a (-(S.arr.getD a 0)) n b x/\x<=d) (some (S.rides.getD a 0))/\∀v n x,-(S.arr.getD a 0)<v->ap T M a v n b x->d<x)/\
  (¬S.arr.getD a 0<FS->∀v n x,ap T M a v n b x->d<x):=by(
obtain⟨h1,h2⟩:=vj ok h o p;have key:∀(u:Int) (n:Nat),(∃x,ap T M a u n b x/\x<=d)↔∃w x,NJ N goes b (-d) n w a x/\x<= -u:=by
 intro u n;have:=FA (Y:=aH T M) (a:=a) (b:=b) (u:=u) (v:=d) n;constructor
 ·rintro⟨x,q,g⟩;obtain⟨w,q⟩:=gY.mp q;obtain⟨j,f,e,i⟩:=this.mpr ⟨w,x,q,g⟩;exact⟨j,f,eo.mpr (same.gj.mpr e),i⟩
 ·rintro⟨j,f,e,i⟩;obtain⟨w,x,q,g⟩:=this.mp ⟨j,f,same.gj.mp (eo.mp e),i⟩;exact⟨x,gY.mpr ⟨w,q⟩,g⟩
refine⟨λl=>⟨(h2 l).congr λn=>?_,λv n x hv q=>?_⟩,λl v n x q=>?_⟩
·rw[key];constructor
 ·rintro⟨w,q⟩;exact⟨w,_,q,by lia⟩
 ·rintro⟨w,x,q,g⟩;have:=h1.2 x ⟨n,w,q⟩;rw[show x=S.arr.getD a 0 by lia]at q;exact⟨w,q⟩
·by_cases c:x<=d
 ·obtain⟨w,f,e,g⟩:=(key v n).mp ⟨x,q,c⟩;have:=h1.2 f ⟨n,w,e⟩;lia
 ·lia
·by_cases c:x<=d
 ·obtain⟨w,f,e,g⟩:=(key v n).mp ⟨x,q,c⟩;have:=h1.2 f ⟨n,w,e⟩;have:=(iT ok m r e).1;lia
 ·lia)
end Tw
namespace Tw
abbrev aQ:=List Nat×List Int×List Int
abbrev Wk:=Nat×Nat×Int
def p9 (R:List aQ) (W:List Wk) (c:Nat->Int):Sys:=⟨λs g s' k=>∃x,x∈R/\∃i j,i<j/\j<x.1.length/\s=x.1.getD i 0/\g=x.2.2.getD i 0/\s'=x.1.getD j 0/\k=x.2.1.getD j 0,λs g m=>(s,g,m)∈W,c⟩
structure my (n:Nat) (R:List aQ):Prop where
 pos:∀x,x∈R->0<x.1.length
 comes:∀x,x∈R->x.2.1.length=x.1.length
 goes:∀x,x∈R->x.2.2.length=x.1.length
 stops:∀x,x∈R->∀s,s∈x.1->s<n
 FC:∀x,x∈R->∀c,c∈x.2.1->c+240<FS
 G5:∀x,x∈R->∀g,g∈x.2.2->g<FS
noncomputable def f0 (R:List aQ) (r i:Nat):Int:=(R.getD r ([],[],[])).2.2.getD i 0
noncomputable def ey (r:Nat) (x:aQ):List (Nat×on):=(s4 (x.1.length-1)).map λi=>(x.1.getD i 0,x.2.2.getD i 0,r,i)
noncomputable def ei (R:List aQ):List (Nat×on):=R.zipIdx.flatMap λx=>ey x.2 x.1
noncomputable def jI (R:List aQ) (s:Nat):List on:=((ei R).filter λd=>d.1==s).map (·.2)
noncomputable def dm (W:List Wk) (s:Nat):List (Nat×Int×Nat):=(W.zipIdx.filter λw=>w.1.1==s).map λw=>(w.1.2.1,w.1.2.2,w.2)
def iM (a b:on):Prop:=a.1<b.1\/(a.1=b.1/\(a.2.1<b.2.1\/(a.2.1=b.2.1/\a.2.2<=b.2.2)))
structure ss (a:List Int) (R:List aQ) (gt:List (Nat×Int)) (W:List Wk) (N:Nt):Prop where
 chg:N.chg=a
 aZ:N.aZ=gt
 runs:N.runs=R.map λx=>(x.1,x.2.1)
 hI:N.af.length=a.length
 mM:N.foot.length=a.length
 perm:∀s,s<a.length->(N.af.getD s []).Perm (jI R s)
 sorted:∀s,s<a.length->(N.af.getD s []).Pairwise iM
 foot:∀s,s<a.length->N.foot.getD s []=dm W s
theorem Ac:(g,r,i)∈jI R s↔∃x,R[r]?=some x/\i+1<x.1.length/\x.1.getD i 0=s/\g=x.2.2.getD i 0:=by(
unfold jI ei ey;simp only[mo,f5,fk,gu,bS];constructor
·rintro⟨⟨u,d⟩,⟨⟨⟨x,t⟩,q,k,p,e⟩,a⟩,b⟩;simp only at a b e p;injection e with c f;subst b;injection f with h j;injection j with l m;subst l m;exact⟨x,ih.mp q,by lia,by rw[c];exact a,h.symm⟩
·rintro⟨x,h1,h2,n,o⟩;exact⟨(s,g,r,i),⟨⟨(x,r),ih.mpr h1,i,by simp only;lia,by rw[n,o]⟩,O⟩,O⟩)
theorem uz:(g,m,q)∈dm W s↔W[q]?=some (s,g,m):=by(
unfold dm;simp only[mo,f5,gu];constructor
·rintro⟨⟨⟨a,b,c⟩,d⟩,⟨h1,h2⟩,f⟩;simp only at h2 f;injection f with i e;injection e with e j;subst h2 i e j;exact ih.mp h1
·intro h;exact⟨((s,g,m),q),⟨ih.mpr h,O⟩,O⟩)
section
variable {chg:List Int}{R:List aQ}{gt:List (Nat×Int)}{W:List Wk}{N:Nt}
theorem ss.n (h:ss chg R gt W N):N.n=chg.length:=by unfold Nt.n;rw[h.chg]
theorem ss.e9 (h:ss chg R gt W N):N.runs.length=R.length:=by rw[h.runs,FM]
theorem ss.run (h:ss chg R gt W N) (r:Nat):N.runs.getD r ([],[])=((R.getD r ([],[],[])).1,(R.getD r ([],[],[])).2.1):=by
 rw[h.runs];simp only[np,pr];cases R[r]?<;>rfl
theorem ss.len (h:ss chg R gt W N) (r:Nat):N.len r=(R.getD r ([],[],[])).1.length:=by unfold Nt.len;rw[h.run]
theorem ss.stop (h:ss chg R gt W N) (r i:Nat):N.stop r i=(R.getD r ([],[],[])).1.getD i 0:=by unfold Nt.stop;rw[h.run]
theorem ss.comes (h:ss chg R gt W N) (r i:Nat):N.comes r i=(R.getD r ([],[],[])).2.1.getD i 0:=by unfold Nt.comes;rw[h.run]
theorem getD_some{a:Type}{l:List a}(h:i<l.length) (d:a):l[i]?=some (l.getD i d):=by
 rw[np,g1 h];rfl
theorem ss.uA(h:ss chg R gt W N) (f:s<chg.length):(g,m)∈N.ft s↔(s,g,m)∈W:=by(
unfold Nt.ft;rw[h.foot s f,mo];constructor
·rintro⟨⟨a,b,c⟩,h1,h2⟩;injection h2 with d e;simp only at d e;subst d e;exact pi (uz.mp h1)
·intro q;obtain⟨i,hi⟩:=fW.mp q;exact⟨(g,m,i),uz.mpr hi,O⟩)
theorem ss.ok (h:ss chg R gt W N) (f:my chg.length R) (o:∀c,c∈chg->0<=c/\c<=240) (l:∀s g m,(s,g,m)∈W->g<chg.length/\0<=m/\m<=240):bz N (f0 R):=by(
have hm:∀r,r<N.runs.length->R.getD r ([],[],[])∈R:=λr d=>getD_mem (by rw[<- h.e9];exact d) _;refine {hI:=by rw[h.n];exact h.hI,mM:=by rw[h.n];exact h.mM,sorted:=λs e=>(h.sorted s (by rw[<- h.n];exact e)).imp (λ{a b} q=>by unfold iM at q;lia),af:=λs e g r i=>?_,eO:=λr i d hi=>?_,iL:=λr i d hi=>?_,k4:=λr i d hi=>?_,mW:=λr d=>?_,chg:=λs e=>?_,foot:=λs g m e hm=>?_}
·rw[(h.perm s (by rw[<- h.n];exact e)).mem_iff,Ac,h.e9,h.len,h.stop];constructor
 ·rintro⟨x,h1,h2,j,k⟩;have d:r<R.length:=(aD.mp h1).1;have:x=R.getD r ([],[],[]):=by rw[getD_some d ([],[],[])]at h1;exact(b3 h1).symm
  subst this;exact⟨d,h2,j,k⟩
 ·rintro⟨h1,h2,j,k⟩;exact⟨_,getD_some h1 _,h2,j,k⟩
·rw[h.stop,h.n];rw[h.len]at hi;exact f.stops _ (hm r d) _ (getD_mem hi _)
·rw[h.comes];rw[h.len]at hi;exact f.FC _ (hm r d) _ (getD_mem (by rw[f.comes _ (hm r d)];exact hi) _)
·rw[h.len]at hi;exact f.G5 _ (hm r d) _ (getD_mem (by rw[f.goes _ (hm r d)];exact hi) _)
·rw[h.len];exact f.pos _ (hm r d)
·rw[h.chg];exact o _ (getD_mem (by rw[<- h.n];exact e) _)
·rw[h.n]at e⊢;rw[h.uA e]at hm;exact l s g m hm)
theorem ss.sys (h:ss chg R gt W N) (l:∀s g m,(s,g,m)∈W->s<chg.length):dh (N.sys (f0 R)) (p9 R W λs=>chg.getD s 0):=by(
refine⟨λs g s' c=>?_,λs g m=>?_,λs=>by show N.chg.getD s 0=chg.getD s 0;rw[h.chg]⟩
·constructor
 ·rintro⟨r,i,j,h1,h2,a,b,f,d,e⟩;rw[h.len]at a;rw[h.stop]at b d;rw[h.comes]at e;exact⟨_,getD_mem (by rw[<- h.e9];exact h1) _,i,j,h2,a,b,f,d,e⟩
 ·rintro⟨x,o,i,j,h2,a,b,f,d,e⟩;obtain⟨r,n,rfl⟩:=mem_getD o ([],[],[]);exact⟨r,i,j,by rw[h.e9];exact n,h2,by rw[h.len];exact a,by rw[h.stop];exact b,f,by rw[h.stop];exact d,by rw[h.comes];exact e⟩
·show(g,m)∈N.ft s↔(s,g,m)∈W;by_cases k:s<chg.length
 ·exact h.uA k
 ·constructor
  ·intro q;unfold Nt.ft at q;rw[np,sU.mpr (by rw[h.mM];lia)]at q;simp at q
  ·intro q;exact absurd (l s g m q) k)
end
open Sg45
noncomputable def aO (M:Nat) (k:Int) (p:bu):aQ:=(p.calls.map (·.halt),(s4 p.calls.length).map (p.comes M k),(s4 p.calls.length).map (p.goes M k))
noncomputable def wT (T:t1) (M:Nat):List aQ:=(v4 T M).map λy=>aO M y.2.1 y.2.2
noncomputable def lm (T:t1) (M:Nat):List (Nat×Int):=(v4 T M).map λy=>(y.1,y.2.1)
noncomputable def ol (T:t1):List Wk:=T.walks.map λw=>(w.from_,w.to,(w.minutes:Int))
noncomputable def up (T:t1):List Int:=T.stops.map λ(c:Nat)=>(c:Int)
noncomputable def ut (x:aQ):aQ:=(x.1.reverse,x.2.2.reverse.map (λg=> -g),x.2.1.reverse.map λc=> -c)
def bD (w:Wk):Wk:=(w.2.1,w.1,w.2.2)
theorem pE:x∈wT T M↔∃y,y∈v4 T M/\x=aO M y.2.1 y.2.2:=by
 unfold wT;rw[mo];exact⟨λ⟨y,h1,h2⟩=>⟨y,h1,h2.symm⟩,λ⟨y,h1,h2⟩=>⟨y,h1,h2.symm⟩⟩
theorem range_getD(h:i<n) (d:Int):((s4 n).map f).getD i d=f i:=by
 simp[np,pr,gy h]
theorem jO (p:bu) (i:Nat):(p.calls.map (·.halt)).getD i 0=p.stopAt i:=by
 unfold Ey;simp only[np,pr];cases p.calls[i]?<;>rfl
theorem yQ (T:t1) (s:Nat):(up T).getD s 0=((T.stops.getD s 0:Nat):Int):=by
 unfold up;simp only[np,pr];cases T.stops[s]?<;>rfl
theorem zm (T:t1) (M:Nat):dh (p9 (wT T M) (ol T) λs=>(up T).getD s 0) (aH T M):=by(
refine⟨λs g s' c=>?_,λs g m=>?_,λs=>yQ T s⟩
·constructor
 ·rintro⟨x,o,i,j,h1,h2,b,d,f,h⟩;obtain⟨y,n,rfl⟩:=pE.mp o;simp only[aO,FM]at h2 b d f h;rw[jO]at b f;rw[range_getD (by lia)]at d;rw[range_getD h2]at h;exact⟨y,n,i,j,h1,h2,b,d,f,h⟩
 ·rintro⟨y,n,i,j,h1,h2,b,d,f,h⟩;refine⟨_,pE.mpr ⟨y,n,O⟩,i,j,h1,by simpa [aO]using h2,?_,?_,?_,?_⟩
  ·simp only[aO];rw[jO];exact b
  ·simp only[aO];rw[range_getD (by lia)];exact d
  ·simp only[aO];rw[jO];exact f
  ·simp only[aO];rw[range_getD h2];exact h
·show(s,g,m)∈ol T↔_;unfold ol;rw[mo];constructor
 ·rintro⟨w,hw,e⟩;injection e with k a;injection a with a l;exact⟨w,hw,k,a,l.symm⟩
 ·rintro⟨w,hw,k,a,l⟩;exact⟨w,hw,by rw[k,a,l]⟩)
theorem rev_getD{a:Type}{l:List a}(h:i<l.length) (d:a):l.reverse.getD i d=l.getD (l.length-1-i) d:=by
 rw[np,np,Cp h]
theorem pK{l:List Int}(h:i<l.length):(l.map λx=> -x).getD i 0= -(l.getD i 0):=by
 simp only[np,pr,g1 h];rfl
theorem Bb(h:i<j) (g:j<n):n-1-j<n-1-i:=by lia
theorem hU(g:j<n):n-1-j<n:=by lia
theorem ny(g:j<n):n-1-(n-1-j)=j:=by lia
theorem Fn(u:my n R):dh (p9 (R.map ut) (W.map bD) c) (p9 R W c).back:=by(
refine⟨λs g s' k=>?_,λs g m=>?_,λs=>rfl⟩
·show(∃x,x∈R.map ut/\_)↔(∃x,x∈R/\_);constructor
 ·rintro⟨x,A,i,j,h1,h2,f,r,l,t⟩;obtain⟨y,d,rfl⟩:=mo.mp A;have o:=u.comes y d;have p:=u.goes y d;simp only[ut,fh]at h2 f r l t;rw[pK (by rw[fh];lia),rev_getD (by lia)]at r t;rw[rev_getD (by lia)]at f l;rw[o]at r;rw[p]at t;exact⟨y,d,y.1.length-1-j,y.1.length-1-i,Bb h1 h2,hU (jd h1 h2),l,by lia,f,by lia⟩
 ·rintro⟨y,d,i,j,h1,h2,f,r,l,t⟩;have o:=u.comes y d;have p:=u.goes y d;refine⟨ut y,mo.mpr ⟨y,d,O⟩,y.1.length-1-j,y.1.length-1-i,Bb h1 h2,by simp only[ut,fh];exact hU (jd h1 h2),?_,?_,?_,?_⟩
  ·simp only[ut];rw[rev_getD (hU h2),ny h2];exact l
  ·simp only[ut];rw[pK (by rw[fh,o];exact hU h2),rev_getD (by rw[o];exact hU h2),o,ny h2];lia
  ·simp only[ut];rw[rev_getD (hU (jd h1 h2)),ny (jd h1 h2)];exact f
  ·simp only[ut];rw[pK (by rw[fh,p];exact hU (jd h1 h2)),rev_getD (by rw[p];exact hU (jd h1 h2)),p,ny (jd h1 h2)];lia
·show(s,g,m)∈W.map bD↔(g,s,m)∈W;rw[mo];constructor
 ·rintro⟨⟨a,b,C⟩,hw,e⟩;injection e with w q;injection q with q z;simp only at w q z;subst w q z;exact hw
 ·intro h;exact⟨(g,s,m),h,O⟩)
theorem dh.trans(h:dh X Y) (h':dh Y Z):dh X Z:=
 ⟨λs g s' c=>(h.1 s g s' c).trans (h'.1 s g s' c),λs g m=>(h.2.1 s g m).trans (h'.2.1 s g m),λs=>(h.2.2 s).trans (h'.2.2 s)⟩
theorem dh.back(h:dh X Y):dh X.back Y.back:=
 ⟨λs g s' c=>h.1 s' (-c) s (-g),λs g m=>h.2.1 g s m,λs=>h.2.2 s⟩
structure bm (T:t1):Prop where
 right:bw T
 chg:∀c,c∈T.stops->c<=120
 two:∀p,p∈T.trips->2<=p.calls.length
 walks:∀w,w∈T.walks->w.minutes<=240
 late:∀p,p∈T.trips->p.late.length=7/\∀x,x∈p.late->x.1<=63/\x.2<=240
theorem Ij(hT:bm T) (a:p∈T.trips) (M:Nat) (k:Int):(p.lateOn M k).2<=240:=by(
unfold xX;rw[np];cases e:p.late[fU M k]? with
|none=>exact f4 _
|some x=>exact((hT.late p a).2 x (pi e)).2)
theorem lL(hT:bm T) (a:p∈T.trips) (M:Nat) (c: -1<=k/\k<=1) (hi:i<p.calls.length): -1440<=p.comes M k i/\p.comes M k i<4560/\ -1440<=p.goes M k i/\p.goes M k i<4560:=by(
have h1:=hT.right.1 p a;simp only[eW,ev,hp,dL]at h1;have h2:=h1.1 _ (eX hi);have b:=Ij hT a M k;have e:p.calls.getD i ⟨0,0,0⟩=p.calls[i]:=by rw[np,g1 hi];rfl
unfold xY xZ;rw[e];refine⟨?_,?_,?_,?_⟩<;>(split<;>lia))
theorem j5(hT:bm T) (M:Nat):my T.stops.length (wT T M):=by(
have key:∀x,x∈wT T M->∃k p,p∈T.trips/\(-1<=k/\k<=1)/\x=aO M k p:=by
 intro x a;obtain⟨⟨n,k,p⟩,j,rfl⟩:=pE.mp a;obtain⟨h1,h2,l⟩:=dr.mp j;exact⟨k,p,pi h1,h2,O⟩
refine⟨λx a=>?_,λx a=>?_,λx a=>?_,λx a s h=>?_,λx a c d=>?_,λx a g hg=>?_⟩
all_goals obtain⟨k,p,b,f,rfl⟩:=key x a
·have:=hT.two p b;simp only[aO,FM];lia
·simp[aO]
·simp[aO]
·obtain⟨i,hi,e⟩:=mem_getD h 0;simp only[aO,FM]at hi e;rw[jO]at e;rw[<- e];exact u7 hT.right b i hi
·simp only[aO,mo,bS]at d;obtain⟨i,hi,rfl⟩:=d;have:=lL hT b M f hi;unfold FS;lia
·simp only[aO,mo,bS]at hg;obtain⟨i,hi,rfl⟩:=hg;have:=lL hT b M f hi;unfold FS;lia)
theorem yp(hT:bm T) (M:Nat):my T.stops.length ((wT T M).map ut):=by(
have ok:=j5 hT M;have key:∀x,x∈wT T M->∃k p,p∈T.trips/\(-1<=k/\k<=1)/\x=aO M k p:=by
 intro x a;obtain⟨⟨n,k,p⟩,b,rfl⟩:=pE.mp a;obtain⟨h1,h2,j⟩:=dr.mp b;exact⟨k,p,pi h1,h2,O⟩
refine⟨λx a=>?_,λx a=>?_,λx a=>?_,λx a s h=>?_,λx a c d=>?_,λx a g hg=>?_⟩
all_goals obtain⟨y,b,rfl⟩:=mo.mp a
·simpa [ut]using ok.pos y b
·simpa [ut]using ok.goes y b
·simpa [ut]using ok.comes y b
·exact ok.stops y b s (by simpa [ut]using h)
·simp only[ut,mo,wo]at d;obtain⟨g,hg,rfl⟩:=d;obtain⟨k,p,f,e,rfl⟩:=key y b;simp only[aO,mo,bS]at hg;obtain⟨i,hi,rfl⟩:=hg;have:=lL hT f M e hi;unfold FS;lia
·simp only[ut,mo,wo]at hg;obtain⟨c,d,rfl⟩:=hg;obtain⟨k,p,f,e,rfl⟩:=key y b;simp only[aO,mo,bS]at d;obtain⟨i,hi,rfl⟩:=d;have:=lL hT f M e hi;unfold FS;lia)
theorem kh(hT:bm T):∀s g m,(s,g,m)∈ol T->s<(up T).length/\g<(up T).length/\0<=m/\m<=240:=by
 intro s g m h;unfold ol at h;obtain⟨w,hw,e⟩:=mo.mp h;injection e with b a;injection a with a c;subst b a c;have h1:=hT.right.2 w hw;have h2:=hT.walks w hw;simp only[up,FM];lia
theorem yP(hT:bm T):∀c,c∈up T->0<=c/\c<=240:=by
 intro c h;obtain⟨x,a,rfl⟩:=mo.mp h;have:=hT.chg x a;lia
theorem dF(hT:bm T) (h:ss (up T) (wT T M) (lm T M) (ol T) N):bz N (f0 (wT T M))/\dh (N.sys (f0 (wT T M))) (aH T M)/\N.n=T.stops.length:=by
 refine⟨h.ok (by rw[show(up T).length=T.stops.length by simp[up]];exact j5 hT M) (yP hT) (λs g m q=>(kh hT s g m q).2),(h.sys λs g m q=>(kh hT s g m q).1).trans (zm T M),?_⟩;rw[h.n];simp[up]
theorem jE(hT:bm T) (h:ss (up T) ((wT T M).map ut) (lm T M) ((ol T).map bD) N):bz N (f0 ((wT T M).map ut))/\dh (N.sys (f0 ((wT T M).map ut))) (aH T M).back/\N.n=T.stops.length:=by(
have hw:∀s g m,(s,g,m)∈(ol T).map bD->s<(up T).length/\g<(up T).length/\0<=m/\m<=240:=by
 intro s g m q;obtain⟨⟨a,b,c⟩,hw,e⟩:=mo.mp q;injection e with f d;injection d with d i;simp only at f d i;subst f d i;have:=kh hT _ _ _ hw;lia
refine⟨h.ok (by rw[show(up T).length=T.stops.length by simp[up]];exact yp hT M) (yP hT) (λs g m q=>(hw s g m q).2),(h.sys λs g m q=>(hw s g m q).1).trans ((Fn (j5 hT M)).trans (zm T M).back),?_⟩;rw[h.n];simp[up])
theorem y7(hT:bm T) (g:ss (up T) (wT T M) (lm T M) (ol T) N) (c:a<T.stops.length) (d:b<T.stops.length) (h:SInv N (f0 (wT T M)) a t k S) (i:S.ae=[]) (j:t+240<FS):
  (S.arr.getD b 0=FS->jc T M a b t=none)/\(S.arr.getD b 0≠FS->jc T M a b t=some (S.arr.getD b 0,S.rides.getD b 0)):=by(
obtain⟨ok,same,f⟩:=dF hT g;obtain⟨h1,h2⟩:=t_ ok same h i (s:=b) (by rw[f];exact d);have lt:∀x,(∃n,ap T M a t n b x)->x<FS:=by
 rintro x ⟨n,q⟩;obtain⟨w,q⟩:=gY.mp q;exact(iT ok (by rw[f];exact c) j (eo.mpr (same.gj.mpr q))).1
have m:=h1.minOf lt;refine⟨λe=>?_,λe=>?_⟩
·rw[No e]at m;exact F9 hT.right c d m
·rw[Ps e]at m;exact F_ hT.right c d m (h2 (lt _ m.1)))
theorem Io(hT:bm T) (l:ss (up T) ((wT T M).map ut) (lm T M) ((ol T).map bD) N) (c:a<T.stops.length) (d:b<T.stops.length) (h:SInv N (f0 ((wT T M).map ut)) b (-g) k S) (i:S.ae=[]) (j: -g+240<FS):
  (S.arr.getD a 0=FS->l1 T M a b g=none)/\(S.arr.getD a 0≠FS->l1 T M a b g=some (-(S.arr.getD a 0),S.rides.getD a 0)):=by(
obtain⟨ok,same,f⟩:=jE hT l;obtain⟨h1,h2⟩:=Fz ok same h i (a:=a) (by rw[f];exact c) (by rw[f];exact d) j;refine⟨λe=>Il hT.right c d (h2 (by rw[e];lia)),λe=>?_⟩;have lt:S.arr.getD a 0<FS:=by
 obtain⟨q,_⟩:=vj ok h i (s:=a) (by rw[f];exact c);rcases q.1 with⟨n,w,q⟩|q
 ·exact(iT ok (by rw[f];exact d) j q).1
 ·exact absurd q e
obtain⟨m,o⟩:=h1 lt;exact Im hT.right c d m o)
end Tw
namespace Tw
open Sg45
theorem FH(h:jj f3 f l=some i):(l=[]/\i=[])\/
  ∃p n k r xs t a o,l=p::r/\f3 p=some (n,k)/\n<=r.length/\oj k (r.drop n)=some (xs,t)/\i=((p::r.take n)::xs)::a/\jj f3 o t=some a:=by(
match f,l,h with
|0,[],h=>exact .inl ⟨O,(b3 h).symm⟩
|f+1,[],h=>exact .inl ⟨O,(b3 h).symm⟩
|0,_::_,h=>simp[jj]at h
|f+1,p::r,h=>
 simp only[jj]at h;cases e:Ej f3 (p::r)with
 |none=>rw[e]at h;cases h
 |some ct=>
  obtain⟨c,t⟩:=ct;rw[e]at h;simp only at h;cases b:jj f3 f t with
  |none=>rw[b]at h;cases h
  |some a=>
   rw[b]at h;simp only[hk]at h;simp only[Ej]at e;cases d:f3 p with
   |none=>rw[d]at e;cases e
   |some q=>
    obtain⟨n,k⟩:=q;rw[d]at e;simp only at e;split at e
    ·cases e
    ·rename_i u;cases g:oj k (r.drop n)with
     |none=>rw[g]at e;cases e
     |some s=>
      obtain⟨xs,t'⟩:=s;rw[g]at e;simp only[hk,oo]at e;obtain⟨j,m⟩:=e;subst m;exact .inr ⟨p,n,k,r,xs,t',a,f,O,d,by lia,g,by rw[<- h,<-j],b⟩)
theorem Bo(h:f3 p=some (n,k)):(p=1/\n=1/\k=0)\/(p=2/\n=1/\k=1)\/(p=3/\n=3/\k=0)\/(p=4/\n=4/\k=0)\/(p=5/\n=4/\k=0)\/(p=6/\n=4/\k=0)\/(p=7/\n=5/\k=0)\/(p=8/\n=6/\k=0)\/(p=9/\n=4/\k=0)\/(p=10/\n=5/\k=0)\/(p=11/\n=4/\k=0):=by(
unfold f3 at h;by_cases a:p=1
·rw[No a]at h;injection h with h;injection h with h1 h2;exact .inl ⟨a,h1.symm,h2.symm⟩
rw[Ps a]at h;by_cases d:p=2
·rw[No d]at h;injection h with h;injection h with h1 h2;exact .inr (.inl ⟨d,h1.symm,h2.symm⟩)
rw[Ps d]at h;by_cases e:p=3
·rw[No e]at h;injection h with h;injection h with h1 h2;exact .inr (.inr (.inl ⟨e,h1.symm,h2.symm⟩))
rw[Ps e]at h;by_cases f:p=4
·rw[No f]at h;injection h with h;injection h with h1 h2;exact .inr (.inr (.inr (.inl ⟨f,h1.symm,h2.symm⟩)))
rw[Ps f]at h;by_cases g:p=5
·rw[No g]at h;injection h with h;injection h with h1 h2;exact .inr (.inr (.inr (.inr (.inl ⟨g,h1.symm,h2.symm⟩))))
rw[Ps g]at h;by_cases i:p=6
·rw[No i]at h;injection h with h;injection h with h1 h2;exact .inr (.inr (.inr (.inr (.inr (.inl ⟨i,h1.symm,h2.symm⟩)))))
rw[Ps i]at h;by_cases j:p=7
·rw[No j]at h;injection h with h;injection h with h1 h2;exact .inr (.inr (.inr (.inr (.inr (.inr (.inl ⟨j,h1.symm,h2.symm⟩))))))
rw[Ps j]at h;by_cases l:p=8
·rw[No l]at h;injection h with h;injection h with h1 h2;exact .inr (.inr (.inr (.inr (.inr (.inr (.inr (.inl ⟨l,h1.symm,h2.symm⟩)))))))
rw[Ps l]at h;by_cases m:p=9
·rw[No m]at h;injection h with h;injection h with h1 h2;exact .inr (.inr (.inr (.inr (.inr (.inr (.inr (.inr (.inl ⟨m,h1.symm,h2.symm⟩))))))))
rw[Ps m]at h;by_cases b:p=10
·rw[No b]at h;injection h with h;injection h with h1 h2;exact .inr (.inr (.inr (.inr (.inr (.inr (.inr (.inr (.inr (.inl ⟨b,h1.symm,h2.symm⟩)))))))))
rw[Ps b]at h;by_cases c:p=11
·rw[No c]at h;injection h with h;injection h with h1 h2;exact .inr (.inr (.inr (.inr (.inr (.inr (.inr (.inr (.inr (.inr ⟨c,h1.symm,h2.symm⟩)))))))))
rw[Ps c]at h;cases h)
theorem A7(h:oj 1 l=some (xs,t)):∃(m:Nat) (r:List Int),l=(m:Int)::r/\m<=r.length/\xs=[r.take m]/\t=r.drop m:=by(
simp only[oj]at h;cases l with
|nil=>simp[El]at h
|cons m r=>
 simp only[El]at h;split at h
 ·cases h
 ·rename_i x s e;split at e
  ·rename_i hm;simp only[hk,oo]at e h;refine⟨m.toNat,r,by rw[fi hm.1],hm.2,?_,?_⟩
   ·rw[<- h.1,<-e.1]
   ·rw[<- h.2,<-e.2]
  ·cases e)
theorem A8(h:oj 0 l=some (xs,t)):xs=[]/\t=l:=by
 injection h with h;injection h with h1 h2;exact⟨h1.symm,h2.symm⟩
def lJ (T:t1) (a:List (List (List Int))):List Int:=Ek (Ei l4 T a)
theorem MV (T:t1):lJ T []=[]:=rfl
theorem BM (T:t1) (c:List (List Int)) (a:List (List (List Int))):lJ T (c::a)=(((l4 T c).2.length:Int)::(l4 T c).2)++lJ (l4 T c).1 a:=by
 simp[lJ,Ek,Ei]
theorem Ff(h:xF l=true):∃f a,jj f3 f l=some a/\sQ l=lJ eb (a.map l7)/\(∀c,c∈a->xu (l7 c)=true)/\a.length<=300:=by(
unfold xF at h;unfold sQ;unfold PySg45.calls at h⊢;cases e:jj f3 l.length l with
|none=>rw[e]at h;simp at h
|some a=>
 rw[e]at h;simp only[ev]at h;refine⟨_,a,e,O,λc b=>?_,by simpa [PyFlat.atMost]using h.1⟩;have h2:=h.2;unfold Oc at h2;simp only[ev,hp]at h2;exact h2.1.1 _ (mo.mpr ⟨c,b,O⟩))
theorem yM:∀l:List Nat,(fV l).length=l.length/3
 |[]=>rfl
 |[_]=>by show 0=1/3;rfl
 |[_,_]=>by show 0=2/3;rfl
 |a::b::c::l=>by
  show(fV l).length+1=(l.length+3)/3;rw[yM l];lia
theorem FG(h:T.stops.length<=U.stops.length) (b:eW T l=true):eW U l=true:=by
 simp only[eW,ev,hp,dL]at b⊢;exact⟨λa c=>⟨c_ (b.1 a c).1 h,(b.1 a c).2⟩,b.2⟩
theorem F':bm eb:=
 ⟨⟨λp a=>by simp[eb]at a,λw hw=>by simp[eb]at hw⟩,λc b=>by simp[eb]at b,λp a=>by simp[eb]at a,λw hw=>by simp[eb]at hw,λp a=>by simp[eb]at a⟩
theorem Nm:within n a b=true↔a<=n/\n<=b:=by simp[within]
theorem MA(h:bm T) (a:within c 0 120=true):bm {T with stops:=T.stops++[c.toNat]}:=by(
rw[Nm]at a;refine⟨⟨λp b=>FG (by simp) (h.right.1 p b),λw hw=>?_⟩,λx d=>?_,h.two,h.walks,h.late⟩
·have:=h.right.2 w hw;simp only[ls,bK];lia
·rcases cs.mp d with q|q
 ·exact h.chg x q
 ·simp at q;subst q;lia)
theorem MX(h:bm T) (h2:2<=l.length) (b:eW T l=true):bm {T with trips:=T.trips++[⟨d,l,f8 7 (0,0)⟩]}:=by(
refine⟨⟨λp a=>?_,h.right.2⟩,h.chg,λp a=>?_,h.walks,λp a=>?_⟩
all_goals rcases cs.mp a with q|q
·exact h.right.1 p q
·simp at q;subst q;exact b
·exact h.two p q
·simp at q;subst q;exact h2
·exact h.late p q
·simp at q;subst q;refine⟨by simp,λx c=>?_⟩;have e:x=(0,0):=by simpa using c
 rw[e];exact⟨f4 _,f4 _⟩)
theorem Ng(h:bm T) (c:a<T.stops.length) (d:b<T.stops.length) (hm:m<=240):bm {T with walks:=T.walks++[⟨a,b,m⟩]}:=by(
refine⟨⟨h.right.1,λw hw=>?_⟩,h.chg,h.two,λw hw=>?_,h.late⟩
all_goals rcases cs.mp hw with q|q
·exact h.right.2 w q
·simp at q;subst q;exact⟨c,d⟩
·exact h.walks w q
·simp at q;subst q;exact hm)
theorem Ik(h:bm T) (hi:i<=63) (hm:m<=240):bm {T with trips:=T.trips.mapIdx λk x=>if k=n then {x with late:=x.late.set d (i,m)}else x}:=by(
have key:∀p,p∈T.trips.mapIdx (λk x=>if k=n then {x with late:=x.late.set d (i,m)}else x)->∃q,q∈T.trips/\p.calls=q.calls/\(p.late=q.late\/p.late=q.late.set d (i,m)):=by
 intro p a;rw[CD]at a;obtain⟨k,l,rfl⟩:=a;refine⟨T.trips[k],eX l,?_,?_⟩
 ·split<;>rfl
 ·split
  ·exact .inr rfl
  ·exact .inl rfl
refine⟨⟨λp a=>?_,h.right.2⟩,h.chg,λp a=>?_,h.walks,λp a=>?_⟩
all_goals obtain⟨q,e,f,b⟩:=key p a
·rw[f];exact h.right.1 q e
·rw[f];exact h.two q e
·obtain⟨g,j⟩:=h.late q e;rcases b with b|b
 ·rw[b];exact⟨g,j⟩
 ·rw[b];refine⟨by simp[g],λx c=>?_⟩;rcases List.mem_or_eq_of_mem_set c with c|c
  ·exact j x c
  ·rw[c];exact⟨hi,hm⟩)
theorem Bv (y:Option Int):∀(n k:Nat),dO y k (f8 n y)=[]
 |0,_=>rfl
 |n+1,k=>by
  rw[jk];show(match y with|some z=>if y=y then []else [[((k:Nat):Int),z]]|none=>[])++dO y (k+1) (f8 n y)=[];rw[Bv y n (k+1)];cases y<;>simp
theorem Bu:∀(l m:List (Option Int)) (x:Option Int) (k:Nat),dO x k (l++m)=dO x k l++dO (l.getLast?.getD x) (k+l.length) m
 |[],m,x,k=>by simp[dO]
 |c::l,m,x,k=>by
  show _++dO c (k+1) (l++m)=(_++dO c (k+1) l)++_;rw[Bu l m c (k+1),dv]
  congr 2
  rw[bt,show k+1+l.length=k+(l.length+1) by lia]
  congr 1
  cases l with
  |nil=>rfl
  |cons d l=>
   rw[List.getLast?_cons_cons];cases e:(d::l).getLast? with
   |none=>rw[List.getLast?_eq_none_iff]at e;cases e
   |some z=>rfl
theorem zY:∀(l:List (Option Int)) (m:Option Int) (P:Int->Prop) (Q:Nat->Int->Prop),ce P m->(∀n x,l[n]?=some x->ce (Q n) x)->∀k x,(eK m l)[k]?=some x->ce (λz=>P z\/∃n,n<=k/\Q n z) x
 |[],m,P,Q,_,_,k,x,h=>by simp[eK]at h
 |y::l,m,P,Q,hm,b,k,x,h=>by
  have h0:ce (Q 0) y:=b 0 y rfl;cases k with
  |zero=>
   simp only[eK,oy,hk]at h;subst h;exact(hm.less h0).congr λz=>⟨λq=>q.imp id λq=>⟨0,tz _,q⟩,λq=>q.imp id λ⟨n,a,q⟩=>by rw[show n=0 by lia]at q;exact q⟩
  |succ k=>
   simp only[eK,x3]at h;refine(zY l _ _ (λn=>Q (n+1)) (hm.less h0) (λn z hz=>b (n+1) z (by simpa using hz)) k x h).congr λz=>?_;constructor
   ·rintro((q|q)|⟨n,a,q⟩)
    ·exact .inl q
    ·exact .inr ⟨0,f4 _,q⟩
    ·exact .inr ⟨n+1,by lia,q⟩
   ·rintro(q|⟨n,a,q⟩)
    ·exact .inl (.inl q)
    ·cases n with
     |zero=>exact .inl (.inr q)
     |succ n=>exact .inr ⟨n,by lia,q⟩
theorem zZ:∀(l:List (Option Int)) (m:Option Int),(eK m l).length=l.length
 |[],_=>rfl
 |x::l,m=>by simp[eK,zZ l]
theorem G1(hT:bw T) (o:a<T.stops.length) (p:b<T.stops.length) (f:∀k,k<=8->ce (λx=>∃n,n<=k/\ap T M a t n b x) (c k)):
  gv none ((aE T M a t 8).zipIdx.map λ(x:Row×Nat)=>(x.2,x.1.getD b none))=dO none 0 ((s4 9).map c):=by(
obtain⟨h1,h2,g⟩:=oT (T:=T) (M:=M) (a:=a) (t:=t) hT o 8;generalize hA:aE T M a t 8=A at h1 h2 g;have j:(A.zipIdx.map λ(x:Row×Nat)=>(x.2,x.1.getD b none))=((A.map λr=>r.getD b none).zipIdx 0).map λx=>(x.2,x.1):=by
 rw[List.zipIdx_map,ax];rfl
rw[j,y4];have y:(eK none (A.map λr=>r.getD b none)).length=A.length:=by rw[zZ,FM]
have l:eK none (A.map λr=>r.getD b none)=(s4 A.length).map c:=by
 apply rN
 ·rw[y,FM,fZ]
 ·intro k h s;have C:k<A.length:=by lia
  have:=zY (A.map λr=>r.getD b none) none (λ_=>False) (λn=>ap T M a t n b) (λ_ q=>q) (λn x d=>by
   rw[pr]at d;cases e:A[n]? with
   |none=>rw[e]at d;cases d
   |some r=>rw[e]at d;cases d;exact(h2 n r e).2 b p) k _ (g1 h)
  have:=(this.congr (Q:=λx=>∃n,n<=k/\ap T M a t n b x) λz=>by simp).uniq (f k (by lia));rw[this,wq,wh]
rw[l];have m:(s4 9).map c=(s4 A.length).map c++f8 (9-A.length) (((s4 A.length).map c).getLast?.getD none):=by
 apply rN
 ·simp;lia
 ·intro k h s;simp at h;by_cases q:k<A.length
  ·simp[List.getElem_append_left,q]
  ·rw[List.getElem_append_right (by simp;lia)];simp only[wq,wh,List.getElem_replicate];by_cases z:A.length=0
   ·simp[z];exact(f k (by lia)).uniq (u:=none) λx ⟨n,i,d⟩=>g n b x (by lia) (by lia) d
   ·have:((s4 A.length).map c).getLast?.getD none=c (A.length-1):=by
     rw[List.getLast?_eq_getElem?];simp[z,gy,show A.length-1<A.length by lia]
    rw[this];refine((f k (by lia)).congr λx=>?_).uniq (f (A.length-1) (by lia));constructor
    ·rintro⟨n,i,d⟩;refine⟨n,?_,d⟩;by_cases w:n<=A.length-1
     ·exact w
     ·exact absurd d (g n b x (by lia) (by lia))
    ·rintro⟨n,i,d⟩;exact⟨n,by lia,d⟩
rw[m,Bu,Bv,fm])
theorem Lw(hT:bw T) (d:a<T.stops.length) {c:Nat->Option Int}(e:∀s,s<T.stops.length->ce (λx=>∃n,ap T M a t n s x) (c s)):
  ((s4 T.stops.length).map λs=>(l2 (aE T M a t (aJ T M)) s).getD (-1))=(s4 T.stops.length).map λs=>(c s).getD (-1):=by
 apply eE;intro s b;rw[(oX (M:=M) (t:=t) hT d (bS.mp b)).uniq (e s (bS.mp b))]
noncomputable def fB (N:Nt) (e:on):List Int:=[e.1,(((N.aZ.getD e.2.1 (0,0)).1:Nat):Int),(N.aZ.getD e.2.1 (0,0)).2,((N.stop e.2.1 (N.len e.2.1-1):Nat):Int)]
noncomputable def iJ (N:Nt) (s:Nat) (t:Int):List on:=(N.af.getD s []).filter λe=>decide (t<=e.1)
theorem Cd {a b:Type}(f:a->List b):∀(l:List a) (k:Nat),((l.zipIdx k).flatMap λx=>f x.1)=l.flatMap f
 |[],_=>rfl
 |x::l,k=>by rw[kB,gA,gA,Cd f l (k+1)]
theorem t4 {a c:Type}{f g:a->List c}:∀ {l:List a},(∀x,x∈l->f x=g x)->l.flatMap f=l.flatMap g
 |[],_=>rfl
 |x::l,h=>by rw[gA,gA,h x (kt ..),t4 λy b=>h y (o0 _ b)]
theorem Ha (T:t1) (halt M:Nat) (t:Int):uf T halt M t=(v4 T M).flatMap λy=>
  (s4 (y.2.2.calls.length-1)).filterMap λi=>if y.2.2.stopAt i=halt/\t<=y.2.2.goes M y.2.1 i then some [y.2.2.goes M y.2.1 i,((y.1:Nat):Int),y.2.1,((y.2.2.stopAt (y.2.2.calls.length-1):Nat):Int)]else none:=by(
unfold uf v4;rw[List.flatMap_assoc];refine t4 λx _=>?_;have key:∀ks:List Int,(ks.flatMap λk=>if x.1.runs M k=false then []else
  (s4 (x.1.calls.length-1)).filterMap λ(i:Nat)=>if x.1.stopAt i=halt/\t<=x.1.goes M k i then some [x.1.goes M k i,((x.2:Nat):Int),k,((x.1.stopAt (x.1.calls.length-1):Nat):Int)]else none)=
  ((ks.filter λk=>x.1.runs M k).map λk=>(x.2,k,x.1)).flatMap λy=>(s4 (y.2.2.calls.length-1)).filterMap λi=>if y.2.2.stopAt i=halt/\t<=y.2.2.goes M y.2.1 i then some [y.2.2.goes M y.2.1 i,((y.1:Nat):Int),y.2.1,((y.2.2.stopAt (y.2.2.calls.length-1):Nat):Int)]else none:=by
 intro ks
 induction ks with
 |nil=>rfl
 |cons k ks a=>
  rw[gA,a,oG];cases e:x.1.runs M k with
  |true=>simp
  |false=>simp
exact key _)
theorem zw(h:r<(v4 T M).length):(lm T M).getD r (0,0)=((v4 T M)[r].1,(v4 T M)[r].2.1)/\(wT T M).getD r ([],[],[])=aO M (v4 T M)[r].2.1 (v4 T M)[r].2.2:=by
 unfold lm wT;simp[np,pr,g1 h]
theorem tZ {c b d:Type}(f:c->b) (p:b->Bool) (g:b->d):∀l:List c,((l.map f).filter p).map g=l.filterMap λa=>if p (f a)=true then some (g (f a))else none
 |[]=>rfl
 |a::l=>by
  rw[m0,oG,hn];by_cases h:p (f a)=true
  ·rw[No h,No h,m0,tZ f p g l]
  ·rw[Ps h,Ps h,tZ f p g l]
theorem Ce {a b:Type}(f:a->b):∀(l:List a) (k:Nat),(l.map f).zipIdx k=(l.zipIdx k).map λx=>(f x.1,x.2)
 |[],_=>rfl
 |x::l,k=>by rw[m0,kB,kB,m0,Ce f l (k+1)]
theorem kT {a c:Type}{f g:a->Option c}:∀ {l:List a},(∀x,x∈l->f x=g x)->l.filterMap f=l.filterMap g
 |[],_=>rfl
 |x::l,h=>by
  rw[hn,hn,h x (kt ..),kT λy b=>h y (o0 _ b)]
theorem Fv(hT:bm T) (c:ss (up T) (wT T M) (lm T M) (ol T) N) (o:s<T.stops.length):so T s M t=(iJ N s t).map (fB N):=by(
have p:s<(up T).length:=by simpa [up]using o
have w:=dF hT c;have L:N.runs.length=(v4 T M).length:=by rw[c.e9];simp[wT]
have row:∀r,(h:r<(v4 T M).length)->∀g i,fB N (g,r,i)=[g,(((v4 T M)[r].1:Nat):Int),(v4 T M)[r].2.1,(((v4 T M)[r].2.2.stopAt ((v4 T M)[r].2.2.calls.length-1):Nat):Int)]:=by
 intro r h g i;obtain⟨f,j⟩:=zw h;unfold fB;simp only;rw[c.aZ,f,c.stop,c.len,j];simp only[aO,FM];rw[jO]
refine Hb ?_ ?_
·
 have ON:((iJ N s t).map (fB N)).Perm (((jI (wT T M) s).filter λe=>decide (t<=e.1)).map (fB N)):=((c.perm s p).filter _).map _;refine ON.trans (xV ?_);rw[Ha];have f:((jI (wT T M) s).filter λe=>decide (t<=e.1)).map (fB N)=(((ei (wT T M)).filter λd=>d.1==s&&decide (t<=d.2.1))).map λd=>fB N d.2:=by
  unfold jI;rw[List.filter_map,ax,List.filter_filter]
  congr 1
  apply List.filter_congr;intro d _;simp only[x1];exact Bool.and_comm _ _
 rw[f];unfold ei;have j:∀(Z:List (aQ×Nat)),(((Z.flatMap λx=>ey x.2 x.1).filter λd=>d.1==s&&decide (t<=d.2.1)).map λd=>fB N d.2)=Z.flatMap λx=>((ey x.2 x.1).filter λd=>d.1==s&&decide (t<=d.2.1)).map λd=>fB N d.2:=by
  intro Z
  induction Z with
  |nil=>rfl
  |cons z Z OM=>rw[gA,kz,bL,OM,gA]
 rw[j];unfold wT;rw[Ce,List.flatMap_map,<-Cd _ (v4 T M) 0];refine t4 λx Y=>?_;obtain⟨y,r⟩:=x;have n:=ih.mp Y;simp only at n;obtain⟨Q,U⟩:=aD.mp n;simp only;unfold ey;rw[tZ];rw[show(aO M y.2.1 y.2.2).1.length=y.2.2.calls.length by simp[aO]];refine kT λi hi=>?_;rw[bS]at hi;have C:(aO M y.2.1 y.2.2).1.getD i 0=y.2.2.stopAt i:=jO _ _;have D:(aO M y.2.1 y.2.2).2.2.getD i 0=y.2.2.goes M y.2.1 i:=range_getD (by lia) _;have m:=row r Q;rw[U]at m;simp only[C,D,m,ev,gu,dL]
·
 rw[jl];have h1:(iJ N s t).Pairwise iM:=(c.sorted s p).filter _;refine h1.imp_of_mem λ{a b} E H q=>?_;have u:∀e,e∈iJ N s t->e.2.1<(v4 T M).length:=by
  intro e J;obtain⟨g,r,i⟩:=e;have:=((w.1.af s (by rw[w.2.2];exact o) g r i).mp (f5.mp J).1).1;rw[L]at this;exact this
 obtain⟨g,r,i⟩:=a;obtain⟨g',A,OP⟩:=b;have k:=u _ E;have l:=u _ H;simp only at k l;rw[row r k,row A l];unfold iM at q;simp only at q;rcases q with q|⟨rfl,q|⟨rfl,q⟩⟩
 ·exact .inr (by simp[ci,q])
 ·have:=ky.mp (um (T:=T) (M:=M)) r A k l q;refine .inr ?_;simp only[ci,Int.lt_irrefl,decide_false,DK,decide_true,oc,hj,ev,dL];rcases this with z|⟨OQ,OO⟩
  ·left;lia
  ·right;exact⟨by lia,.inl OO⟩
 ·exact .inl rfl)
def c7 (x:Int):Option Int:=if x=FS then none else some x
noncomputable def gs:Int->Nat->List Int->List (List Int)
 |_,_,[]=>[]
 |p,k,v::l=>if v<p then [((k:Nat):Int),v]::gs v (k+1) l else gs p (k+1) l
theorem vJ:∀(l:List Int) (p:Int) (k:Nat),p<=FS->(∀v,v∈l->v<=p)->l.Pairwise (λa b=>b<=a)->dO (c7 p) k (l.map c7)=gs p k l
 |[],_,_,_,_,_=>rfl
 |v::l,p,k,g,f,d=>by
  have hv:=f v (kt ..);rw[oC]at d;rw[m0];show(match c7 v with|some y=>if c7 v=c7 p then []else [[((k:Nat):Int),y]]|none=>[])++dO (c7 v) (k+1) (l.map c7)=if v<p then _ else _;by_cases c:v<p
  ·rw[No c];have e:c7 v=some v:=by unfold c7;rw[Ps (by lia)]
   have ne:c7 v≠c7 p:=by
    rw[e];unfold c7;split
    ·intro q;cases q
    ·intro q;injection q with q;lia
   rw[vJ l v (k+1) (by lia) d.1 d.2];simp only[e]at ne⊢;rw[Ps ne];rfl
  ·rw[Ps c];have:v=p:=by lia
   subst this;rw[vJ l v (k+1) g d.1 d.2];cases c7 v<;>simp
def a8 (N:Nt) (S:SS):Nat->SS
 |0=>S
 |k+1=>cA N (a8 N S k)
theorem j4(ok:bz N goes) (h:SInv N goes s0 t0 0 S):∀k,SInv N goes s0 t0 k (a8 N S k)
 |0=>h
 |k+1=>MT ok (j4 ok h k)
theorem G2(hT:bm T) (m:ss (up T) (wT T M) (lm T M) (ol T) N) (e:a<T.stops.length) (g:b<T.stops.length) (h:t+240<FS):
  gv none ((aE T M a t 8).zipIdx.map λ(x:Row×Nat)=>(x.2,x.1.getD b none))=gs FS 0 ((s4 9).map λk=>(a8 N (cp N a t) k).arr.getD b 0):=by(
obtain⟨ok,same,f⟩:=dF hT m;have o:=j4 ok (kP ok (s0:=a) (t0:=t) (by rw[f];exact e) h);have lt:∀k x,Ak N (f0 (wT T M)) a t k b x->x<FS:=λk x ⟨n,w,_,q⟩=>(iT ok (by rw[f];exact e) h q).1;have d:∀k,lw (Ak N (f0 (wT T M)) a t k b) ((a8 N (cp N a t) k).arr.getD b 0):=λk=>(o k).mid.arr b (by rw[f];exact g);rw[G1 hT.right e g (c:=λk=>c7 ((a8 N (cp N a t) k).arr.getD b 0)) λk _=>?_]
·rw[<- vJ _ FS 0 (fj _) ?_ ?_]
 ·rw[ax];have:(none:Option Int)=c7 FS:=by unfold c7;rw[No rfl]
  rw[this];rfl
 ·intro v hv;obtain⟨k,_,rfl⟩:=mo.mp hv;rcases(d k).1 with q|q
  ·have:=lt k _ q;lia
  ·lia
 ·rw[jl];refine Cn.imp λ{i j} p=>?_;rcases(d i).1 with q|q
  ·exact(d j).2 _ (tp (by lia) q)
  ·rw[q];rcases(d j).1 with l|l
   ·have:=lt j _ l;lia
   ·lia
·have:=(d k).minOf (lt k);unfold c7;refine this.congr λx=>?_;constructor
 ·rintro⟨n,w,h1,h2⟩;exact⟨n,h1,gY.mpr ⟨w,same.gj.mp (eo.mp h2)⟩⟩
 ·rintro⟨n,h1,h2⟩;obtain⟨w,h2⟩:=gY.mp h2;exact⟨n,w,h1,eo.mpr (same.gj.mpr h2)⟩)
theorem Lx(hT:bm T) (g:ss (up T) (wT T M) (lm T M) (ol T) N) (f:a<T.stops.length) (h:SInv N (f0 (wT T M)) a t k S) (i:S.ae=[]) (l:t+240<FS):
  ((s4 T.stops.length).map λs=>(l2 (aE T M a t (aJ T M)) s).getD (-1))=S.arr.map λx=>if x<FS then x else -1:=by(
obtain⟨ok,same,b⟩:=dF hT g;have lt:∀s x,(∃n,ap T M a t n s x)->x<FS:=by
 rintro s x ⟨n,q⟩;obtain⟨w,q⟩:=gY.mp q;exact(iT ok (by rw[b];exact f) l (eo.mpr (same.gj.mpr q))).1
have m:=λs (d:s<T.stops.length)=>(t_ ok same h i (s:=s) (by rw[b];exact d)).1;rw[Lw hT.right f (c:=λs=>if S.arr.getD s 0=FS then none else some (S.arr.getD s 0)) λs d=>(m s d).minOf (lt s)];have j:S.arr.length=T.stops.length:=by rw[<- b];exact h.mid.dn
apply rN
·simp[j]
·intro s h1 h2;simp at h1;simp only[wq,wh];have e:S.arr.getD s 0=S.arr[s]'(by lia):=by rw[np,g1 (by lia)];rfl
 rw[e];have:=(m s h1).1;rw[e]at this;rcases this with q|q
 ·have:=lt s _ q;rw[Ps (by lia),No this];rfl
 ·rw[No q,Ps (by lia)];rfl)
section
variable {T:t1}{M:Nat}{TW:Nt}{b:Nat}{a:Int}
theorem p8(same:dh (TW.sys (f0 ((wT T M).map ut))) (aH T M).back) :Rk TW (f0 ((wT T M).map ut)) b (-a) j s x↔∃n,n<j/\Dr (aH T M) b a n s (-x):=by(
have e:∀n,NJ TW (f0 ((wT T M).map ut)) b (-a) (n+1) 1 s x↔Dr (aH T M) b a n s (-x):=λn=>by
 rw[eo,same.gj,iP,<-lx,dU]
constructor
·rintro⟨n,c,h⟩;cases n with
 |zero=>exact absurd h m5
 |succ n=>exact⟨n,by lia,(e n).mp h⟩
·rintro⟨n,c,h⟩;exact⟨n+1,by lia,(e n).mpr h⟩)
theorem o8(same:dh (TW.sys (f0 ((wT T M).map ut))) (aH T M).back) :Fk TW (f0 ((wT T M).map ut)) b (-a) j s x↔(s=b/\x= -a)\/(∃m,(aH T M).walk s b m/\x= -a+m)\/∃n u g m,n<j/\Dr (aH T M) b a n u g/\(aH T M).walk s u m/\x= -g+m:=by(
have e:∀n u z,GJ (aH T M).back b (-a) (n+1) 1 u z↔Dr (aH T M) b a n u (-z):=λn u z=>by
 rw[iP,<-lx,dU]
constructor
·rintro⟨n,w,d,hw,h⟩;rw[eo,same.gj]at h;rcases k2 h with⟨_,_,h1,h2⟩|q|q
 ·exact .inl ⟨h1,h2⟩
 ·exact absurd q hw
 ·subst q;obtain⟨u,z,m,h1,h2,c⟩:=(mO h).2 rfl;rcases c with⟨_,rfl,rfl⟩|c
  ·exact .inr (.inl ⟨m,h1,h2⟩)
  ·cases n with
   |zero=>cases c
   |succ n=>exact .inr (.inr ⟨n,u,-z,m,by lia,(e n u z).mp c,h1,by lia⟩)
·rintro(⟨rfl,rfl⟩|⟨m,h1,rfl⟩|⟨n,u,g,m,d,h1,h2,rfl⟩)
 ·exact⟨0,0,f4 _,by decide,.start⟩
 ·refine⟨0,2,f4 _,by decide,?_⟩;rw[eo,same.gj];exact .walk .start (by decide) h1
 ·refine⟨n+1,2,by lia,by decide,?_⟩;rw[eo,same.gj];exact .walk ((e n u (-g)).mpr (by rw[dU];exact h1)) (by decide) h2)
def LeftW (T:t1) (M b:Nat) (a:Int) (j s:Nat) (t:Int):Prop:=∃n g,n<j/\t<=g/\Dr (aH T M) b a n s g
def iw (T:t1) (M b:Nat) (a:Int) (j s:Nat) (t:Int):Prop:=gD (aH T M) s t b a\/∃n c g3,n<j/\iy (aH T M) s t c g3/\Dr (aH T M) b a n c g3
theorem Fu(hT:bm T) (d:ss (up T) ((wT T M).map ut) (lm T M) ((ol T).map bD) TW) (f:s<T.stops.length) (h:SInv TW (f0 ((wT T M).map ut)) b (-a) j S) (i: -FS<t):
  t<= -(S.ab.getD s 0)↔LeftW T M b a j s t:=by(
obtain⟨ok,same,e⟩:=jE hT d;have m:=h.ab s (by rw[e];exact f);constructor
·intro q;rcases m.1 with p|p
 ·obtain⟨n,h1,h2⟩:=(p8 same).mp p;exact⟨n,_,h1,q,h2⟩
 ·lia
·rintro⟨n,g,h1,h2,c⟩;have:=m.2 (-g) ((p8 same).mpr ⟨n,h1,by rw[dU];exact c⟩);lia)
theorem AV(hT:bm T) (f:ss (up T) ((wT T M).map ut) (lm T M) ((ol T).map bD) TW) :(∃x,Gk TW (f0 ((wT T M).map ut)) b (-a) j s x/\x<= -t)↔iw T M b a j s t:=by(
obtain⟨ok,same,c⟩:=jE hT f;have d:TW.chg.getD s 0=(aH T M).chg s:=same.2.2 s;constructor
·rintro⟨x,h|⟨y,h,rfl⟩,k⟩
 ·rcases(o8 same).mp h with⟨rfl,rfl⟩|⟨m,h1,rfl⟩|⟨n,u,g,m,c,h1,h2,rfl⟩
  ·exact .inl (.inl ⟨O,by lia⟩)
  ·exact .inl (.inr ⟨m,h1,by lia⟩)
  ·exact .inr ⟨n,u,g,c,.inr ⟨m,h2,by lia⟩,h1⟩
 ·obtain⟨n,h1,h2⟩:=(p8 same).mp h;exact .inr ⟨n,s,-y,h1,.inl ⟨O,by rw[<- d];lia⟩,h2⟩
·rintro((⟨rfl,h⟩|⟨m,h1,h2⟩)|⟨n,i,g3,c,⟨rfl,h⟩|⟨m,h1,h2⟩,e⟩)
 ·exact⟨-a,.inl ((o8 same).mpr (.inl ⟨O,O⟩)),by lia⟩
 ·exact⟨-a+m,.inl ((o8 same).mpr (.inr (.inl ⟨m,h1,O⟩))),by lia⟩
 ·refine⟨-g3+TW.chg.getD s 0,.inr ⟨-g3,(p8 same).mpr ⟨n,c,by rw[dU];exact e⟩,O⟩,by rw[d];lia⟩
 ·exact⟨-g3+m,.inl ((o8 same).mpr (.inr (.inr ⟨n,i,g3,m,c,e,h1,O⟩))),by lia⟩)
theorem Jj(hT:bm T) (c:ss (up T) ((wT T M).map ut) (lm T M) ((ol T).map bD) TW) (e:s<T.stops.length) (h:SInv TW (f0 ((wT T M).map ut)) b (-a) j S) (f: -FS<t):
  t<= -(S.ready.getD s 0)↔iw T M b a j s t:=by(
obtain⟨ok,same,d⟩:=jE hT c;have m:lw (Gk TW (f0 ((wT T M).map ut)) b (-a) j s) (S.ready.getD s 0):=h.mid.ready s (by rw[d];exact e);rw[<- AV hT c];constructor
·intro q;rcases m.1 with p|p
 ·exact⟨_,p,by lia⟩
 ·lia
·rintro⟨x,h1,h2⟩;have:=m.2 x h1;lia)
theorem yq(hT:bm T) (c:ss (up T) (wT T M) (lm T M) (ol T) N) (e:ss (up T) ((wT T M).map ut) (lm T M) ((ol T).map bD) TW) (g:r<N.runs.length):
  r<TW.runs.length/\TW.len r=N.len r/\∀i,i<N.len r->TW.stop r i=N.stop r (N.len r-1-i)/\f0 ((wT T M).map ut) r i= -(N.comes r (N.len r-1-i)):=by(
have f:r<(wT T M).length:=by rw[<- c.e9];exact g
have h:=getD_mem f ([],[],[]);have d:((wT T M).map ut).getD r ([],[],[])=ut ((wT T M).getD r ([],[],[])):=by
 simp[np,pr,g1 f]
have j:=(j5 hT M).comes _ h;refine⟨by rw[e.e9];simpa using f,?_,λi hi=>⟨?_,?_⟩⟩
·rw[e.len,c.len,d];simp[ut]
·rw[c.len]at hi⊢;rw[e.stop,c.stop,d];simp only[ut];rw[rev_getD hi]
·rw[c.len]at hi⊢;rw[c.comes];unfold f0;rw[d];simp only[ut];rw[pK (by rw[fh];lia),rev_getD (by lia),j])
theorem A0(hT:bm T) (p:ss (up T) (wT T M) (lm T M) (ol T) N) (l:ss (up T) ((wT T M).map ut) (lm T M) ((ol T).map bD) TW) (s:r<N.runs.length) (h:SInv TW (f0 ((wT T M).map ut)) b (-a) (j+1) S):
  c<N.len r-1-S.aa.getD r 0↔∃off,c<off/\off<N.len r/\iw T M b a j (N.stop r off) (N.comes r off):=by(
obtain⟨e,m,n⟩:=yq hT p l s;have g:=h.gH r e;have d:=h.gI r e;have k:=λi=>h.mK r i e;rw[m]at g d;simp only[m]at k;have f:∀i,i<N.len r->(bd TW (f0 ((wT T M).map ut)) b (-a) j r i↔iw T M b a j (N.stop r (N.len r-1-i)) (N.comes r (N.len r-1-i))):=by
 intro i hi;rw[<- AV hT l];unfold bd;rw[(n i hi).1,(n i hi).2]
constructor
·intro q;rcases d with d|⟨_,d⟩
 ·lia
 ·rw[show j+1-1=j by lia,f _ g]at d;exact⟨_,q,by lia,d⟩
·rintro⟨off,h1,h2,o⟩;have:=k (N.len r-1-off) (by lia) (by lia) (by
  rw[show j+1-1=j by lia,f _ (hU h2),ny h2];exact o)
 lia)
def Fin (T:t1) (M b:Nat) (a:Int) (n:Nat) (x:Place):Prop:=∃m c w,be T M x m=some ⟨b,c,w⟩/\c<=a/\rides m<=n
theorem mG:∀(n s:Nat) (g:Int),Dr (aH T M) b a n s g->∀x:Place,x.halt=s->x.time+chg T x<=g->∃m e w,be T M x m=some ⟨b,e,w⟩/\e<=a/\rides m=n+1
 |0,s,g,E,x,ex,D=>by
  obtain⟨t,c,⟨⟨p,k,tr⟩,J,i,j,h1,h2,h,l,o,r⟩,d⟩:=E;obtain⟨u,A,C⟩:=dr.mp J;simp only at h2 h l o r;have f:go T M x (.ride p k i j)=some ⟨t,c,1⟩:=bQ.mpr ⟨tr,u,A,C,h1,h2,by rw[ex,h],by rw[<- l];exact D,by rw[o,r]⟩;rcases d with⟨rfl,d⟩|⟨m,⟨w,L,N,Q,U⟩,d⟩
  ·exact⟨[.ride p k i j],c,1,by rw[iO];exact f,d,by rw[gp];rfl⟩
  ·obtain⟨q,H⟩:=fW.mp L;refine⟨[.ride p k i j,.walk q],c+m,2,?_,d,by rw[gp,iX];rfl⟩;rw[gK f,iO];exact aM.mpr ⟨w,H,N,by simp,by rw[Q,U]⟩
 |n+1,s,g,E,x,ex,D=>by
  obtain⟨t,c,OO,g3,⟨⟨p,k,tr⟩,J,i,j,h1,h2,h,l,o,r⟩,d,hd⟩:=E;obtain⟨u,A,C⟩:=dr.mp J;simp only at h2 h l o r;have f:go T M x (.ride p k i j)=some ⟨t,c,1⟩:=bQ.mpr ⟨tr,u,A,C,h1,h2,by rw[ex,h],by rw[<- l];exact D,by rw[o,r]⟩;rcases d with⟨rfl,d⟩|⟨m,⟨w,L,N,Q,U⟩,d⟩
  ·obtain⟨z,e,v,Y,OM,ON⟩:=mG n _ _ hd ⟨t,c,1⟩ rfl (by simpa [chg,aH]using d);exact⟨.ride p k i j::z,e,v,by rw[gK f];exact Y,OM,by rw[gp,ON]⟩
  ·obtain⟨q,H⟩:=fW.mp L;obtain⟨z,e,v,Y,OM,ON⟩:=mG n _ _ hd ⟨OO,c+m,2⟩ rfl (by simpa [chg]using d);refine⟨.ride p k i j:: .walk q::z,e,v,?_,OM,by rw[gp,iX,ON]⟩;rw[gK f,gK (y:=⟨OO,c+m,2⟩) (aM.mpr ⟨w,H,N,by simp,by rw[Q,U]⟩)];exact Y
theorem o6:∀(m:List Leg) (n:Nat) (x:Place) (d:Int) (w:Nat),be T M x m=some ⟨b,d,w⟩->d<=a->rides m<=n->
  (x.way=2->(x.halt=b/\x.time<=a)\/LeftW T M b a n x.halt x.time)/\(x.way=1->iw T M b a n x.halt x.time)
 |[],n,x,d,w,f,h,l=>by
  cases f;exact⟨λ_=>.inl ⟨O,h⟩,λ_=>.inl (.inl ⟨O,h⟩)⟩
 |.walk q::m,n,x,d,w,f,h,l=>by
  obtain⟨y,g,f⟩:=dj f;obtain⟨wk,s,t,u,rfl⟩:=aM.mp g;rw[iX]at l;have e:=(o6 m n _ d w f h l).1 rfl;have hw:(aH T M).walk x.halt wk.to (wk.minutes:Int):=⟨wk,pi s,t,O,O⟩;refine⟨λq=>absurd q u,λ_=>?_⟩;simp only at e;rcases e with⟨r,o⟩|⟨c,g',r,o,z⟩
  ·exact .inl (.inr ⟨_,by rw[<- r];exact hw,o⟩)
  ·exact .inr ⟨c,_,g',r,.inr ⟨_,hw,o⟩,z⟩
 |.ride p k i j::m,n,x,d,w,f,h,l=>by
  obtain⟨y,g,f⟩:=dj f;obtain⟨tr,s,t,u,C,D,E,H,rfl⟩:=bQ.mp g;rw[gp]at l;have e:=(o6 m (n-1) _ d w f h (by lia)).2 rfl;simp only at e;have A:(aH T M).ride x.halt (tr.goes M k i) (tr.stopAt j) (tr.comes M k j):=⟨(p,k,tr),dr.mpr ⟨s,t,u⟩,i,j,C,D,E.symm,O,O,O⟩;have hd:∃c,c<n/\Dr (aH T M) b a c x.halt (tr.goes M k i):=by
   rcases e with e|⟨c,J,g3,r,o,z⟩
   ·exact⟨0,by lia,_,_,A,e⟩
   ·exact⟨c+1,by lia,_,_,J,g3,A,o,z⟩
  obtain⟨c,h1,h2⟩:=hd;refine⟨λq=>.inr ⟨c,_,h1,?_,h2⟩,λq=>.inr ⟨c,x.halt,_,h1,.inl ⟨O,?_⟩,h2⟩⟩
  ·have:=yS T x;lia
  ·have:chg T x=(aH T M).chg x.halt:=by simp[chg,q,aH]
   rw[<- this];exact H
theorem GP(hw:x.way=2):Fin T M b a n x↔(x.halt=b/\x.time<=a)\/LeftW T M b a n x.halt x.time:=by(
constructor
·rintro⟨m,c,w,h1,h2,d⟩;exact(o6 m n x c w h1 h2 d).1 hw
·rintro(⟨h1,h2⟩|⟨e,g,h1,h2,d⟩)
 ·exact⟨[],x.time,x.way,by rw[<- h1];rfl,h2,f4 _⟩
 ·obtain⟨m,c,w,f,h,i⟩:=mG e _ g d x rfl (by simp[chg,hw];exact h2);exact⟨m,c,w,f,h,by lia⟩)
theorem za(hw:x.way=1):Fin T M b a n x↔iw T M b a n x.halt x.time:=by(
have r:chg T x=(aH T M).chg x.halt:=by simp[chg,hw,aH]
constructor
·rintro⟨m,c,w,h1,h2,d⟩;exact(o6 m n x c w h1 h2 d).2 hw
·rintro((⟨h1,h2⟩|⟨e,⟨w,i,j,k,l⟩,h2⟩)|⟨o,p,g3,h1,⟨rfl,h2⟩|⟨e,⟨w,i,j,k,l⟩,h2⟩,d⟩)
 ·exact⟨[],x.time,x.way,by rw[<- h1];rfl,h2,f4 _⟩
 ·obtain⟨q,f⟩:=fW.mp i;refine⟨[.walk q],x.time+e,2,?_,h2,f4 _⟩;rw[iO];exact aM.mpr ⟨w,f,j,by rw[hw];decide,by rw[k,l]⟩
 ·obtain⟨m,c,w,g,h,s⟩:=mG o _ g3 d x rfl (by rw[r];exact h2);exact⟨m,c,w,g,h,by lia⟩
 ·obtain⟨q,f⟩:=fW.mp i;obtain⟨m,c,v,g,h,s⟩:=mG o _ g3 d ⟨p,x.time+e,2⟩ rfl (by simp[chg];exact h2);refine⟨.walk q::m,c,v,?_,h,by rw[iX];lia⟩;rw[gK (y:=⟨p,x.time+e,2⟩) (aM.mpr ⟨w,f,j,by rw[hw];decide,by rw[k,l]⟩)];exact g)
end
section
variable {T:t1}{M b:Nat}{a:Int}{r:Nat}{x0:Place}
structure kI (T:t1) (M b:Nat) (a:Int) (r:Nat) (x0:Place):Prop where
 early:∀m c w,be T M x0 m=some ⟨b,c,w⟩->a<=c
 dC:∀m w,be T M x0 m=some ⟨b,a,w⟩->r<=rides m
theorem rA:∀(l m:List Leg) {x y:Place},be T M x l=some y->bn T M x (l++m)=bn T M x l++bn T M y m
 |[],m,x,y,h=>by cases h;rfl
 |c::l,m,x,y,h=>by
  obtain⟨z,g,f⟩:=dj h;rw[mc,i1 g,i1 g,rA l m f,dv]
structure fq (T:t1) (M b:Nat) (a:Int) (r:Nat) (x0:Place) (pre:List Leg) (x:Place) (left:Nat):Prop where
 at_:be T M x0 pre=some x
 rides:rides pre+left=r
 fin:Fin T M b a left x
 least:∀m,Ok T M b a r x0 m->(∃c,m=pre++c)\/∀z,be T M x z≠none->ci (bn T M x0 (pre++z)) (bn T M x0 m)=true
theorem fq.exact(o:kI T M b a r x0) (h1:be T M x0 pre=some x) (h2:eC pre+left=r) (f:be T M x m=some ⟨b,c,w⟩) (h:c<=a) (i:eC m<=left):Ok T M b a left x m:=by(
have d:be T M x0 (pre++m)=some ⟨b,c,w⟩:=by rw[kU,h1];exact f
have g:=o.early _ _ _ d;have:c=a:=by lia
subst this;have e:=o.dC _ _ d;rw[ly]at e;exact⟨⟨w,f⟩,by lia⟩)
theorem fq.done(o:kI T M b a r x0) (h:fq T M b a r x0 pre x left) (e:x.halt=b) (d:x.time<=a):Ok T M b a r x0 pre/\∀m,Ok T M b a r x0 m->c6 (bn T M x0 pre) (bn T M x0 m):=by(
have f:be T M x []=some ⟨b,x.time,x.way⟩:=by rw[<- e];rfl
have k:=fq.exact o h.at_ h.rides f d (f4 _);obtain⟨⟨w,g⟩,c⟩:=k;have c:0=left:=c;refine⟨⟨⟨w,?_⟩,by have:=h.rides;lia⟩,λm hm=>?_⟩
·rw[h.at_];exact g
·rcases h.least m hm with⟨i,rfl⟩|q
 ·rw[rA _ _ h.at_];have:bn T M x0 pre=bn T M x0 pre++[]:=by simp
  conv=>lhs;rw[this]
  refine A6 ?_;cases bn T M x i with
  |nil=>exact .inl rfl
  |cons=>exact .inr rfl
 ·have:=q [] (by intro z;cases z);rw[fm]at this;exact .inr this)
theorem fq.step(o:kI T M b a r x0) (h:fq T M b a r x0 pre x left) (D:¬(x.halt=b/\x.time<=a)) (g:go T M x c=some y) (H:eC [c]+b8 left c=left) (hf:Fin T M b a (b8 left c) y)
  (hm:∀d l,go T M x d=some l->eC [d]<=left->Fin T M b a (b8 left d) l->d=c\/mV c d):fq T M b a r x0 (pre++[c]) y (b8 left c):=by(
refine⟨by rw[kU,h.at_];show be T M x [c]=_;rw[iO];exact g,by rw[ly];have:=h.rides;lia,hf,λm p=>?_⟩;rcases h.least m p with⟨s,rfl⟩|q
·obtain⟨⟨w,f⟩,C⟩:=p;rw[kU,h.at_]at f;have f:be T M x s=some ⟨b,a,w⟩:=f;rw[ly]at C;have J:=h.rides;cases s with
 |nil=>
  cases f;exact absurd ⟨O,fj _⟩ D
 |cons d e=>
  obtain⟨l,g',t⟩:=dj f;have E:eC [d]+eC e=left:=by
   have:eC (d::e)=eC [d]+eC e:=by rw[<- ly];rfl
   lia
  have A:eC e<=b8 left d:=by
   cases d with
   |walk v=>simp only[b8];lia
   |ride n k i j=>
    have:eC [Leg.ride n k i j]=1:=rfl;simp only[b8];lia
  rcases hm d l g' (by lia) ⟨e,a,w,t,fj _,A⟩with rfl|u
  ·exact .inl ⟨e,by simp⟩
  ·refine .inr λz hz=>?_;rw[dv,rA _ _ h.at_,rA _ _ h.at_,tD];show ci (bn T M x (c::z)) _=true;rw[i1 g,i1 g'];exact Aj u g g' _ _
·refine .inr λz hz=>?_;rw[dv];refine q ([c]++z) ?_;show be T M x (c::z)≠none;rw[gK g];exact hz)
end
section
variable {T:t1}{M b:Nat}{a:Int}{N TW:Nt}
theorem pe(d:ss (up T) (wT T M) (lm T M) (ol T) N) (h:r<(v4 T M).length):
  N.aZ.getD r (0,0)=((v4 T M)[r].1,(v4 T M)[r].2.1)/\N.len r=(v4 T M)[r].2.2.calls.length/\(∀i,N.stop r i=(v4 T M)[r].2.2.stopAt i)/\
  ∀i,i<(v4 T M)[r].2.2.calls.length->N.comes r i=(v4 T M)[r].2.2.comes M (v4 T M)[r].2.1 i/\f0 (wT T M) r i=(v4 T M)[r].2.2.goes M (v4 T M)[r].2.1 i:=by(
obtain⟨e,c⟩:=zw h;refine⟨by rw[d.aZ];exact e,by rw[d.len,c];simp[aO],λi=>by rw[d.stop,c];exact jO _ _,λi hi=>⟨?_,?_⟩⟩
·rw[d.comes,c];exact range_getD hi _
·unfold f0;rw[c];exact range_getD hi _)
theorem p' (c:ss (up T) (wT T M) (lm T M) (ol T) N):N.runs.length=(v4 T M).length:=by rw[c.e9];simp[wT]
noncomputable def fz (S:SS) (b:Nat) (a:Int) (g:Nat) (t:Int):Bool:=(decide (g=b)&&decide (t<=a))||decide (t<= -(S.ab.getD g 0))
theorem t7(d:ss (up T) (wT T M) (lm T M) (ol T) N) (f:s<T.stops.length) :(g,m,q)∈N.foot.getD s []↔∃w,T.walks[q]?=some w/\w.from_=s/\w.to=g/\m=(w.minutes:Int):=by(
rw[d.foot s (by simpa [up]using f),uz];unfold ol;rw[pr];constructor
·intro h;cases e:T.walks[q]? with
 |none=>rw[e]at h;cases h
 |some w=>
  rw[e]at h;injection h with h;injection h with h1 h2;injection h2 with h2 c;exact⟨w,O,h1,h2,c.symm⟩
·rintro⟨w,h1,rfl,rfl,rfl⟩;rw[h1];rfl)
theorem GX(c:ss (up T) (wT T M) (lm T M) (ol T) N) (d:s<T.stops.length):(N.foot.getD s []).Pairwise λx y=>x.2.2<y.2.2:=by
 rw[c.foot s (by simpa [up]using d)];unfold dm;rw[jl];refine List.Pairwise.filter _ ?_;rw[ky];intro i j hi e h;simp[Ct];exact h
theorem v7(hT:bm T) (c:ss (up T) ((wT T M).map ut) (lm T M) ((ol T).map bD) TW) (h:SInv TW (f0 ((wT T M).map ut)) b (-a) left S) (hg:g<T.stops.length) (d: -FS<t):
  fz S b a g t=true↔Fin T M b a left ⟨g,t,2⟩:=by
 rw[GP rfl];unfold fz;simp only[hj,ev,dL];rw[Fu hT c hg h d]
theorem Ni(hT:bm T) (e:ss (up T) (wT T M) (lm T M) (ol T) N) (t:ss (up T) ((wT T M).map ut) (lm T M) ((ol T).map bD) TW) (h:SInv TW (f0 ((wT T M).map ut)) b (-a) left S) (l:x.halt<T.stops.length) (Q: -FS<x.time) (hw:x.way≠2)
  (s:N.foot.getD x.halt []=A++(g,m,q)::J) (h1:∀f,f∈A->fz S b a f.1 (x.time+f.2.1)=false) (h2:fz S b a g (x.time+m)=true):
  go T M x (.walk q)=some ⟨g,x.time+m,2⟩/\bT T M x (.walk q)=[-1,(q:Int),(x.halt:Int),(g:Int),x.time+m]/\g<T.stops.length/\0<=m/\Fin T M b a left ⟨g,x.time+m,2⟩/\
  ∀c r,go T M x c=some r->eC [c]<=left->Fin T M b a (b8 left c) r->c=.walk q\/mV (.walk q) c:=by(
obtain⟨w,o,y,p,z⟩:=(t7 e l (g:=g) (q:=q) (m:=m)).mp (by rw[s];simp);have wr:=hT.right.2 w (pi o);have hg:g<T.stops.length:=by rw[<- p];exact wr.2
refine⟨aM.mpr ⟨w,o,y,hw,by rw[p,z]⟩,by simp only[bT,o];rw[y,p,z],hg,by lia,(v7 hT t h hg (by lia)).mp h2,λc r g' L hf=>?_⟩;cases c with
|ride n k i j=>exact .inr trivial
|walk D=>
 obtain⟨d,u,E,U,rfl⟩:=aM.mp g';have hm:(d.to,(d.minutes:Int),D)∈N.foot.getD x.halt []:=(t7 e l).mpr ⟨d,u,E,O,O⟩;have H:=hT.right.2 d (pi u);have C:=(v7 hT t h H.2 (by lia)).mpr hf;have ps:=GX e l;rw[s]at hm ps;rw[we]at ps;rcases cs.mp hm with hm|hm
 ·have:=h1 _ hm;simp only at this;rw[C]at this;cases this
 ·rcases rs.mp hm with hm|hm
  ·injection hm with _ hm;injection hm with _ hm;subst hm;exact .inl rfl
  ·exact .inr ((oC.mp ps.2.1).1 _ hm))
theorem Nh(hT:bm T) (i:ss (up T) (wT T M) (lm T M) (ol T) N) (g:ss (up T) ((wT T M).map ut) (lm T M) ((ol T).map bD) TW) (h:SInv TW (f0 ((wT T M).map ut)) b (-a) left S) (k:x.halt<T.stops.length) (n: -FS<x.time)
  (h1:∀f,f∈N.foot.getD x.halt []->fz S b a f.1 (x.time+f.2.1)=false):∀q d,go T M x (.walk q)=some d->¬Fin T M b a left d:=by
 intro q d g' hf;obtain⟨c,e,l,o,rfl⟩:=aM.mp g';have hm:(c.to,(c.minutes:Int),q)∈N.foot.getD x.halt []:=(t7 i k).mpr ⟨c,e,l,O,O⟩;have m:=hT.right.2 c (pi e);have j:=(v7 hT g h m.2 (by lia)).mpr hf;have:=h1 _ hm;simp only at this;rw[j]at this;cases this
noncomputable def bE (N:Nt) (S:SS) (ready:Int) (e:on):Bool:=decide (ready<=e.1)&&decide (e.2.2<N.len e.2.1-1-S.aa.getD e.2.1 0)
noncomputable def e2 (N:Nt) (S:SS) (r j:Nat):Bool:=decide (N.comes r j<= -(S.ready.getD (N.stop r j) 0))
theorem uG(hT:bm T) (d:ss (up T) (wT T M) (lm T M) (ol T) N) (l:ss (up T) ((wT T M).map ut) (lm T M) ((ol T).map bD) TW) (h:SInv TW (f0 ((wT T M).map ut)) b (-a) n S) (f:r<N.runs.length) (c:j<N.len r):
  e2 N S r j=true↔iw T M b a n (N.stop r j) (N.comes r j):=by
 have e:=f;rw[p' d]at e;obtain⟨q,i,s,k⟩:=pe d e;obtain⟨ok,_,m⟩:=dF hT d;have g:=ok.eO r j f c;rw[m]at g;unfold e2;rw[dL];refine Jj hT l g h ?_;rw[i]at c;rw[(k j c).1];have mi:((v4 T M)[r].1,(v4 T M)[r].2.1,(v4 T M)[r].2.2)∈v4 T M:=eX e;obtain⟨o,p,t⟩:=dr.mp mi;have:=lL hT (pi o) M p c;unfold FS;lia
theorem AZ(hT:bm T) (d:ss (up T) (wT T M) (lm T M) (ol T) N) (w:ss (up T) ((wT T M).map ut) (lm T M) ((ol T).map bD) TW) (h:SInv TW (f0 ((wT T M).map ut)) b (-a) (n+1) S) (h':SInv TW (f0 ((wT T M).map ut)) b (-a) n C) (U:x.halt<T.stops.length)
  (g:go T M x (.ride p k i j)=some y) (hf:Fin T M b a n y):
  ∃r,∃z:r<(v4 T M).length,(v4 T M)[r].1=p/\(v4 T M)[r].2.1=k/\i<j/\j<N.len r/\e2 N C r j=true/\∃e,e∈N.af.getD x.halt []/\e.2=(r,i)/\bE N S (x.time+chg T x) e=true:=by(
obtain⟨tr,D,E,H,t,f,J,L,rfl⟩:=bQ.mp g;obtain⟨r,z⟩:=fW.mp (dr.mpr ⟨D,E,H⟩);obtain⟨o,q⟩:=aD.mp z;obtain⟨A,c,l,m⟩:=pe d o;have s:r<N.runs.length:=by rw[p' d];exact o
rw[q]at A c l m;simp only at A c l m;obtain⟨ok,_,Q⟩:=dF hT d;have u:iw T M b a n (N.stop r j) (N.comes r j):=by
 rw[l,(m j f).1];exact(za (x:=⟨tr.stopAt j,tr.comes M k j,1⟩) rfl).mp hf
refine⟨r,o,by rw[q],by rw[q],t,by rw[c];exact f,(uG hT d w h' s (by rw[c];exact f)).mpr u,(f0 (wT T M) r i,r,i),?_,O,?_⟩
·exact(ok.af x.halt (by rw[Q];exact U) _ r i).mpr ⟨s,by rw[c];lia,by rw[l];exact J,O⟩
·unfold bE;simp only[ev,dL];refine⟨by rw[(m i (by lia)).2];exact L,?_⟩;exact(A0 hT d w s h).mpr ⟨j,t,by rw[c];exact f,u⟩)
theorem LD(hT:bm T) (m:ss (up T) (wT T M) (lm T M) (ol T) N) (D:ss (up T) ((wT T M).map ut) (lm T M) ((ol T).map bD) TW) (h:SInv TW (f0 ((wT T M).map ut)) b (-a) (n+1) S) (h':SInv TW (f0 ((wT T M).map ut)) b (-a) n C) (J:x.halt<T.stops.length)
  (OW:e∈N.af.getD x.halt []) (u:bE N S (x.time+chg T x) e=true) (O0:∀d,d∈N.af.getD x.halt []->bE N S (x.time+chg T x) d=true->e.2.1<d.2.1\/(e.2.1=d.2.1/\e.2.2<=d.2.2))
  (OX:e.2.2<j) (w:j<N.len e.2.1) (OY:e2 N C e.2.1 j=true) (OZ:∀f,e.2.2<f->f<j->e2 N C e.2.1 f=false) (hw:∀q l,go T M x (.walk q)=some l->¬Fin T M b a (n+1) l):
  ∃p k,N.aZ.getD e.2.1 (0,0)=(p,k)/\go T M x (.ride p k e.2.2 j)=some ⟨N.stop e.2.1 j,N.comes e.2.1 j,1⟩/\bT T M x (.ride p k e.2.2 j)=[(p:Int),k,(e.2.2:Int),(j:Int),N.comes e.2.1 j]/\N.stop e.2.1 j<T.stops.length/\Fin T M b a n ⟨N.stop e.2.1 j,N.comes e.2.1 j,1⟩/\
  ∀c l,go T M x c=some l->eC [c]<=n+1->Fin T M b a (b8 (n+1) c) l->c=.ride p k e.2.2 j\/mV (.ride p k e.2.2 j) c:=by(
obtain⟨g,r,i⟩:=e;simp only at*;obtain⟨ok,_,E⟩:=dF hT m;obtain⟨t,O7,U,Y⟩:=(ok.af x.halt (by rw[E];exact J) g r i).mp OW;have s:=t;rw[p' m]at s;obtain⟨O3,O4,L,y⟩:=pe m s;have mi:((v4 T M)[r].1,(v4 T M)[r].2.1,(v4 T M)[r].2.2)∈v4 T M:=eX s;obtain⟨A,Q,O6⟩:=dr.mp mi;unfold bE at u;simp only[ev,dL]at u;have o:=w;rw[O4]at o;have H:=ok.eO r j t w;rw[E]at H;refine⟨_,_,O3,bQ.mpr ⟨_,A,Q,O6,OX,o,by rw[<- L];exact U,by rw[<- (y i (by lia)).2,<-Y];exact u.1,by rw[L,(y j o).1]⟩,by simp only[bT,A];rw[(y j o).1],H,(za rfl).mpr ((uG hT m D h' t w).mp OY),λc l g' O9 hf=>?_⟩;cases c with
|walk q=>exact absurd hf (hw q l g')
|ride Pa O_ O2 f=>
 obtain⟨O5,O1,OM,ON,OO,O8,OP,d,OQ,OR,OS⟩:=AZ hT m D h h' J g' (by simpa [b8]using hf);have:=O0 d OQ OS;rw[OR]at this;simp only at this;rcases this with lt|⟨rfl,le⟩
 ·refine .inr ?_;have:=ky.mp (um (T:=T) (M:=M)) r O5 s O1 lt;rcases this with z|⟨A,Q⟩
  ·exact .inl (by lia)
  ·exact .inr ⟨by lia,.inl (by lia)⟩
 ·subst OM ON;by_cases OT:i=O2
  ·subst OT;by_cases OU:f<j
   ·have:=OZ f OO OU;rw[OP]at this;cases this
   ·by_cases OV:f=j
    ·subst OV;exact .inl rfl
    ·exact .inr (.inr ⟨O,.inr ⟨O,.inr ⟨O,by lia⟩⟩⟩)
  ·exact .inr (.inr ⟨O,.inr ⟨O,.inl (by lia)⟩⟩))
theorem LF(hT:bm T) (u:ss (up T) (wT T M) (lm T M) (ol T) N) (t:ss (up T) ((wT T M).map ut) (lm T M) ((ol T).map bD) TW) {S:Nat->SS}(h:∀k,SInv TW (f0 ((wT T M).map ut)) b (-a) k (S k)) (A:x.halt<T.stops.length)
  (hf:Fin T M b a left x) (z:x.halt≠b) (hw:∀q o,go T M x (.walk q)=some o->¬Fin T M b a left o):∃n,left=n+1/\∃e,e∈N.af.getD x.halt []/\bE N (S left) (x.time+chg T x) e=true:=by(
obtain⟨m,d,w,f,l,c⟩:=hf
match m,f,c with
|[],f,c=>cases f;exact absurd rfl z
|.walk q::m,f,c=>
 obtain⟨y,g,f⟩:=dj f;exact absurd ⟨m,d,w,f,l,by rw[iX]at c;exact c⟩ (hw q y g)
|.ride p k i j::m,f,c=>
 obtain⟨y,g,f⟩:=dj f;rw[gp]at c;obtain⟨n,rfl⟩:∃n,left=n+1:=⟨left-1,by lia⟩;obtain⟨r,_,_,_,_,_,_,e,h1,_,s⟩:=AZ hT u t (h (n+1)) (h n) A g ⟨m,d,w,f,l,by lia⟩;exact⟨n,O,e,h1,s⟩)
theorem Jk(hT:bm T) (d:ss (up T) (wT T M) (lm T M) (ol T) N) (k:ss (up T) ((wT T M).map ut) (lm T M) ((ol T).map bD) TW) (h:SInv TW (f0 ((wT T M).map ut)) b (-a) (n+1) S) (h':SInv TW (f0 ((wT T M).map ut)) b (-a) n l) (q:s<T.stops.length) (o:e∈N.af.getD s []) (f:bE N S ready e=true):
  e.2.1<N.runs.length/\∃j,e.2.2<j/\j<N.len e.2.1/\e2 N l e.2.1 j=true:=by
 obtain⟨g,r,i⟩:=e;obtain⟨ok,_,p⟩:=dF hT d;obtain⟨c,t,u,w⟩:=(ok.af s (by rw[p];exact q) g r i).mp o;unfold bE at f;simp only[ev,dL]at f;obtain⟨j,h1,h2,m⟩:=(A0 hT d k c h).mp f.2;exact⟨c,j,h1,h2,(uG hT d k h' c h2).mpr m⟩
end
theorem Kl(hT:bm T) (j:ss (up T) (wT T M) (lm T M) (ol T) N) (o:a<T.stops.length) (d:b<T.stops.length) (h:SInv N (f0 (wT T M)) a t k S) (p:S.ae=[]) (u:t+240<FS) (r:S.arr.getD b 0≠FS):
  kI T M b (S.arr.getD b 0) (S.rides.getD b 0) ⟨a,t,0⟩/\fq T M b (S.arr.getD b 0) (S.rides.getD b 0) ⟨a,t,0⟩ [] ⟨a,t,0⟩ (S.rides.getD b 0)/\S.rides.getD b 0<=k:=by(
obtain⟨ok,same,c⟩:=dF hT j;obtain⟨h1,h2⟩:=t_ ok same h p (s:=b) (by rw[c];exact d);have lt:S.arr.getD b 0<FS:=by
 rcases h1.1 with⟨n,q⟩|q
 ·obtain⟨w,q⟩:=gY.mp q;exact(iT ok (by rw[c];exact o) u (eo.mpr (same.gj.mpr q))).1
 ·exact absurd q r
obtain⟨g,i⟩:=h2 lt;refine⟨⟨λm e w f=>h1.2 e ⟨_,i0.mpr ⟨m,w,f,O⟩⟩,λm w f=>?_⟩,⟨O,by rw[LH,su],?_,λm _=>.inl ⟨m,O⟩⟩,(h.rides b (by rw[c];exact d) lt).1⟩
·by_cases q:rides m<S.rides.getD b 0
 ·exact absurd (i0.mpr ⟨m,w,f,O⟩) (i _ q)
 ·lia
·obtain⟨l,w,f,x⟩:=i0.mp g;exact⟨l,_,w,f,fj _,by lia⟩)
theorem HD(hT:bw T) (o:kI T M b a r x0) (h:fq T M b a r x0 pre x left) (d:x.halt=b) (c:x.time<=a):
  ∃l',eD T M b a (v4 T M) (2*r+3) r x0=some l'/\bn T M x0 l'=bn T M x0 pre/\l'.length=pre.length:=by
 obtain⟨h1,h2⟩:=h.done o d c;exact Ml hT h1 h2 (by lia)
noncomputable def ek (T:t1) (M:Nat):Place->List Leg->List (List Int)
 |_,[]=>[]
 |x,c::l=>bT T M x c::(match go T M x c with
  |some y=>ek T M y l
  |none=>[])
theorem uu:∀(l:List Leg) (c:Leg) {x y:Place},be T M x l=some y->ek T M x (l++[c])=ek T M x l++[bT T M y c]
 |[],c,x,y,h=>by
  cases h;show bT T M x c::_=[bT T M x c];cases go T M x c<;>rfl
 |d::l,c,x,y,h=>by
  obtain⟨z,g,f⟩:=dj h;show bT T M x d::(match go T M x d with|some y=>ek T M y (l++[c])|none=>[])=(bT T M x d::(match go T M x d with|some y=>ek T M y l|none=>[]))++_;rw[g];simp only;rw[uu l c f];rfl
theorem pv:∀(l:List Leg) {x y:Place},be T M x l=some y->(ek T M x l).flatten=bn T M x l/\(ek T M x l).length=l.length
 |[],x,y,h=>⟨O,O⟩
 |d::l,x,y,h=>by
  obtain⟨z,g,f⟩:=dj h;rw[i1 g];show(bT T M x d::(match go T M x d with|some y=>ek T M y l|none=>[])).flatten=_/\(bT T M x d::(match go T M x d with|some y=>ek T M y l|none=>[])).length=_;rw[g];simp only[kA,bt];rw[(pv l f).1,(pv l f).2];exact⟨O,O⟩
inductive BJ (N:Nt) (goes:Nat->Nat->Int) (Wp:Nat->Nat->Prop):Nat->Nat->Int->Prop
 |first {r i j:Nat}:Wp r i->r<N.runs.length->i<j->j<N.len r->BJ N goes Wp 1 (N.stop r j) (N.comes r j)
 |walk {w s g:Nat}{x m:Int}:BJ N goes Wp w s x->w≠2->(g,m)∈N.ft s->BJ N goes Wp 2 g (x+m)
 |ride {w s r i j:Nat}{x:Int}:BJ N goes Wp w s x->r<N.runs.length->i<j->j<N.len r->N.stop r i=s->x+(if w=1 then N.chg.getD s 0 else 0)<=goes r i->BJ N goes Wp 1 (N.stop r j) (N.comes r j)
def bB (N:Nt) (goes:Nat->Nat->Int) (Wp:Nat->Nat->Prop) (r i:Nat):Prop:=Wp r i\/∃w x,BJ N goes Wp w (N.stop r i) x/\x+(if w=1 then N.chg.getD (N.stop r i) 0 else 0)<=goes r i
def jq (N:Nt) (F:List Nat) (s:Nat) (x:Int):Prop:=Behind N F s x\/∃u y m,Behind N F u y/\(s,m)∈N.ft u/\x=y+m
def oI (N:Nt) (F:List Nat) (s:Nat) (x:Int):Prop:=(∃y,Behind N F s y/\x=y+N.chg.getD s 0)\/∃u y m,Behind N F u y/\(s,m)∈N.ft u/\x=y+m
def tX (N:Nt) (goes:Nat->Nat->Int) (Wp:Nat->Nat->Prop) (e:on):Prop:=e.2.1<N.runs.length/\e.2.2+1<N.len e.2.1/\bB N goes Wp e.2.1 e.2.2
structure e0 (N:Nt) (goes:Nat->Nat->Int) (Wp:Nat->Nat->Prop) (S:SS):Prop where
 mid:aL N (jq N S.aa) (λ_ _ _=>True) (tX N goes Wp) (λe=>S.aa.getD e.2.1 0<=e.2.2) (jq N S.aa) (oI N S.aa) S
 e8:S.ab.length=N.n
 ab:∀s,s<N.n->lw (Behind N S.aa s) (S.ab.getD s 0)
 cY:S.aa.length=N.runs.length
 gH:∀r,r<N.runs.length->S.aa.getD r 0<N.len r
 gI:∀r,r<N.runs.length->S.aa.getD r 0+1=N.len r\/(S.aa.getD r 0+1<N.len r/\bB N goes Wp r (S.aa.getD r 0))
 cover:∀r i,r<N.runs.length->i+1<N.len r->Wp r i->S.aa.getD r 0<=i\/∃g,(g,r,i)∈S.ae
section
variable {N:Nt}{goes:Nat->Nat->Int}{Wp:Nat->Nat->Prop}
theorem Fq(hB:∀r i,Wp r i->d r i) (h:BJ N goes Wp w s x):BJ N goes d w s x:=by(
induction h with
|first h1 h2 a b=>exact .first (hB _ _ h1) h2 a b
|walk _ h2 a c=>exact .walk c h2 a
|ride _ h1 h2 a b e c=>exact .ride c h1 h2 a b e)
theorem yo(hB:∀r i,Wp r i->a r i) (h:bB N goes Wp r i):bB N goes a r i:=by(
rcases h with h|⟨w,x,h1,h2⟩
·exact .inl (hB _ _ h)
·exact .inr ⟨w,x,Fq hB h1,h2⟩)
theorem Fm(h:bB N goes Wp r i) (b:r<N.runs.length) (hi:i<j) (a:j<N.len r):BJ N goes Wp 1 (N.stop r j) (N.comes r j):=by(
rcases h with h|⟨w,x,h1,h2⟩
·exact .first h b hi a
·exact .ride h1 b hi a rfl h2)
theorem yv(h2:∀r,r<N.runs.length->F.getD r 0+1=N.len r\/(F.getD r 0+1<N.len r/\bB N goes Wp r (F.getD r 0))) (h:Behind N F s x):BJ N goes Wp 1 s x:=by(
obtain⟨r,j,a,b,c,rfl,rfl⟩:=h;rcases h2 r a with p|⟨_,p⟩
·lia
·exact Fm p a b c)
theorem tG(ok:bz N goes) (h:Behind N F s x):x+240<FS/\s<N.n:=by
 obtain⟨r,j,a,c,b,rfl,rfl⟩:=h;exact⟨ok.iL r j a b,ok.eO r j a b⟩
theorem Fp(c:∀r,r<N.runs.length->b.getD r 0<=F.getD r 0) (h:Behind N F s x):Behind N b s x:=by
 obtain⟨r,j,a,f,d,e⟩:=h;exact⟨r,j,a,by have:=c r a;lia,d,e⟩
theorem Fs (ok:bz N goes):e0 N goes (λ_ _=>False) (f1 N):=by(
have rep:∀ {A:Type}(n s:Nat) (x d:A),s<n->(f8 n x).getD s d=x:=λn s x d a=>by simp[np,ox,a]
have m:∀s,s<N.n->(N.af.map cC).getD s 0=(N.af.getD s []).length:=λs a=>by
 simp only[np,pr];rw[g1 (by rw[ok.hI];exact a)];rfl
have t:∀s,s<N.n->∀e,e∈N.af.getD s []->e.1<FS:=λs a e f=>by
 obtain⟨g,r,i⟩:=e;obtain⟨h1,h2,_,C⟩:=(ok.af s a g r i).mp f;have:=ok.k4 r i h1 (by lia);simp only;lia
have l:∀r,r<N.runs.length->(f1 N).aa.getD r 0=N.len r-1:=λr c=>by
 show(N.runs.map λr=>r.1.length-1).getD r 0=_;simp only[np,pr,Nt.len];rw[g1 c];rfl
have h:∀s x,¬Behind N (f1 N).aa s x:=by
 rintro s x ⟨r,j,y,z,D,_⟩;rw[l r y]at z;lia
have u:∀s x,¬jq N (f1 N).aa s x:=by
 rintro s x (q|⟨_,_,_,q,_⟩)
 ·exact h _ _ q
 ·exact h _ _ q
have w:∀s x,¬oI N (f1 N).aa s x:=by
 rintro s x (⟨_,q,_⟩|⟨_,_,_,q,_⟩)
 ·exact h _ _ q
 ·exact h _ _ q
refine⟨{
 dn:=by simp[f1],dq:=by simp[f1],dG:=by simp[f1],dH:=by simp[f1,ok.hI]
 arr:=λs a=>by show lw _ ((f8 N.n FS).getD s 0);rw[rep _ _ _ _ a];exact lw.never (u s)
 sub:=λ_ _ _ q=>q
 rides:=λs a o=>by
  have o:(f8 N.n FS).getD s 0<FS:=o;rw[rep _ _ _ _ a]at o;lia
 ready:=λs a=>by show lw _ ((f8 N.n FS).getD s 0);rw[rep _ _ _ _ a];exact lw.never (w s)
 bH:=λs a=>ku (m s a)
 d6:=λs a p b=>by
  have b:p<(N.af.map cC).getD s 0:=b;rw[m s a]at b;show _<(f8 N.n FS).getD s 0;rw[rep _ _ _ _ a];exact t s a _ (getD_mem b _)
 du:=λs a p b k=>by
  have b:(N.af.map cC).getD s 0<=p:=b;rw[m s a]at b;lia
 dX:=λe f=>by simp[f1]at f
 cX:=λs a e f k=>by
  have k:(f8 N.n FS).getD s 0<=e.1:=k;rw[rep _ _ _ _ a]at k;have:=t s a e f;lia},by simp[f1],λs a=>?_,by simp[f1],λr c=>?_,λr c=>?_,λ_ _ _ _ q=>q.elim⟩
·show lw _ ((f8 N.n FS).getD s 0);rw[rep _ _ _ _ a];exact lw.never (h s)
·rw[l r c];have:=ok.mW r c;lia
·rw[l r c];have:=ok.mW r c;exact .inl (by lia))
theorem e0.push(h:e0 N goes Wp S) (hB:∀r i,Wp r i->a r i) (j:∀r i,a r i->Wp r i\/(r=e.2.1/\i=e.2.2)) (l:a e.2.1 e.2.2) (h1:e.2.1<N.runs.length) (h2:e.2.2+1<N.len e.2.1):e0 N goes a {S with ae:=S.ae++[e]}:=by(
have m:=h.mid;refine⟨{dn:=m.dn,dq:=m.dq,dG:=m.dG,dH:=m.dH,arr:=m.arr,sub:=m.sub,rides:=m.rides,ready:=m.ready,bH:=m.bH,d6:=m.d6,du:=m.du,dX:=λd hd=>?_,cX:=λs o d hd n=>?_},h.e8,h.ab,h.cY,h.gH,λr b=>?_,λr i b hi k=>?_⟩
·rcases cs.mp hd with hd|hd
 ·rcases m.dX d hd with⟨c,f,p⟩|q
  ·exact .inl ⟨c,f,yo hB p⟩
  ·exact .inr q
 ·simp only[sc]at hd;subst hd;exact .inl ⟨h1,h2,.inl l⟩
·rcases m.cX s o d hd n with q|q
 ·exact .inl q
 ·exact .inr (gx _ q)
·rcases h.gI r b with q|⟨c,f⟩
 ·exact .inl q
 ·exact .inr ⟨c,yo hB f⟩
·rcases j r i k with q|⟨rfl,rfl⟩
 ·rcases h.cover r i b hi q with q|⟨g,q⟩
  ·exact .inl q
  ·exact .inr ⟨g,gx _ q⟩
 ·exact .inr ⟨e.1,fY _ (sc.mpr rfl)⟩)
theorem e0.ride(ok:bz N goes) (h:e0 N goes Wp S):e0 N goes Wp (cA N S):=by(
have hm:=h.mid;have L:∀ {s x},Behind N S.aa s x->BJ N goes Wp 1 s x:=λq=>yv h.gI q;have hB:∀e,e∈S.ae->e.2.1<N.runs.length/\e.2.2+1<N.len e.2.1/\bB N goes Wp e.2.1 e.2.2:=by
 rintro⟨g,r,i⟩ k;rcases hm.dX _ k with q|⟨s,d,h1,h2⟩
 ·exact q
 ·have h2:S.ready.getD s 0<=g:=h2;obtain⟨a,b,f,OR⟩:=(ok.af s d g r i).mp h1;refine⟨a,b,.inr ?_⟩;have hg:=ok.k4 r i a (by lia);have f:N.stop r i=s:=f;show ∃w x,BJ N goes Wp w (N.stop r i) x/\x+(if w=1 then N.chg.getD (N.stop r i) 0 else 0)<=goes r i;rw[f];rcases(hm.ready s d).1 with(⟨y,C,p2⟩|⟨u,y,m,C,p2,E⟩)|p
  ·exact⟨1,y,L C,by rw[No rfl];lia⟩
  ·exact⟨2,y+m,.walk (L C) (by decide) p2,by rw[Ps (by decide)];lia⟩
  ·lia
have c:f' N S.ab S.aa ([]++S.ae) (bF N S):=by
 refine f'.fold ok h.gH S.ae [] (λe k=>(hB e k).1) ?_;exact {off:= {len:=h.e8,min:=h.ab,le:=λs d=>fj _,ai:=λs=>by simp},cY:=h.cY,fE:=λr j=>tz _,leB:=λe k=>by simp at k,from_:=λr j=>.inl rfl}
rw[me]at c;generalize OO:bF N S=o at c;have mono:∀ {s x},Behind N S.aa s x->Behind N o.aa s x:=λq=>Fp c.fE q;have OM:∀r,r<N.runs.length->o.aa.getD r 0+1=N.len r\/(o.aa.getD r 0+1<N.len r/\bB N goes Wp r (o.aa.getD r 0)):=by
 intro r j;rcases c.from_ r j with q|⟨e,a,b,f⟩
 ·rw[q];exact h.gI r j
 ·obtain⟨C,p2,E⟩:=hB e a;rw[b,f]at E p2;exact .inr ⟨p2,E⟩
have OQ:aL N (jq N S.aa) (λ_ _ _=>True) (tX N goes Wp) (λe=>o.aa.getD e.2.1 0<=e.2.2) (jq N S.aa) (oI N S.aa) {S with taken:=S.taken+1,aa:=o.aa,ab:=o.ab,ae:=[]}:= {
 dn:=hm.dn,dq:=hm.dq,dG:=hm.dG,dH:=hm.dH,arr:=hm.arr,sub:=λ_ _ _ q=>q
 rides:=λs d D=>by
  have D:S.arr.getD s 0<FS:=D;refine .inl ⟨?_,trivial⟩;rcases(hm.arr s d).1 with q|q
  ·exact q
  ·lia
 ready:=hm.ready,bH:=hm.bH,d6:=hm.d6,du:=hm.du
 dX:=λe k=>by simp at k
 cX:=λs d e k t=>by
  obtain⟨g,r,i⟩:=e;obtain⟨a,b,f,OR⟩:=(ok.af s d g r i).mp k;rcases hm.cX s d _ k t with q|q
  ·have q:S.aa.getD r 0<=i:=q;have:=c.fE r a;exact .inl (by simp only;lia)
  ·exact .inl (c.leB _ q)}
have ea:∀u,u∈o.ai->u<N.n/\Behind N o.aa u (o.ab.getD u 0)/\o.ab.getD u 0+240<FS:=by
 intro u hu;obtain⟨h1,h2⟩:=(c.off.ai u).mp hu;have H:Behind N o.aa u (o.ab.getD u 0):=by
  rcases(c.off.min u h1).1 with q|q
  ·exact q
  ·rcases(h.ab u h1).1 with p|p
   ·have:=(tG ok p).1;lia
   ·lia
 exact⟨h1,H,(tG ok H).1⟩
have m1:=uI ok o.ab o.ai (S:= {S with taken:=S.taken+1,aa:=o.aa,ab:=o.ab,ae:=[]}) rfl (λu hu=>⟨(ea u hu).1,(ea u hu).2.2⟩) OQ;have Y:cA N S=o.ai.foldl (ba N) {S with taken:=S.taken+1,aa:=o.aa,ab:=o.ab,ae:=[]}:=by
 unfold cA;rw[OO]
have keep:∀(U:List Nat) (Z:SS),(U.foldl (ba N) Z).ab=Z.ab/\(U.foldl (ba N) Z).aa=Z.aa:=by
 intro U
 induction U with
 |nil=>intro Z;exact⟨O,O⟩
 |cons u U OP=>
  intro Z;rw[dS];obtain⟨a2,a3⟩:=OP (ba N Z u);obtain⟨OS,Q,T⟩:=uJ (N:=N) Z u;exact⟨a2.trans Q,a3.trans T⟩
obtain⟨A,l⟩:=keep o.ai {S with taken:=S.taken+1,aa:=o.aa,ab:=o.ab,ae:=[]};rw[<- Y]at m1 A l;simp only at A l;have aG:∀u y,u∉o.ai->Behind N o.aa u y->∃z,Behind N S.aa u z/\z<=y:=by
 intro u y j J;obtain⟨t,hu⟩:=tG ok J;have h1:=(c.off.min u hu).2 y J;have h2:¬o.ab.getD u 0<S.ab.getD u 0:=λq=>j ((c.off.ai u).mpr ⟨hu,q⟩);rcases(h.ab u hu).1 with q|q
 ·exact⟨_,q,by lia⟩
 ·lia
have m2:aL N (jq N S.aa) (λ_ _ _=>True) (tX N goes Wp) (λe=>o.aa.getD e.2.1 0<=e.2.2) (jq N o.aa) (oI N o.aa) (cA N S):=by
 refine m1.widen (λs d x q=>?_) (λs d x q=>?_) (λs d x q=>?_) (λs d x q=>?_)
 ·rcases q with(q|⟨u,y,m,a,b,f⟩)|⟨a,b⟩|⟨u,m,a,b,f⟩
  ·exact .inl (mono q)
  ·exact .inr ⟨u,y,m,mono a,b,f⟩
  ·rw[b];exact .inl (ea s a).2.1
  ·exact .inr ⟨u,_,m,(ea u a).2.1,b,f⟩
 ·rcases q with q|⟨u,y,m,a,b,f⟩
  ·by_cases e:s∈o.ai
   ·exact⟨_,.inr (.inl ⟨e,O⟩),(c.off.min s d).2 x q⟩
   ·obtain⟨z,hz,t⟩:=aG s x e q;exact⟨z,.inl (.inl hz),t⟩
  ·by_cases e:u∈o.ai
   ·have:=(c.off.min u (ea u e).1).2 y a;exact⟨_,.inr (.inr ⟨u,m,e,b,O⟩),by lia⟩
   ·obtain⟨z,hz,t⟩:=aG u y e a;exact⟨z+m,.inl (.inr ⟨u,z,m,hz,b,O⟩),by lia⟩
 ·rcases q with(⟨y,q,e⟩|⟨u,y,m,a,b,f⟩)|⟨a,b⟩|⟨u,m,a,b,f⟩
  ·exact .inl ⟨y,mono q,e⟩
  ·exact .inr ⟨u,y,m,mono a,b,f⟩
  ·exact .inl ⟨_,(ea s a).2.1,b⟩
  ·exact .inr ⟨u,_,m,(ea u a).2.1,b,f⟩
 ·rcases q with⟨y,q,OT⟩|⟨u,y,m,a,b,f⟩
  ·by_cases e:s∈o.ai
   ·have:=(c.off.min s d).2 y q;exact⟨_,.inr (.inl ⟨e,O⟩),by lia⟩
   ·obtain⟨z,hz,t⟩:=aG s y e q;exact⟨z+N.chg.getD s 0,.inl (.inl ⟨z,hz,O⟩),by lia⟩
  ·by_cases e:u∈o.ai
   ·have:=(c.off.min u (ea u e).1).2 y a;exact⟨_,.inr (.inr ⟨u,m,e,b,O⟩),by lia⟩
   ·obtain⟨z,hz,t⟩:=aG u y e a;exact⟨z+m,.inl (.inr ⟨u,z,m,hz,b,O⟩),by lia⟩
refine⟨?_,by rw[A];exact c.off.len,λs d=>by rw[A,l];exact c.off.min s d,by rw[l];exact c.cY,λr j=>?_,λr j=>by rw[l];exact OM r j,λr i j hi ON=>?_⟩
·rw[l];exact {dn:=m2.dn,dq:=m2.dq,dG:=m2.dG,dH:=m2.dH,arr:=m2.arr,sub:=λ_ _ _ q=>q,rides:=λs d D=>.inl ⟨(m2.arr s d).1.elim id (λq=>by lia),trivial⟩,ready:=m2.ready,bH:=m2.bH,d6:=m2.d6,du:=m2.du,dX:=m2.dX,cX:=m2.cX}
·rw[l];have:=c.fE r j;have:=h.gH r j;lia
·rw[l];refine .inl ?_;rcases h.cover r i j hi ON with q|⟨g,q⟩
 ·have:=c.fE r j;lia
 ·exact c.leB _ q)
theorem e0.fin(ok:bz N goes) (h:e0 N goes Wp S) (hB:∀r i j,Wp r i->i<j->j<N.len r->i+1<N.len r) (z:S.ae=[]) (a:s<N.n):lw (λx=>∃w,BJ N goes Wp w s x) (S.arr.getD s 0):=by(
have hm:=h.mid;have key:∀w s x,BJ N goes Wp w s x->s<N.n/\((w=1/\S.ab.getD s 0<=x/\x+240<FS)\/(w=2/\S.ready.getD s 0<=x/\S.arr.getD s 0<=x)):=by
 intro w s x q;have D:∀r i j,r<N.runs.length->i<j->j<N.len r->S.aa.getD r 0<=i->N.stop r j<N.n/\((1=1/\S.ab.getD (N.stop r j) 0<=N.comes r j/\N.comes r j+240<FS)\/(1=2/\S.ready.getD (N.stop r j) 0<=N.comes r j/\S.arr.getD (N.stop r j) 0<=N.comes r j)):=by
  intro r i j d hi p hf;have A:=ok.eO r j d p;exact⟨A,.inl ⟨O,(h.ab _ A).2 _ ⟨r,j,d,by lia,p,O,O⟩,ok.iL r j d p⟩⟩
 induction q with
 |@first r i j h1 h2 k l=>
  refine D r i j h2 k l ?_;rcases h.cover r i h2 (by lia) h1 with q|⟨g,q⟩
  ·exact q
  ·rw[z]at q;simp at q
 |@walk w s g x m _ hw hf b=>
  obtain⟨a,b⟩:=b;have o:=ok.foot s g m a hf;rcases b with⟨_,f,C⟩|⟨e,_⟩
  ·have c:Behind N S.aa s (S.ab.getD s 0):=by
    rcases(h.ab s a).1 with q|q
    ·exact q
    ·lia
   have a1:=(hm.ready g o.1).2 (S.ab.getD s 0+m) (.inr ⟨s,_,m,c,hf,O⟩);have a2:=(hm.arr g o.1).2 (S.ab.getD s 0+m) (.inr ⟨s,_,m,c,hf,O⟩);exact⟨o.1,.inr ⟨O,by lia,by lia⟩⟩
  ·exact absurd e hw
 |@ride w s r i j x _ h1 h2 k l t b=>
  obtain⟨a,b⟩:=b;refine D r i j h1 h2 k ?_;have d:S.ready.getD s 0<=goes r i:=by
   rcases b with⟨rfl,f,C⟩|⟨rfl,f,_⟩
   ·have c:Behind N S.aa s (S.ab.getD s 0):=by
     rcases(h.ab s a).1 with q|q
     ·exact q
     ·lia
    have a1:=(hm.ready s a).2 (S.ab.getD s 0+N.chg.getD s 0) (.inl ⟨_,c,O⟩);rw[No rfl]at t;lia
   ·rw[Ps (by decide)]at t;lia
  rcases hm.cX s a (goes r i,r,i) ((ok.af s a _ r i).mpr ⟨h1,by lia,l,O⟩) d with q|q
  ·exact q
  ·rw[z]at q;simp at q
have E:∀ {s x},Behind N S.aa s x->BJ N goes Wp 1 s x:=λq=>yv h.gI q;refine⟨?_,?_⟩
·rcases(hm.arr s a).1 with(q|⟨u,y,m,H,J,L⟩)|q
 ·exact .inl ⟨1,E q⟩
 ·exact .inl ⟨2,by rw[L];exact .walk (E H) (by decide) J⟩
 ·exact .inr q
·rintro x ⟨w,q⟩;obtain⟨_,⟨_,f,C⟩|⟨_,_,f⟩⟩:=key w s x q
 ·have c:Behind N S.aa s (S.ab.getD s 0):=by
   rcases(h.ab s a).1 with q|q
   ·exact q
   ·lia
  have:=(hm.arr s a).2 _ (.inl c);lia
 ·exact f)
end
section
variable {N:Nt}{goes:Nat->Nat->Int}{a:Nat}{t:Int}
def EG (N:Nt) (a s:Nat) (o:Option Int):Prop:=ce (λf=>(s=a/\f=0)\/(s,f)∈N.ft a) o
def mf (N:Nt) (goes:Nat->Nat->Int) (a:Nat) (t:Int) (r i:Nat):Prop:=r<N.runs.length/\i+1<N.len r/\∃f,((N.stop r i=a/\f=0)\/(N.stop r i,f)∈N.ft a)/\t+f<=goes r i
theorem tI:BJ N goes (mf N goes a t) w s x↔∃n,NJ N goes a t (n+1) w s x:=by(
constructor
·intro h
 induction h with
 |first h1 h2 b e=>
  obtain⟨_,_,f,d|d,g⟩:=h1
  ·obtain⟨l,rfl⟩:=d;exact⟨0,.ride .start h2 b e l (by simpa using g)⟩
  ·exact⟨0,.ride (.walk .start (by decide) d) h2 b e rfl (by simpa using g)⟩
 |walk _ h2 b c=>obtain⟨n,c⟩:=c;exact⟨n,.walk c h2 b⟩
 |ride _ h1 h2 b e d c=>obtain⟨n,c⟩:=c;exact⟨n+1,.ride c h1 h2 b e d⟩
·rintro⟨n,h⟩;generalize o:n+1=k at h
 induction h generalizing n with
 |start=>lia
 |walk _ h2 b c=>exact .walk (c n o) h2 b
 |@ride p w s r i j x h h1 h2 b e d c=>
  cases p with
  |succ m=>exact .ride (c m rfl) h1 h2 b e d
  |zero=>
   refine .first ⟨h1,by lia,?_⟩ h1 h2 b
   rw[e];rcases uD h with⟨_,rfl,rfl,rfl⟩|rfl|rfl
   ·exact⟨0,.inl ⟨O,O⟩,by simpa using d⟩
   ·exact absurd h m5
   ·rw[Ps (by decide)]at d;rcases t2.mp ⟨0,2,tz _,by decide,h⟩with⟨rfl,rfl⟩|⟨m,q,u⟩
    ·exact⟨0,.inl ⟨O,O⟩,by lia⟩
    ·exact⟨m,.inr q,by lia⟩)
noncomputable def arrOf (arr:Int) (t:Int) (o:Option Int):Int:=min arr (t+o.getD FS)
theorem K3(ok:bz N goes) (k:a<N.n) (h0:0<=t) (l:t+240<FS) (hf:EG N a s o) (h:lw (λx=>∃w,BJ N goes (mf N goes a t) w s x) v):lw (λx=>∃n w,NJ N goes a t n w s x) (arrOf v t o):=by(
have lt:∀n w x,NJ N goes a t n w s x->x<FS:=λn w x q=>(iT ok k l q).1;have h1:∀x,(∃n w,NJ N goes a t n w s x)↔(∃w,BJ N goes (mf N goes a t) w s x)\/∃f,((s=a/\f=0)\/(s,f)∈N.ft a)/\x=t+f:=by
 intro x;constructor
 ·rintro⟨n,w,q⟩;cases n with
  |succ n=>exact .inl ⟨w,tI.mpr ⟨n,q⟩⟩
  |zero=>
   right;by_cases e:w=1
   ·subst e;exact absurd q m5
   ·rcases t2.mp ⟨0,w,tz _,e,q⟩with⟨rfl,rfl⟩|⟨m,d,i⟩
    ·exact⟨0,.inl ⟨O,O⟩,by lia⟩
    ·exact⟨m,.inr d,i⟩
 ·rintro(⟨w,q⟩|⟨f,⟨rfl,rfl⟩|q,rfl⟩)
  ·obtain⟨n,q⟩:=tI.mp q;exact⟨_,w,q⟩
  ·exact⟨0,0,by rw[D8];exact .start⟩
  ·exact⟨0,2,.walk .start (by decide) q⟩
have hv:v<=FS:=by
 rcases h.1 with⟨w,q⟩|q
 ·obtain⟨n,q⟩:=tI.mp q;have:=lt _ _ _ q;lia
 ·lia
unfold arrOf;cases o with
|none=>
 have e:min v (t+(none:Option Int).getD FS)=v:=by show min v (t+FS)=v;lia
 rw[e];refine h.congr λx=>?_;rw[h1];exact⟨.inl,λq=>q.elim id λ⟨f,q,_⟩=>absurd q (hf f)⟩
|some b=>
 show lw _ (min v (t+b));obtain⟨g,j⟩:=hf;have:=(h.put (y:=t+b)).resolve_right λq=>q (lt _ _ _ ((h1 (t+b)).mpr (.inr ⟨b,g,O⟩)).choose_spec.choose_spec);have e:(if t+b<v then t+b else v)=min v (t+b):=by split<;>lia
 rw[e]at this;refine this.widen (λy c=>?_) λy c=>?_
 ·rw[h1];rcases c with q|rfl
  ·exact .inl q
  ·exact .inr ⟨b,g,O⟩
 ·rcases(h1 y).mp c with q|⟨f,d,i⟩
  ·exact⟨y,.inl q,fj _⟩
  ·exact⟨t+b,.inr rfl,by have:=j f d;lia⟩)
end
theorem K4(hT:bm T) (h:ss (up T) (wT T M) (lm T M) (ol T) N) (e:a<T.stops.length) (j:b<T.stops.length) (hv:v+241<FS) {E:Int->Int}
  (d:∀m,u<=m->m<=v+1->lw (λx=>∃n w,NJ N (f0 (wT T M)) a m n w b x) (E m)):
  ((s4 (v-u+1).toNat).filterMap λ(i:Nat)=>match l2 (aE T M a (u+(i:Int)) (aJ T M)) b,l2 (aE T M a (u+(i:Int)+1) (aJ T M)) b with
   |some x,some y=>if x<y then some [u+(i:Int),x]else none
   |some x,none=>some [u+(i:Int),x]
   |none,_=>none)=(s4 (v-u+1).toNat).filterMap λ(i:Nat)=>if E (u+(i:Int))<E (u+(i:Int)+1)then some [u+(i:Int),E (u+(i:Int))]else none:=by
 obtain⟨ok,same,k⟩:=dF hT h;have c:∀m,u<=m->m<=v+1->l2 (aE T M a m (aJ T M)) b=c7 (E m)/\E m<=FS:=by
  intro m h1 h2;have lt:∀x,(∃n w,NJ N (f0 (wT T M)) a m n w b x)->x<FS:=λx ⟨n,w,q⟩=>(iT ok (by rw[k];exact e) (by lia) q).1;have q:=(d m h1 h2).minOf lt;refine⟨(oX (M:=M) (t:=m) hT.right e j).uniq (q.congr λx=>?_),?_⟩
  ·constructor
   ·rintro⟨n,w,z⟩;exact⟨n,gY.mpr ⟨w,same.gj.mp (eo.mp z)⟩⟩
   ·rintro⟨n,z⟩;obtain⟨w,z⟩:=gY.mp z;exact⟨n,w,eo.mpr (same.gj.mpr z)⟩
  ·rcases(d m h1 h2).1 with z|z
   ·have:=lt _ z;lia
   ·lia
 refine kT λi hi=>?_;rw[bS]at hi;obtain⟨f,l⟩:=c (u+(i:Int)) (by lia) (by lia);obtain⟨g,o⟩:=c (u+(i:Int)+1) (by lia) (by lia);rw[f,g];unfold c7;by_cases c1:E (u+(i:Int))=FS
 ·have c3:¬(E (u+(i:Int))<E (u+(i:Int)+1)):=by lia
  rw[No c1,Ps c3]
 ·rw[Ps c1];by_cases c2:E (u+(i:Int)+1)=FS
  ·rw[No c2,No (by lia)]
  ·rw[Ps c2]
theorem GO {a:Type}(f:Nat->Option a) (n:Nat):((s4 n).filterMap f).reverse=(s4 n).filterMap λi=>f (n-1-i):=by(
rw[<- List.filterMap_reverse];have:(s4 n).reverse=(s4 n).map λi=>n-1-i:=by
 apply rN
 ·simp
 ·intro i h1 h2;simp
rw[this,sX];rfl)
end Tw
namespace L2
open PySem PySem.Spec PyProof.Rows
abbrev sw:=Sum Int Str
def iR:sw->Tk->Bool
 |.inl k,v=>sE k v
 |.inr x,v=>DY x v
def H7 (w:kw):sw->Int
 |.inl k=>w0 k
 |.inr x=>hashStr w x
theorem gO:∀ {k:sw}{v:Tk},iR k v=true->(∃i t,k=ii i/\v=il i t)\/(∃x t,k=jf x/\v=Value.str x t)
 |.inl i,v,h=>by
  obtain⟨t,e⟩:=Value.isInt_shape (k:=i) (v:=v) h;exact .inl ⟨i,t,O,e⟩
 |.inr x,v,h=>by
  obtain⟨t,e⟩:=Value.isStrOf_shape (x:=x) (v:=v) h;exact .inr ⟨x,t,O,e⟩
theorem H8 (i:Int) (t:Tok):iR (.inl i) (.int i t)=true:=by simp[iR,sE]
theorem H9 (x:Str) (t:Tok):iR (.inr x) (.str x t)=true:=by simp[iR,DY]
theorem H_ (a b:Int):decide ((ii a:sw)=ii b)=(a==b):=by(
by_cases e:a=b
·subst e;simp
·have h:¬(ii a:sw)=ii b:=λq=>e (Sum.inl.inj q);rw[sn h];exact(lO.mpr e).symm)
theorem Ib (a b:Str):decide ((jf a:sw)=jf b)=decide (a=b):=by(
by_cases e:a=b
·subst e;simp
·have h:¬(jf a:sw)=jf b:=λq=>e (Sum.inr.inj q);rw[sn h,sn e])
theorem H' (a:Int) (b:Str):decide ((ii a:sw)=jf b)=false:=sn (λq=>nomatch q)
theorem Ia (a:Str) (b:Int):decide ((jf a:sw)=ii b)=false:=sn (λq=>nomatch q)
def cj (prog:fr) (w:kw):PySem.KeyKind prog w sw where
 is:=iR
 hash:=H7 w
 inj:=λv a b f d=>by
  rcases gO f with⟨i,t,rfl,rfl⟩|⟨x,t,rfl,rfl⟩
  ·rcases gO d with⟨j,u,rfl,e⟩|⟨y,u,rfl,e⟩
   ·injection e with c _;rw[c]
   ·exact nomatch e
  ·rcases gO d with⟨j,u,rfl,e⟩|⟨y,u,rfl,e⟩
   ·exact nomatch e
   ·injection e with c _;rw[c]
 byValue:=λk v h=>by
  rcases gO h with⟨i,t,rfl,rfl⟩|⟨x,t,rfl,rfl⟩<;>rfl
 pyHash:=λhv h=>by
  rcases gO hv with⟨i,t,rfl,rfl⟩|⟨x,t,rfl,rfl⟩
  ·exact wpAny_pyHash_int h
  ·exact wpAny_pyHash_str h
 eqBool:=λhu hv h=>by
  rcases gO hu with⟨i,t,rfl,rfl⟩|⟨x,t,rfl,rfl⟩
  ·rcases gO hv with⟨j,u,rfl,rfl⟩|⟨y,u,rfl,rfl⟩
   ·rw[H_]at h;exact C3 h
   ·rw[H']at h;exact SeqAt.EqAt.int_str i t y u _ _ _ _ h
  ·rcases gO hv with⟨j,u,rfl,rfl⟩|⟨y,u,rfl,rfl⟩
   ·rw[Ia]at h;exact SeqAt.EqAt.str_int x t j u _ _ _ _ h
   ·rw[Ib]at h;exact wpAny_eqBool_str h
 «strs» :=λk x t v h=>by
  rcases gO h with⟨i,u,rfl,e⟩|⟨y,u,rfl,e⟩
  ·exact nomatch e
  ·injection e with c _;subst c;cases v<;>rfl
theorem IJ (prog:fr) (w:kw) (i:Int) (t:Tok):(cj prog w).is (.inl i) (.int i t)=true:=H8 i t
theorem IK (prog:fr) (w:kw) (x:Str) (t:Tok):(cj prog w).is (.inr x) (.str x t)=true:=H9 x t
inductive W1 where
 |ak|bl (b:Bool)|int (i:Int)|str (x:Str)|fy (b:Array UInt8)|pa (b:UInt64)|ref (a:WF)|ty (n:String)
 deriving DecidableEq
def RelV:W1->Tk->Prop
 |.ak,u=>u=Value.none
 |.bl b,u=>u=sF b
 |.int i,u=>∃t,u=il i t
 |.str x,u=>∃t,u=Value.str x t
 |.fy b,u=>∃t,u=DZ b t
 |.pa b,u=>∃t,u=D0 b t
 |.ref a,u=>u=em a
 |.ty n,u=>u=D1 n
abbrev ww:List W1->List Tk->Prop:=Paired RelV
theorem ww.length(r:ww xs us):xs.length=us.length:=Paired.length r
theorem ww.get:∀ {xs:List W1}{us:List Tk}{i:Nat}{x:W1},ww xs us->xs[i]?=some x->∃u,us[i]?=some u/\RelV x u
 |_,_,_,_,.nil,e=>by simp at e
 |_,_,0,_,.cons r _,e=>by simp at e;subst e;exact⟨_,O,r⟩
 |_,_,i+1,x,.cons _ t,e=>by
  obtain⟨u,h1,h2⟩:=ww.get (i:=i) (x:=x) t (by simpa using e);exact⟨u,by simpa using h1,h2⟩
theorem ww.set(r:RelV x u):∀ {xs:List W1}{us:List Tk}(i:Nat),ww xs us->ww (xs.set i x) (us.set i u)
 |_,_,_,.nil=>.nil
 |_,_,0,.cons _ t=>.cons r t
 |_,_,i+1,.cons q t=>.cons q (ww.set r i t)
theorem ww.append(h:ww xs us) (s:ww ys b):ww (xs++ys) (us++b):=by(
induction h with
|nil=>exact s
|cons r t a=>exact .cons r a)
theorem ww.take:∀ {xs:List W1}{us:List Tk}(n:Nat),ww xs us->ww (xs.take n) (us.take n)
 |_,_,0,_=>.nil
 |_,_,_+1,.nil=>.nil
 |_,_,n+1,.cons r t=>.cons r (ww.take n t)
theorem ww.drop:∀ {xs:List W1}{us:List Tk}(n:Nat),ww xs us->ww (xs.drop n) (us.drop n)
 |_,_,0,r=>r
 |_,_,_+1,.nil=>.nil
 |_,_,n+1,.cons _ t=>ww.drop n t
theorem ww.none_of:∀ {xs:List W1}{us:List Tk}{i:Nat},ww xs us->xs[i]?=none->us[i]?=none:=λ{xs us i} r e=>by
 have h1:=r.length;have h2:xs.length<=i:=sU.mp e;exact sU.mpr (by lia)
def dg:Option W1->Option Tk->Prop
 |some v,some u=>RelV v u
 |none,none=>True
 |_,_=>False
def KV {κ:Type}:List (κ×W1)->List (κ×Tk)->Prop:=Paired λ(p:κ×W1) (q:κ×Tk)=>p.1=q.1/\RelV p.2 q.2
def kV:sw->W1
 |.inl i=>.int i
 |.inr x=>.str x
inductive HO where
 |lst (xs:List W1)
 |tup (xs:List W1)
 |dK (T0:List (sw×W1))|dT (T0:List (List sw×W1))
 |set (S:Int->Bool) (n:Nat)
 |ins (C dx:WF) (fs:List (Str×W1))
 |own (x:WF)
 |xd (fs:List (Str×W1))
 |met (f x:WF)
 |u_ (lo hi:Int)
 |aw (o:Obj) (u:HO)
 |j' (ps:Array Tk)
 |ext (a:s2->Prop)
abbrev Hp:=WF->Option HO
def Uf (H:Hp) (a:WF) (o:HO):Hp:=λb=>if b=a then some o else H b
theorem KE:Uf H a o a=some o:=by unfold Uf;rw[No rfl]
theorem UF(h:b≠a):Uf H a o b=H b:=by unfold Uf;rw[Ps h]
theorem gZ:Uf (Uf H a o) a u=Uf H a u:=by
 funext b;unfold Uf;split<;>rfl
theorem Ae{H:Hp}(h:H a=some o) (h':H b=some u) (d:o≠u):a≠b:=by
 intro e;subst e;rw[h]at h';exact d (b3 h')
theorem v0{H:Hp}(h:H a=some o) (h':H b=none):a≠b:=by
 intro e;subst e;rw[h]at h';cases h'
section
variable (P:fr) (w:kw)
def bA (H:Hp) (h:s2) (a:WF):HO->Prop
 |.lst xs=>xs.length<=Gc/\∃(Op:List Tk) (n:Nat),ww xs Op/\h.get? a=some {cls:=.type "list",data:=.seq Op.toArray n}
 |.tup xs=>xs.length<=Gc/\∃Op:List Tk,ww xs Op/\ji h a Op.toArray
 |.dK T0=>T0.length<=Gc/\(a==eS)=false/\∃vs,KV T0 vs/\h.DictOf (cj P w) a vs
 |.dT T0=>T0.length<=Gc/\(a==eS)=false/\∃xs:List (List sw×WF×Tk),
   Paired (λ(p:List sw×W1) (q:List sw×WF×Tk)=>p.1=q.1/\H q.2.1=some (.tup (p.1.map kV))/\RelV p.2 q.2.2) T0 xs/\
   ∃o es ep,h.get? a=some o/\o.ExactDict/\o.data=.dict es ep/\es.toList=xs.map (entryOfKey (lR (cj P w)))/\(xs.map (·.1)).Nodup
 |.set S n=>h.SetOf (intKind P w) a S n
 |.ins C dx fs=>H dx=some (.own a)/\fs.length<=1000/\dx≠a/\h.get? a=some (ja C dx)/\
   ∃mA,h.Ns1 dx mA/\(∀f,dg (fs.lookup f) (mA f))/\wI mA (fs.map (·.1))
 |.own _=>∃o,h.get? a=some o
 |.xd fs=>∃mA,h.Ns1 a mA/\∀f,dg (fs.lookup f) (mA f)
 |.u_ lo hi=>∃t u v,h.get? a=some {cls:=.type "range",data:=.fields #[.int lo t,.int hi u,.int 1 v]}
 |.aw o u=>h.get? a=some o/\bA H h a u
 |.j' ps=>h.get? a=some {cls:=.none,data:=.fields ps}
 |.met f x=>h.get? a=some (w' (.ref f) (.ref x))
 |.ext b=>b h/\(∃o,h.get? a=some o)/\∀h1 h2:s2,b h1->(∀o,h1.get? a=some o->h2.get? a=some o)->b h2
def aV (H:Hp) (h:s2):Prop:=∀a o,H a=some o->bA P w H h a o
end
section
variable {P:fr}{w:kw}{H I:Hp}{h h':s2}{a:WF}{o:HO}
theorem bA.lt (x:bA P w H h a o):a<h.objs.size:=by(
cases o with
|lst xs=>obtain⟨_,_,_,_,e⟩:=x;exact cr e
|tup xs=>obtain⟨_,_,_,p⟩:=x;exact p.lt
|dK T0=>obtain⟨_,_,_,_,o,_,_,e,_⟩:=x;exact cr e
|dT T0=>obtain⟨_,_,_,_,o,_,_,e,_⟩:=x;exact cr e
|set S n=>obtain⟨o,_,_,_,e,_⟩:=x;exact cr e
|ins C dx fs=>obtain⟨_,_,_,e,_⟩:=x;exact cr e
|own y=>obtain⟨_,e⟩:=x;exact cr e
|xd fs=>obtain⟨_,⟨_,_,_,e,_⟩,_⟩:=x;exact cr e
|u_ lo hi=>obtain⟨_,_,_,e⟩:=x;exact cr e
|aw ob u=>obtain⟨e,_⟩:=x;exact cr e
|j' ps=>exact cr (show h.get? a=some _ from x)
|met f y=>exact cr (show h.get? a=some _ from x)
|ext b=>obtain⟨_,⟨_,e⟩,_⟩:=x;exact cr e)
theorem Paired.Ab{l₂:List e}(p:Paired F d l₂) (f:∀a b,F a b->G a b):Paired G d l₂:=by(
induction p with
|nil=>exact .nil
|cons r t c=>exact .cons (f _ _ r) c)
theorem bA.gX (x:bA P w H h a o) (k:∀b u,(b=a\/H b=some (.own a))->h.get? b=some u->h'.get? b=some u)
  (j:∀b,H b=some (.own a)->I b=some (.own a)) (l:∀b xs,H b=some (.tup xs)->I b=some (.tup xs)):bA P w I h' a o:=by(
induction o with
|lst xs=>obtain⟨z,Op,n,r,e⟩:=x;exact⟨z,Op,n,r,k _ _ (.inl rfl) e⟩
|tup xs=>obtain⟨z,Op,r,ob,e,c⟩:=x;exact⟨z,Op,r,ob,k _ _ (.inl rfl) e,c⟩
|dK T0=>obtain⟨z,y,vs,r,ob,es,ep,e,c⟩:=x;exact⟨z,y,vs,r,ob,es,ep,k _ _ (.inl rfl) e,c⟩
|dT T0=>
 obtain⟨z,y,xs,r,ob,es,ep,e,c⟩:=x;exact⟨z,y,xs,Paired.Ab r λp q z=>⟨z.1,l _ _ z.2.1,z.2.2⟩,ob,es,ep,k _ _ (.inl rfl) e,c⟩
|set S n=>obtain⟨ob,es,ep,t,e,c⟩:=x;exact⟨ob,es,ep,t,k _ _ (.inl rfl) e,c⟩
|ins C dx fs=>
 obtain⟨d,z,ne,e,mA,⟨g,es,ep,i,c⟩,r⟩:=x;exact⟨j _ d,z,ne,k _ _ (.inl rfl) e,mA,⟨g,es,ep,k _ _ (.inr d) i,c⟩,r⟩
|own y=>obtain⟨ob,e⟩:=x;exact⟨ob,k _ _ (.inl rfl) e⟩
|xd fs=>obtain⟨mA,⟨g,es,ep,e,c⟩,r⟩:=x;exact⟨mA,⟨g,es,ep,k _ _ (.inl rfl) e,c⟩,r⟩
|u_ lo hi=>obtain⟨t,u,v,e⟩:=x;exact⟨t,u,v,k _ _ (.inl rfl) e⟩
|aw ob u m=>obtain⟨e,q⟩:=x;exact⟨k _ _ (.inl rfl) e,m q⟩
|j' ps=>
 have e:h.get? a=some {cls:=.none,data:=.fields ps}:=x;show h'.get? a=some {cls:=.none,data:=.fields ps};exact k a _ (.inl rfl) e
|met f y=>
 have e:h.get? a=some (w' (.ref f) (.ref y)):=x;show h'.get? a=some (w' (.ref f) (.ref y));exact k a _ (.inl rfl) e
|ext s=>obtain⟨p,⟨o,e⟩,st⟩:=x;exact⟨st _ _ p λo q=>k _ _ (.inl rfl) q,⟨o,k _ _ (.inl rfl) e⟩,st⟩)
theorem aV.lt (x:aV P w H h) (e:H a=some o):a<h.objs.size:=(x a o e).lt
theorem aV.fresh (x:aV P w H h) (e:h.objs.size<=a):H a=none:=by(
cases q:H a with
|none=>rfl
|some u=>exact absurd (c_ (x.lt q) e) (hh _))
theorem aV.kept (x:aV P w H h) (k:∀b u,h.get? b=some u->h'.get? b=some u):aV P w H h':=λa o e=>
 (x a o e).gX (λb u _ q=>k b u q) (λ_ q=>q) λ_ _ q=>q
theorem aV.laid (x:aV P w H h) (k:∀b u,h.get? b=some u->h'.get? b=some u) (g:h.objs.size<=a) (new:bA P w (Uf H a o) h' a o):aV P w (Uf H a o) h':=λb u e=>by
 have f:=x.fresh g;by_cases d:b=a
 ·subst d;rw[KE]at e;cases e;exact new
 ·rw[UF d]at e;exact(x b u e).gX (λc v _ q=>k c v q) (λc q=>by rw[UF (v0 q f)];exact q) λc xs q=>by rw[UF (v0 q f)];exact q
end
def Rd (H:Hp) (a:WF) (u:HO):Prop:=H a=some u\/∃o,H a=some (.aw o u)
theorem Rd.ok(r:Rd H a u) (x:aV P w H h):bA P w H h a u:=by(
rcases r with r|⟨o,r⟩
·exact x a u r
·obtain⟨_,q⟩:=x a _ r;exact q)
def iz:Option HO->Prop
 |some (.lst _)=>True
 |some (.dK _)=>True
 |some (.dT _)=>True
 |some (.set _ _)=>True
 |some (.ins _ _ _)=>True
 |some (.ext _)=>True
 |_=>False
section
variable {P:fr}{w:kw}{H:Hp}{h h':s2}{x e:WF}{o':HO}
theorem aV.write (ok:aV P w H h) (g:iz (H x)) (i:e=x\/H e=some (.own x)) (k:∀b u,b≠e->h.get? b=some u->h'.get? b=some u) (m:∃u,h'.get? e=some u)
  (new:bA P w (Uf H x o') h' x o'):aV P w (Uf H x o') h':=λb u q=>by
 have j:∀c y,H c=some (.own y)->c≠x:=λc y r z=>by subst z;rw[r]at g;exact g
 have n:∀c xs,H c=some (.tup xs)->c≠x:=λc xs r z=>by subst z;rw[r]at g;exact g
 by_cases a:b=x
 ·subst a;rw[KE]at q;cases q;exact new
 ·rw[UF a]at q;by_cases d:b=e
  ·have l:H b=some (.own x):=by
    rcases i with z|z
    ·exact absurd (d.trans z) a
    ·rw[d];exact z
   rw[q]at l;cases l;obtain⟨v,hv⟩:=m;exact⟨v,by rw[d];exact hv⟩
  ·refine(ok b u q).gX (λc v f r=>k c v ?_ r) (λc r=>by rw[UF (j c b r)];exact r) λc xs r=>by rw[UF (n c xs r)];exact r
   rcases f with rfl|f
   ·exact d
   ·rintro rfl;rcases i with z|z
    ·exact j c b f z
    ·rw[f]at z;cases z;exact a rfl
end
structure Un (fs ex:List WF) (H I:Hp) (h h':s2):Prop where
 keep:∀b o,h.get? b=some o->H b=none->b∉fs->b∉ex->h'.get? b=some o
 slot:∀b o,h.get? b=some o->H b=none->b∈fs->b∉ex->∃a,h'.get? b=some {o with slots:=a}
 free:∀b o,h.get? b=some o->H b=none->b∉ex->I b=none
 there:∀b o,h.get? b=some o->b∉ex->∃o',h'.get? b=some o'
 fb:∀b xs,H b=some (.tup xs)->I b=some (.tup xs)
 gh:∀b o u,H b=some (.aw o u)->I b=some (.aw o u)
 h5:∀b ps,H b=some (.j' ps)->∃more,I b=some (.j' (ps++more))
section
variable {fs k0 ex OL:List WF}{H H1 H2:Hp}{h h1 h2 h':s2}{a x e:WF}{o:HO}
theorem Un.any(u:Un fs ex H H1 h h1) (q:h.get? b=some ob) (n:H b=none) (d:b∉ex):∃f,h1.get? b=some {ob with slots:=f}:=by(
by_cases c:b∈fs
·exact u.slot b ob q n c d
·exact⟨ob.slots,u.keep b ob q n c d⟩)
theorem Un.kept (k:∀b u,h.get? b=some u->h'.get? b=some u):Un fs ex H H h h':=
 ⟨λb ob q _ _ _=>k b ob q,λb ob q _ _ _=>⟨ob.slots,k b ob q⟩,λ_ _ _ n _=>n,λb ob q _=>⟨ob,k b ob q⟩,λ_ _ q=>q,λ_ _ _ q=>q,λ_ ps q=>⟨#[],by rw[q];simp⟩⟩
theorem Un.refl:Un fs ex H H h h:=Un.kept λ_ _ q=>q
theorem Un.laid (k:∀b u,h.get? b=some u->h'.get? b=some u) (d:h.objs.size<=a) (c:H a=none):Un fs ex H (Uf H a o) h h' where
 keep:=λb u q _ _ _=>k b u q
 slot:=λb u q _ _ _=>⟨u.slots,k b u q⟩
 free:=λb u q n _=>by rw[UF (cb (c_ (cr q) d))];exact n
 there:=λb u q _=>⟨u,k b u q⟩
 fb:=λb xs q=>by rw[UF (v0 q c)];exact q
 gh:=λb u xs q=>by rw[UF (v0 q c)];exact q
 h5:=λb ps q=>⟨#[],by rw[UF (v0 q c),q];simp⟩
theorem Un.write (c:iz (H x)) (i:e=x\/H e=some (.own x)) (k:∀b u,b≠e->h.get? b=some u->h'.get? b=some u) (j:∃u,h'.get? e=some u):Un fs ex H (Uf H x o) h h':=by(
have g:∀b,H b=none->b≠x:=λb n z=>by subst z;rw[n]at c;exact c
have d:∀b,H b=none->b≠e:=λb n z=>by
 subst z;rcases i with r|r
 ·exact g b n r
 ·rw[n]at r;cases r
have hm:∀b u,H b=some u->¬iz (some u)->b≠x:=λb u q l z=>by subst z;rw[q]at c;exact l c
refine⟨λb u q n _ _=>k b u (d b n) q,λb u q n _ _=>⟨u.slots,k b u (d b n) q⟩,λb u q n _=>by rw[UF (g b n)];exact n,λb u q _=>?_,
 λb xs q=>by rw[UF (hm b _ q λz=>z)];exact q,λb u xs q=>by rw[UF (hm b _ q λz=>z)];exact q,λb ps q=>⟨#[],by rw[UF (hm b _ q λz=>z),q];simp⟩⟩
by_cases f:b=e
·subst f;exact j
·exact⟨u,k b u f q⟩)
end
noncomputable def rB (h:s2) (H:Hp):List WF:=(s4 h.objs.size).filter λa=>(H a).isSome
def gi (h:s2) (H:Hp):s2:=NZ h (rB h H)
theorem Hf (h:s2) (H:Hp):(gi h H).objs.size=h.objs.size:=Ny _ _
theorem He(e:h.get? b=some o) (n:H b=none):(gi h H).get? b=some o:=
 NC _ e λhm=>by
  have q:(H b).isSome=true:=(f5.mp hm).2;rw[n]at q;simp at q
theorem Jg(e:(gi h H).get? b=some o):h.get? b=some o/\H b=none:=by(
have a:h.get? b=some o:=NG (rB h H) e;refine⟨a,?_⟩;cases q:H b with
|none=>rfl
|some x=>
 have hm:b∈rB h H:=f5.mpr ⟨bS.mpr (cr a),by simp[q]⟩;have z:(gi h H).get? b=none:=Nz (rB h H) hm;rw[z]at e;cases e)
def Fc (g h:s2) (L:WF):List (WF×Obj):=(s4 h.objs.size).filterMap λa=>if a=L\/(g.get? a).isSome=true then none else(h.get? a).map λo=>(a,o)
def d4 (g h:s2) (L d:WF):List (WF×Obj):=(Fc g h L).filter λp=>decide (p.1≠d)
structure Mod (K:wf) (mg:Str->Option Tk) (base:s2):Prop where
 mS:K.In base
 glob:base.Ns cS mg
 blt:∃a,base.Ns wL a/\∀x:Str,x≠ "__name__"->a x=lP x
 nolimit:base.NoLimit
structure Cx where
 prog:fr
 w:kw
 K:wf
 mg:Str->Option Tk
 base:s2
 A:bJ
 N:List Str
 dt:Go
 js:Hp
 env:Env
 outer:List Env
 stack:List Env
 ex:List WF
 fn:Str->Bool
 calm:Bool
 pn:List (WF×Obj)
 xe:Tk->Go->Prop
noncomputable def gg (l:List Env):List WF:=l.filterMap (·.frame)
abbrev Cx.fs (X:Cx):List WF:=gg X.outer
def kL (a:d_) (x:Str):Prop:=a.names.lookup x=some .local\/a.names.lookup x=some .cell\/a.names.lookup x=some .free
def Loc (a:d_) (x:Str):Prop:=a.names.lookup x=some .local\/a.names.lookup x=some .cell
def Look (env:Env) (h:s2) (m:Str->Option Tk) (x:Str) (u:Tk):Prop:=
 (env.kindOf x=some .local/\m x=some u)\/((env.kindOf x=some .cell\/env.kindOf x=some .free)/\∃c,env.cells.lookup x=some c/\h.IsCell c (some u))
structure Cx.Ok (X:Cx):Prop where
 mod:Mod X.K X.mg X.base
 kind:X.env.scope.kind=.function
 glob:X.env.globals=cS
 blt:X.env.builtins=wL
 above:X.dt.heap.objs.size<=X.env.locals
 inj:∀x y c,X.env.cells.lookup x=some c->X.env.cells.lookup y=some c->x=y
 has:∀x,(X.env.kindOf x=some .cell\/X.env.kindOf x=some .free)->∃c,X.env.cells.lookup x=some c
 mC:∀x c,X.fn x=true->X.env.cells.lookup x=some c->X.dt.heap.objs.size<=c
 hd:X.calm=true->X.A.handled=none
 frames:X.A.frames=some X.stack
 rl:X.stack=X.outer\/(X.stack=X.env::X.outer/\X.env.frame=some X.env.locals)
 o5:∀b∈X.ex,b≠X.env.locals/\∀x c,X.env.cells.lookup x=some c->c≠b
 bs:∀b o,X.base.get? b=some o->X.dt.heap.get? b=some o/\X.js b=none
 hG:X.base.objs.size<=X.dt.heap.objs.size
 m7:∀b o,X.base.get? b=some o->b∉X.ex
 mJ:∀b∈X.ex,b∉X.fs
 fC:X.dt.heap.FunFrames X.base X.outer
 jL:∀b∈X.fs,X.js b=none
structure Inv (X:Cx) (WP:List (WF×Obj)) (ZB:List (Option W1)) (H:Hp) (s:Go):Prop where
 ok:X.Ok
 os:s.os=X.dt.os
 bare:jg s.gens
 base:Un X.fs X.ex X.js H X.dt.heap s.heap
 loc:∃m,s.heap.Ns X.env.locals m/\∀(i:Nat) (x:Str) (v:W1),X.N[i]?=some x->ZB[i]?=some (some v)->kL X.env.scope x->∃u,RelV v u/\Look X.env s.heap m x u
 cell:∀x c,X.env.cells.lookup x=some c->∃v,s.heap.IsCell c v
 free:H X.env.locals=none
 e4:∀x c,X.env.cells.lookup x=some c->H c=none
 pin:∀p∈X.pn++WP,s.heap.get? p.1=some p.2/\H p.1=none/\p.1≠X.env.locals/\p.1∉X.fs/\∀v,p.2.data≠.cell v
 ag:aV X.prog X.w H s.heap
 len:ZB.length=X.N.length
section
variable {X:Cx}{WP:List (WF×Obj)}{ZB:List (Option W1)}{H I:Hp}{s:Go}{h':s2}
theorem Cx.Ok.Jc(ok:X.Ok) (e:X.base.get? b=some o):b∉X.fs:=λa=>by
 have:=(ok.fC.mem a).1;rw[e]at this;cases this
theorem Inv.bs (XV:Inv X WP ZB H s):∀b o,X.base.get? b=some o->s.heap.get? b=some o/\H b=none:=λb o e=>
 ⟨XV.base.keep b o (XV.ok.bs b o e).1 (XV.ok.bs b o e).2 (XV.ok.Jc e) (XV.ok.m7 b o e),XV.base.free b o (XV.ok.bs b o e).1 (XV.ok.bs b o e).2 (XV.ok.m7 b o e)⟩
theorem Inv.bk (XV:Inv X WP ZB H s):∀b o,X.base.get? b=some o->s.heap.get? b=some o:=λb o e=>(XV.bs b o e).1
theorem Inv.mod (XV:Inv X WP ZB H s):Mod X.K X.mg X.base:=XV.ok.mod
theorem Inv.dY (XV:Inv X WP ZB H s):X.K.In s.heap:=XV.ok.mod.mS.keeps XV.bk
theorem Inv.lt (XV:Inv X WP ZB H s):X.env.locals<s.heap.objs.size:=let ⟨_,a,_⟩:=XV.loc;a.lt
theorem Inv.sz (XV:Inv X WP ZB H s):X.dt.heap.objs.size<=s.heap.objs.size:=dz XV.ok.above (ed XV.lt)
theorem Inv.Je (XV:Inv X WP ZB H s) {a:WF}(h:s.heap.objs.size<=a):a∉X.fs:=λb=>by
 obtain⟨_,o,c,_⟩:=XV.ok.fC.mem b;exact absurd (c_ (cr c) (dz XV.sz h)) (hh _)
theorem Inv.jG (XV:Inv X WP ZB H s):∀x c,X.env.cells.lookup x=some c->c≠X.env.locals:=λx c e z=>by
 obtain⟨v,o,a,hd⟩:=XV.cell x c e;obtain⟨m,⟨o',es,ep,d,b,_⟩,_⟩:=XV.loc;rw[z,d]at a;cases a;rw[b]at hd;cases hd
theorem Inv.fC (XV:Inv X WP ZB H s):s.heap.FunFrames X.base X.outer:=by(
have all:∀(l:List Env),(∀b∈gg l,b∈X.fs)->X.dt.heap.FunFrames X.base l->s.heap.FunFrames X.base l:=by
 intro l
 induction l with
 |nil=>intro _ _;trivial
 |cons env r k=>
  intro d g;obtain⟨f,⟨L,o,hf,h,i,hd⟩,j⟩:=g;have a:L∈X.fs:=d L (by unfold gg;rw[hn,hf];exact kt);obtain⟨m,e⟩:=XV.base.slot L o i (XV.ok.jL L a) a λz=>XV.ok.mJ L z a;exact⟨f,⟨L,_,hf,h,e,hd⟩,k (λb c=>d b (by unfold gg;rw[hn,hf];exact o0 _ c)) j⟩
exact all X.outer (λ_ c=>c) XV.ok.fC)
theorem Inv.stack (XV:Inv X WP ZB H s):s.heap.FunFrames X.base X.stack:=by(
rcases XV.ok.rl with e|⟨e,hf⟩
·rw[e];exact XV.fC
·rw[e];obtain⟨m,a,_⟩:=XV.loc;refine .cons (by rw[XV.ok.kind];decide) hf a ?_ XV.fC;exact Heap.get?_none_of_le (dz XV.ok.hG XV.ok.above))
theorem Inv.vK (XV:Inv X WP ZB H s):∀b∈gg X.stack,b∈X.env.locals::X.fs:=λb a=>by
 rcases XV.ok.rl with e|⟨e,hf⟩
 ·rw[e]at a;exact o0 _ a
 ·rw[e]at a;unfold gg at a;rw[hn,hf]at a;exact a
theorem Inv.Bx (XV:Inv X WP ZB H s):∀b∈gg X.stack,H b=none:=λb a=>by
 rcases rs.mp (XV.vK b a)with e|a
 ·rw[e];exact XV.free
 ·obtain⟨_,o,c,_⟩:=XV.ok.fC.mem a;exact XV.base.free b o c (XV.ok.jL b a) λz=>XV.ok.mJ b z a
theorem Inv.step{ch:List WF}(XV:Inv X WP ZB H s)
  (t:∀b∈ch,(b∈X.ex\/X.dt.heap.objs.size<=b)/\b≠X.env.locals/\(∀x c,X.env.cells.lookup x=some c->c≠b)/\∀p∈X.pn++WP,p.1≠b)
  (keep:∀b o,b≠X.env.locals->b∉X.fs->b∉ch->s.heap.get? b=some o->H b=none->h'.get? b=some o)
  (slot:∀b o,b≠X.env.locals->b∈X.fs->b∉ch->s.heap.get? b=some o->H b=none->∃C,h'.get? b=some {o with slots:=C}) (free:∀b o,b∉ch->s.heap.get? b=some o->H b=none->I b=none)
  (there:∀b o,b∉ch->s.heap.get? b=some o->∃o',h'.get? b=some o')
  (fb:∀b xs,H b=some (.tup xs)->I b=some (.tup xs)) (gh:∀b o u,H b=some (.aw o u)->I b=some (.aw o u)) (h5:∀b ps,H b=some (.j' ps)->∃more,I b=some (.j' (ps++more)))
  (ns:∀m,s.heap.Ns X.env.locals m->h'.Ns X.env.locals m) (ag:aV X.prog X.w I h') (hg:jg g'):
  Inv X WP ZB I {s with heap:=h',gens:=g',drawn:=d',toks:=t'}:=by(
have L:∀b o,X.dt.heap.get? b=some o->b≠X.env.locals:=λb o e=>cb (c_ (cr e) XV.ok.above);have A:∀b o,X.dt.heap.get? b=some o->b∉X.ex->b∉ch:=λb o e a g=>by
 rcases(t b g).1 with z|z
 ·exact a z
 ·exact absurd (c_ (cr e) z) (hh _)
have D:∀x c,X.env.cells.lookup x=some c->∀v,s.heap.IsCell c v->h'.IsCell c v:=λx c e v Y=>by
 obtain⟨o,h,hd⟩:=Y;have y:c∉ch:=λz=>(t c z).2.2.1 x c e rfl;by_cases E:c∈X.fs
 ·obtain⟨C,q⟩:=slot c o (XV.jG x c e) E y h (XV.e4 x c e);exact⟨_,q,hd⟩
 ·exact⟨o,keep c o (XV.jG x c e) E y h (XV.e4 x c e),hd⟩
refine⟨XV.ok,XV.os,hg,⟨λb o e n g a=>?_,λb o e n g a=>?_,λb o e n a=>?_,λb o e a=>?_,λb xs e=>fb b xs (XV.base.fb b xs e),λb o xs e=>gh b o xs (XV.base.gh b o xs e),λb ps e=>?_⟩,?_,λx c e=>?_,?_,λx c e=>?_,λp J=>?_,ag,XV.len⟩
·exact keep b o (L b o e) g (A b o e a) (XV.base.keep b o e n g a) (XV.base.free b o e n a)
·obtain⟨C,f⟩:=XV.base.slot b o e n g a;obtain⟨U,j⟩:=slot b _ (L b o e) g (A b o e a) f (XV.base.free b o e n a);exact⟨U,j⟩
·obtain⟨o',f⟩:=XV.base.there b o e a;exact free b o' (A b o e a) f (XV.base.free b o e n a)
·obtain⟨o',f⟩:=XV.base.there b o e a;exact there b o' (A b o e a) f
·obtain⟨m1,f⟩:=XV.base.h5 b ps e;obtain⟨m2,j⟩:=h5 b _ f;exact⟨m1++m2,by rw[j,Array.append_assoc]⟩
·obtain⟨m,T,Q⟩:=XV.loc;refine⟨m,ns m T,λi x v f j N=>?_⟩;obtain⟨u,r,l⟩:=Q i x v f j N;refine⟨u,r,?_⟩;rcases l with l|⟨k,c,e,z⟩
 ·exact .inl l
 ·exact .inr ⟨k,c,e,D x c e _ z⟩
·obtain⟨v,z⟩:=XV.cell x c e;exact⟨v,D x c e v z⟩
·obtain⟨m,⟨o,_,_,h,_⟩,_⟩:=XV.loc;exact free _ o (λz=>(t _ z).2.1 rfl) h XV.free
·obtain⟨v,o,h,hd⟩:=XV.cell x c e;exact free c o (λz=>(t c z).2.2.1 x c e rfl) h (XV.e4 x c e)
·obtain⟨e,n,ne,nf,d⟩:=XV.pin p J;have y:p.1∉ch:=λz=>(t p.1 z).2.2.2 p J rfl;exact⟨keep p.1 p.2 ne nf y e n,free p.1 p.2 y e n,ne,nf,d⟩)
theorem Inv.un(XV:Inv X WP ZB H s) (u:Un X.fs [] H I s.heap h') (ag:aV X.prog X.w I h'):Inv X WP ZB I {s with heap:=h',toks:=t'}:=by(
obtain⟨m,⟨o,es,ep,c,r⟩,_⟩:=id XV.loc;obtain⟨k,h⟩:=u.any c XV.free (by simp);exact XV.step (g':=s.gens) (d':=s.drawn) (ch:=[]) (λ_ z=>nomatch z) (λb o _ a _ e n=>u.keep b o e n a (by simp)) (λb o _ a _ e n=>u.slot b o e n a (by simp)) (λb o _ e n=>u.free b o e n (by simp)) (λb o _ e=>u.there b o e (by simp)) u.fb u.gh u.h5 (λj hm=>by
 obtain⟨o',g,f,d,i⟩:=hm;rw[c]at d;cases d;exact⟨_,g,f,h,i⟩) ag XV.bare)
theorem Inv.call(XV:Inv X WP ZB H s) (u:Un (gg X.stack) ch H I s.heap h') (ag:aV X.prog X.w I h') (hg:jg g')
  (f:∀b∈ch,(b∈X.ex\/X.dt.heap.objs.size<=b)/\b≠X.env.locals/\(∀x c,X.env.cells.lookup x=some c->c≠b)/\∀p∈X.pn++WP,p.1≠b):
  Inv X WP ZB I {s with heap:=h',gens:=g',drawn:=d',toks:=t'}:=by(
obtain⟨m,⟨o,es,ep,g,r⟩,_⟩:=id XV.loc;obtain⟨t,d⟩:=u.any g XV.free λz=>(f _ z).2.1 rfl;exact XV.step (ch:=ch) f (λb o d k a e n=>u.keep b o e n (λz=>(rs.mp (XV.vK b z)).elim d k) a) (λb o _ _ a e n=>u.any e n a) (λb o a e n=>u.free b o e n a) (λb o a e=>u.there b o e a) u.fb u.gh u.h5 (λq hm=>by
 obtain⟨o',j,i,h,l⟩:=hm;rw[g]at h;cases h;exact⟨_,j,i,d,l⟩) ag hg)
theorem Inv.turned(XV:Inv X WP ZB H s) (k:∀b o,b≠a->s.heap.get? b=some o->h'.get? b=some o) (j:H a=none) (f:a≠X.env.locals)
  (h1:a∈X.ex\/X.dt.heap.objs.size<=a) (h2:∀x c,X.env.cells.lookup x=some c->c≠a) (h:∀p∈X.pn++WP,p.1≠a):Inv X WP ZB H {s with heap:=h',toks:=t'}:=by(
have g:∀b u,H b=some u->b≠a:=λb u e z=>by rw[z,j]at e;cases e
refine XV.step (g':=s.gens) (d':=s.drawn) (ch:=[a]) (λb i=>?_) (λb o _ _ d e _=>k b o (λz=>d (by simp[z])) e) (λb o _ _ d e _=>⟨o.slots,k b o (λz=>d (by simp[z])) e⟩) (λ_ _ _ _ n=>n)
 (λb o d e=>⟨o,k b o (λz=>d (by simp[z])) e⟩) (λ_ _ e=>e) (λ_ _ _ e=>e) (λb ps e=>⟨#[],by rw[e];simp⟩) (λm hm=>?_) (λb u e=>?_) XV.bare
·have e:b=a:=by simpa using i
 subst e;exact⟨h1,f,h2,h⟩
·obtain⟨o,es,ep,l,r⟩:=hm;exact⟨o,es,ep,k _ o (Ne.symm f) l,r⟩
·refine(XV.ag b u e).gX (λc v d q=>k c v ?_ q) (λ_ q=>q) λ_ _ q=>q;rcases d with z|z
 ·rw[z];exact g b u e
 ·exact g c _ z)
theorem Inv.tok (XV:Inv X WP ZB H s) (t:Nat):Inv X WP ZB H {s with toks:=t}:=XV.un (h':=s.heap) (t':=t) Un.refl XV.ag
theorem Inv.kept(XV:Inv X WP ZB H s) (k:∀b u,s.heap.get? b=some u->h'.get? b=some u):Inv X WP ZB H {s with heap:=h',toks:=t'}:=XV.un (Un.kept k) (XV.ag.kept k)
theorem Inv.laid{a:WF}(XV:Inv X WP ZB H s) (k:∀b u,s.heap.get? b=some u->h'.get? b=some u) (c:s.heap.objs.size<=a) (new:bA X.prog X.w (Uf H a o) h' a o):
  Inv X WP ZB (Uf H a o) {s with heap:=h',toks:=t'}:=XV.un (Un.laid k c (XV.ag.fresh c)) (XV.ag.laid k c new)
theorem Inv.write(XV:Inv X WP ZB H s) (d:iz (H x)) (a:e=x\/H e=some (.own x)) (k:∀b u,b≠e->s.heap.get? b=some u->h'.get? b=some u) (c:∃u,h'.get? e=some u)
  (new:bA X.prog X.w (Uf H x o) h' x o):Inv X WP ZB (Uf H x o) {s with heap:=h',toks:=t'}:=XV.un (Un.write d a k c) (XV.ag.write d a k c new)
theorem Inv.weak(XV:Inv X WP ZB H s) (e:a.length=ZB.length) (w:∀(i:Nat) v,a[i]?=some (some v)->ZB[i]?=some (some v)):Inv X WP a H s:=
 ⟨XV.ok,XV.os,XV.bare,XV.base,let ⟨m,g,f⟩:=XV.loc;⟨m,g,λi x v b c d=>f i x v b (w i v c) d⟩,XV.cell,XV.free,XV.e4,XV.pin,XV.ag,e.trans XV.len⟩
theorem Inv.AI(XV:Inv X WP ZB H s) (h:∀p∈b,s.heap.get? p.1=some p.2/\H p.1=none/\p.1≠X.env.locals/\p.1∉X.fs/\∀v,p.2.data≠.cell v):Inv X b ZB H s:=
 ⟨XV.ok,XV.os,XV.bare,XV.base,XV.loc,XV.cell,XV.free,XV.e4,λp a=>(cs.mp a).elim (λz=>XV.pin p (gx _ z)) (h p),XV.ag,XV.len⟩
theorem uE{N:List Str}(e:N.Nodup) {j:Nat}(a:N[i]?=some x) (b:N[j]?=some x):i=j:=by
 obtain⟨h1,c⟩:=aD.mp a;obtain⟨h2,d⟩:=aD.mp b;exact(rO e).mp (c.trans d.symm)
theorem BA {TW:nW}{A:bJ}{E:Tk->Go->Prop}{i:Nat}{x:Str}{v:W1}{u:Tk}{Q:Unit->Go->Prop}(XV:Inv X WP ZB H s) (OT:X.N.Nodup) (hi:X.N[i]?=some x) (t:Loc X.env.scope x) (r:RelV v u)
  (h:∀s',Inv X WP (ZB.set i (some v)) H s'->(∃a,lX a s.heap s'.heap/\(a=X.env.locals\/X.env.cells.lookup x=some a))->Q () s') (hf:X.fn x=true\/X.env.scope.names.lookup x=some .local:=by first|exact .inl rfl|exact .inr rfl|assumption):wpAny TW A (wR X.env x u) Q E s:=by(
obtain⟨m,ON,OY⟩:=id XV.loc;have O3:(X.env.scope.kind== .class||(X.env.scope.kind== .module&&X.env.locals != X.env.globals))=false:=by rw[XV.ok.kind];rfl
have OX:i<ZB.length:=by rw[XV.len];exact(aD.mp hi).1
have jG:=XV.jG;have O1:∀ {a:WF}{h':s2},(∃o,s.heap.get? a=some o/\H a=none)->lX a s.heap h'->aV X.prog X.w H h':=λ{a h'} O2 f b ob e=>by
 obtain⟨_,_,OW⟩:=O2;refine(XV.ag b ob e).gX (λc U l q=>(f.2 c ?_).trans q) (λ_ q=>q) λ_ _ q=>q;rintro rfl;rcases l with rfl|l
 ·rw[OW]at e;cases e
 ·rw[OW]at l;cases l
rcases t with D|D
·refine wpAny_storeName_local D ON (λh' O4 f=>?_) O3;obtain⟨O7,_,_,O5,_⟩:=id ON;refine h _ ⟨XV.ok,XV.os,XV.bare,⟨λb o e n J t=>?_,λb o e n J t=>?_,XV.base.free,λb o e t=>?_,XV.base.fb,XV.base.gh,XV.base.h5⟩,⟨_,O4,λj y OS g C Y=>?_⟩,λy c e=>?_,XV.free,XV.e4,λp OO=>?_,O1 ⟨O7,O5,XV.free⟩ f,by simpa using XV.len⟩ ⟨_,f,.inl rfl⟩
 ·exact(f.2 b (cb (c_ (cr e) XV.ok.above))).trans (XV.base.keep b o e n J t)
 ·obtain⟨OQ,g⟩:=XV.base.slot b o e n J t;exact⟨OQ,(f.2 b (cb (c_ (cr e) XV.ok.above))).trans g⟩
 ·obtain⟨o',g⟩:=XV.base.there b o e t;exact⟨o',(f.2 b (cb (c_ (cr e) XV.ok.above))).trans g⟩
 ·by_cases L:j=i
  ·subst L;rw[hi]at g;cases g;rw[wa OX]at C;cases C;exact⟨u,r,.inl ⟨D,by simp⟩⟩
  ·rw[sW (Ne.symm L)]at C;obtain⟨OR,OP,q⟩:=OY j y OS g C Y;refine⟨OR,OP,?_⟩;rcases q with⟨k,e⟩|⟨k,c,e,z⟩
   ·refine .inl ⟨k,?_⟩;have:y≠x:=λe=>L (uE OT g (e▸hi));simp[this,e]
   ·exact .inr ⟨k,c,e,z.sameBut f (jG y c e)⟩
 ·obtain⟨U,z⟩:=XV.cell y c e;exact⟨U,z.sameBut f (jG y c e)⟩
 ·obtain⟨e,n,ne,nf,d⟩:=XV.pin p OO;exact⟨(f.2 p.1 ne).trans e,n,ne,nf,d⟩
·have OM:X.fn x=true:=by
  rcases hf with z|z
  ·exact z
  ·rw[z]at D;cases D
 obtain⟨c,l⟩:=XV.ok.has x (.inl D);obtain⟨U,z⟩:=XV.cell x c l;refine wpAny_storeName_cell XV.ok.kind D l z (λh' OU f=>?_);obtain⟨O0,OZ,O6⟩:=id z;refine h {s with heap:=h'} ⟨XV.ok,XV.os,XV.bare,⟨λb o e n J t=>?_,λb o e n J t=>?_,XV.base.free,λb o e t=>?_,XV.base.fb,XV.base.gh,XV.base.h5⟩,⟨m,ON.sameBut f (Ne.symm (jG x c l)),λj y OS g C Y=>?_⟩,λy T e=>?_,XV.free,XV.e4,λp OO=>?_,O1 ⟨O0,OZ,XV.e4 x c l⟩ f,by simpa using XV.len⟩ ⟨c,f,.inr l⟩
 ·exact(f.2 b (cb (c_ (cr e) (XV.ok.mC x c OM l)))).trans (XV.base.keep b o e n J t)
 ·obtain⟨OQ,g⟩:=XV.base.slot b o e n J t;exact⟨OQ,(f.2 b (cb (c_ (cr e) (XV.ok.mC x c OM l)))).trans g⟩
 ·obtain⟨o',g⟩:=XV.base.there b o e t;exact⟨o',(f.2 b (cb (c_ (cr e) (XV.ok.mC x c OM l)))).trans g⟩
 ·by_cases L:j=i
  ·subst L;rw[hi]at g;cases g;rw[wa OX]at C;cases C;exact⟨u,r,.inr ⟨.inl D,c,l,OU⟩⟩
  ·rw[sW (Ne.symm L)]at C;obtain⟨OR,OP,q⟩:=OY j y OS g C Y;refine⟨OR,OP,?_⟩;rcases q with q|⟨k,T,e,O_⟩
   ·exact .inl q
   ·refine .inr ⟨k,T,e,O_.sameBut f ?_⟩;rintro rfl;exact L (uE OT g (XV.ok.inj _ _ _ e l▸hi))
 ·by_cases OV:T=c
  ·subst OV;exact⟨_,OU⟩
  ·obtain⟨O9,Pa⟩:=XV.cell y T e;exact⟨O9,Pa.sameBut f OV⟩
 ·obtain⟨e,n,ne,nf,d⟩:=XV.pin p OO;refine⟨(f.2 p.1 ?_).trans e,n,ne,nf,d⟩;intro q;rw[q,OZ]at e;have O8:O0=p.2:=b3 e;exact d U (by rw[<- O8];exact O6))
theorem vL {TW:nW}{A:bJ}{E:Tk->Go->Prop}{i:Nat}{x:Str}{v:W1}{u:Tk}{Q:Unit->Go->Prop}(XV:Inv X WP ZB H s) (b:X.N.Nodup) (hi:X.N[i]?=some x) (c:Loc X.env.scope x) (r:RelV v u)
  (h:∀s',Inv X WP (ZB.set i (some v)) H s'->Q () s') (hf:X.fn x=true\/X.env.scope.names.lookup x=some .local:=by first|exact .inl rfl|exact .inr rfl|assumption):wpAny TW A (wR X.env x u) Q E s:=
 BA XV b hi c r (λs' a _=>h s' a) hf
theorem Inv.FE(XV:Inv X WP ZB H s) (d:s'.os=s.os) (u:Un (gg X.stack) ch H I s.heap s'.heap) (ag:aV X.prog X.w I s'.heap) (hg:jg s'.gens)
  (a:∀b∈ch,(b∈X.ex\/X.dt.heap.objs.size<=b)/\b≠X.env.locals/\(∀x c,X.env.cells.lookup x=some c->c≠b)/\∀p∈X.pn++WP,p.1≠b):Inv X WP ZB I s':=by
 obtain⟨h',g',d',t',o'⟩:=s';have e:o'=s.os:=d;subst e;exact XV.call (g':=g') (t':=t') (d':=d') u ag hg a
end
abbrev XK:=Tk->Option WF->Hp->Prop
abbrev St:=List (Option W1)
abbrev VK:=W1->Hp->Prop
abbrev TE:=St->Hp->VK->Prop
abbrev TT:=St->Hp->(Bool->Hp->Prop)->Prop
abbrev TA:=St->Hp->(List W1->Hp->Prop)->Prop
structure Ends where
 nx:St->Hp->Prop
 rt:VK
 bk:St->Hp->Prop:=λ_ _=>False
 ct:St->Hp->Prop:=λ_ _=>False
abbrev TS:=Ends->St->Hp->Prop
def EP (X:Cx) (WP:List (WF×Obj)) (ZB:St) (Q:VK) (u:Tk) (s':Go):Prop:=∃v I,Inv X WP ZB I s'/\RelV v u/\Q v I
def TP (X:Cx) (WP:List (WF×Obj)) (ZB:St) (Q:Bool->Hp->Prop) (b:Bool) (s':Go):Prop:=∃I,Inv X WP ZB I s'/\Q b I
def AP (X:Cx) (WP:List (WF×Obj)) (ZB:St) (Q:List W1->Hp->Prop) (us:List Tk) (s':Go):Prop:=∃vs I,Inv X WP ZB I s'/\ww vs us/\Q vs I
def SP (X:Cx) (WP:List (WF×Obj)) (D:Ends) (f:Flow) (s':Go):Prop:=
 match f with
 |.next=>∃a I,Inv X WP a I s'/\D.nx a I
 |.brk=>∃a I,Inv X WP a I s'/\D.bk a I
 |.cont=>∃a I,Inv X WP a I s'/\D.ct a I
 |.ret u=>∃v a I,Inv X WP a I s'/\RelV v u/\D.rt v I
def PE (X:Cx) (e:s5) (t:TE):Prop:=
 ∀(WP:List (WF×Obj)) (s:Go) (ZB:St) (H:Hp) (Q:VK),Inv X WP ZB H s->t ZB H Q->wpAny (AT X.prog X.w) X.A (eval e X.env) (EP X WP ZB Q) X.xe s
def PT (X:Cx) (e:s5) (t:TT):Prop:=
 ∀(WP:List (WF×Obj)) (s:Go) (ZB:St) (H:Hp) (Q:Bool->Hp->Prop),Inv X WP ZB H s->t ZB H Q->wpAny (AT X.prog X.w) X.A (isTrue e X.env (eval e X.env)) (TP X WP ZB Q) X.xe s
def PW (X:Cx) (e:s5) (t:TT):Prop:=
 ∀(whole:Sem Tk) (WP:List (WF×Obj)) (s:Go) (ZB:St) (H:Hp) (Q:Bool->Hp->Prop),Inv X WP ZB H s->t ZB H Q->wpAny (AT X.prog X.w) X.A (isTrue e X.env whole) (TP X WP ZB Q) X.xe s
theorem PW.pt(h:PW X e t):PT X e t:=h _
def PA (X:Cx) (es:List s5) (t:TA):Prop:=
 ∀(pos:Pos) (WP:List (WF×Obj)) (s:Go) (ZB:St) (H:Hp) (Q:List W1->Hp->Prop),Inv X WP ZB H s->t ZB H Q->wpAny (AT X.prog X.w) X.A (spliced (d9 pos (al es X.env))) (AP X WP ZB Q) X.xe s
def PS (X:Cx) (st:v2) (t:TS):Prop:=
 ∀(WP:List (WF×Obj)) (s:Go) (ZB:St) (H:Hp) (D:Ends),Inv X WP ZB H s->t D ZB H->wpAny (AT X.prog X.w) X.A (exec st X.env) (SP X WP D) X.xe s
def eF (X:Cx) (st:List v2) (t:TS):Prop:=
 ∀(WP:List (WF×Obj)) (s:Go) (ZB:St) (H:Hp) (D:Ends),Inv X WP ZB H s->t D ZB H->wpAny (AT X.prog X.w) X.A (execs st X.env) (SP X WP D) X.xe s
theorem wP(h:wpAny TW A t Q E s) (c:∀a s,Q a s->b a s):wpAny TW A t b E s:=eT h c λ_ _ x=>x
section
variable {X:Cx}
def bZ (i:Nat):TE:=λZB H Q=>∃v,ZB[i]?=some (some v)/\Q v H
def tC (v:W1):TE:=λ_ H Q=>Q v H
theorem KR {i:Nat}{x:Str}{pos:Pos}(f:X.N[i]?=some x) (hv:kL X.env.scope x) (hd:(x==("__debug__":Str))=false:=by decide) (g:(x==("__classdict__":Str))=false:=by decide):PE X (.Name x pos) (bZ i):=by(
intro WP s ZB H Q XV h;obtain⟨v,e,h⟩:=h;obtain⟨m,k,j⟩:=XV.loc;obtain⟨u,r,l⟩:=j i x v f e hv;have fin:EP X WP ZB Q u s:=⟨v,H,XV,r,h⟩;rcases l with⟨a,hm⟩|⟨a,c,b,d⟩
·exact wM (CY XV.ok.kind a k hm fin) hd
·rcases a with a|a
 ·exact wM (CZ XV.ok.kind a b d fin) hd
 ·exact wM (wpAny_loadName_free XV.ok.kind a b d fin g) hd)
theorem EQ {i j pos}:PE X (.Constant (.int i) j pos) (tC (.int i)):=λ_ _ _ H _ XV h=>wpAny_Constant_int ⟨.int i,H,XV.tok _,⟨_,O⟩,h⟩
theorem ni {b j pos}:PE X (.Constant (.bool b) j pos) (tC (.bl b)):=λ_ _ _ H _ XV h=>Constant_bool ⟨.bl b,H,XV,O,h⟩
theorem uU {j pos}:PE X (.Constant .none j pos) (tC .ak):=λ_ _ _ H _ XV h=>Constant_none ⟨.ak,H,XV,O,h⟩
theorem AE {x j pos}:PE X (.Constant (.str x) j pos) (tC (.str x)):=λ_ _ _ H _ XV h=>Calls.Constant_str ⟨.str x,H,XV.tok _,⟨_,O⟩,h⟩
def Gl (X:Cx) (x:Str):Prop:=X.env.kindOf x=some .globalImplicit
theorem mU {E:Tk->Go->Prop}{WP:List (WF×Obj)}{s:Go}{ZB:St}{H:Hp}{x:Str}{u:Tk}{pos:Pos}{Q:Tk->Go->Prop}(XV:Inv X WP ZB H s) (hg:Gl X x) (hm:X.mg x=some u) (h:Q u s)
  (hd:(x==("__debug__":Str))=false:=by decide):wpAny (AT X.prog X.w) X.A (eval (.Name x pos) X.env) Q E s:=
 Er XV.ok.kind hg (Calls.loadGlobal_global (by rw[XV.ok.glob];exact XV.mod.glob.keeps XV.bk) hm h) hd
theorem k5 {E:Tk->Go->Prop}{WP:List (WF×Obj)}{s:Go}{ZB:St}{H:Hp}{x:Str}{u:Tk}{pos:Pos}{Q:Tk->Go->Prop}(XV:Inv X WP ZB H s) (hg:Gl X x) (hm:X.mg x=none) (hv:lP x=some u) (h:Q u s)
  (a:x≠ "__name__":=by decide) (hd:(x==("__debug__":Str))=false:=by decide):wpAny (AT X.prog X.w) X.A (eval (.Name x pos) X.env) Q E s:=by
 obtain⟨b,h1,h2⟩:=XV.mod.blt;exact Er XV.ok.kind hg (Calls.loadGlobal_builtin (by rw[XV.ok.glob];exact XV.mod.glob.keeps XV.bk) hm (by rw[XV.ok.blt];exact h1.keeps XV.bk) ((h2 x a).trans hv) h) hd
theorem KN {x:Str}{v:W1}{u:Tk}{pos:Pos}(hg:Gl X x) (hm:X.mg x=some u) (r:RelV v u) (hd:(x==("__debug__":Str))=false:=by decide):PE X (.Name x pos) (tC v):=
 λ_ _ _ H _ XV h=>mU XV hg hm ⟨v,H,XV,r,h⟩ hd
variable {a b:s5}{ta tb:TE}{pos:Pos}
def PC (X:Cx) (op:nX) (a b:s5) (t:TE):Prop:=
 ∀(WP:List (WF×Obj)) (s:Go) (ZB:St) (H:Hp) (Q:VK),Inv X WP ZB H s->t ZB H Q->
  wpAny (AT X.prog X.w) X.A (eval a X.env) (λv c=>wpAny (AT X.prog X.w) X.A (eval b X.env) (λu d=>wpAny (AT X.prog X.w) X.A (dR op v u) (EP X WP ZB Q) X.xe d) X.xe c) X.xe s
theorem I'(b:s5) (h:op≠.In) (h2:op≠.NotIn):kj op b=false:=by(
have c:(op==CmpOp.In)=false:=by cases op<;>first|rfl|exact absurd rfl h
have d:(op==CmpOp.NotIn)=false:=by cases op<;>first|rfl|exact absurd rfl h2
cases b<;>simp[kj,c,d])
def tB (t:TE):TT:=λZB H Q=>t ZB H λx H1=>∃c,x=.bl c/\Q c H1
theorem AK {op:nX}{t:TE}(h:PC X op a b t) (h1:kj op b=false:=by first|exact I' _ (by decide) (by decide)|rfl):PT X (.Compare a [op] [b] pos) (tB t):=by
 intro WP s ZB H Q XV hw;refine CU (wP (h WP s ZB H _ XV hw) λv j h1=>wP h1 λu k h2=>wP h2 λc l i=>Do i λx H1 e g f=>?_) h1;obtain⟨d,rfl,q⟩:=f;cases g;exact i4 ⟨H1,e,q⟩
theorem cz {e:s5}{t:TE}(h:PE X e t) (f:∀whole,isTrue e X.env whole=(do let v <-whole;sh e.pos;kl [v] (truthy v)):=by intro _;rfl):PT X e (tB t):=by
 intro WP s ZB H Q XV hw;refine isTrue_plain (wP (h WP s ZB H _ XV hw) λv k j=>Do j λx H1 c i g=>?_) (f _);obtain⟨d,rfl,q⟩:=g;cases i;exact i4 ⟨H1,c,q⟩
variable {tA rp:TT}{d4:List s5}
def MB (t u:TT):TT:=λZB H Q=>t ZB H λc H1=>if c=true then u ZB H1 Q else Q false H1
def BI (t u:TT):TT:=λZB H Q=>t ZB H λc H1=>if c=true then Q true H1 else u ZB H1 Q
def BH (t:TT):TT:=λZB H Q=>t ZB H λc H1=>Q (!c) H1
theorem nu (d:PT X a tA):PW X (.BoolOp .And [a] pos) tA:=by(
intro g WP s ZB H Q XV h;refine Ee (wP (d WP s ZB H Q XV h) λc f e=>?_);cases c with
|true=>exact isTrue_and_nil e
|false=>exact e)
theorem gU (d:PT X a tA):PW X (.BoolOp .Or [a] pos) tA:=by(
intro g WP s ZB H Q XV h;refine isTrue_or (wP (d WP s ZB H Q XV h) λc f e=>?_);cases c with
|false=>exact isTrue_or_nil e
|true=>exact e)
theorem nt (f:PT X a tA) (g:PW X (.BoolOp .And (b::d4) pos) rp):PW X (.BoolOp .And (a::b::d4) pos) (MB tA rp):=by(
intro j WP s ZB H Q XV h;refine Ee (wP (f WP s ZB H _ XV h) λc i k=>jY k λH1 d e=>?_);cases c with
|true=>exact g j WP i ZB H1 Q d e
|false=>exact⟨H1,d,e⟩)
theorem ew (f:PT X a tA) (g:PW X (.BoolOp .Or (b::d4) pos) rp):PW X (.BoolOp .Or (a::b::d4) pos) (BI tA rp):=by(
intro j WP s ZB H Q XV h;refine isTrue_or (wP (f WP s ZB H _ XV h) λc i k=>jY k λH1 d e=>?_);cases c with
|true=>exact⟨H1,d,e⟩
|false=>exact g j WP i ZB H1 Q d e)
theorem bR (d:PT X a tA):PT X (.UnaryOp .Not a pos) (BH tA):=by
 intro WP s ZB H Q XV h;exact isTrue_not (d WP s ZB H (λc H1=>Q (!c) H1) XV h)
def MC (ta tb:TE):TE:=λZB H Q=>ta ZB H λx H1=>∃c,x=.bl c/\if c=true then tb ZB H1 Q else Q (.bl false) H1
theorem KQ{op} (h:PE X a t):PE X (.BoolOp op [a] pos) t:=λWP s ZB H Q XV hw=>BoolOp_one (h WP s ZB H Q XV hw)
theorem uR (f:PE X a ta) (g:PE X (.BoolOp .And (b::d4) pos) tb):PE X (.BoolOp .And (a::b::d4) pos) (MC ta tb):=by(
intro WP s ZB H Q XV h;refine BoolOp_and (wP (f WP s ZB H _ XV h) λv j k=>Do k λx H1 e i d=>?_);obtain⟨c,rfl,d⟩:=d;cases i;refine i4 ?_;cases c with
|true=>exact g WP j ZB H1 Q e d
|false=>exact⟨.bl false,H1,e,O,d⟩)
def MO (t:TT) (ta tb:TE):TE:=λZB H Q=>t ZB H λc H1=>if c=true then ta ZB H1 Q else tb ZB H1 Q
theorem KO(k:PT X c tA) (i:PE X a ta) (j:PE X b tb):PE X (.IfExp c a b pos) (MO tA ta tb):=by(
intro WP s ZB H Q XV h;refine wpAny_IfExp (wP (k WP s ZB H _ XV h) λd g l=>jY l λH1 e f=>?_);cases d with
|true=>exact i WP g ZB H1 Q e f
|false=>exact j WP g ZB H1 Q e f)
end
def TD (K:wf) (H:Hp) (a:WF) (xs:List W1):Prop:=
 Rd H a (.lst xs)\/
  ∃(o:Obj) (Op:Array Tk) (n:Nat),K.lookup a=some o/\o.cls=.type "list" /\o.dict=none/\o.data=.seq Op n/\Op.size<=Gc/\ww xs Op.toList
def pm (K:wf) (H:Hp) (a:WF) (xs:List W1):Prop:=
 Rd H a (.tup xs)\/
  ∃(o:Obj) (Op:Array Tk) (n:Nat),K.lookup a=some o/\o.cls=.type "tuple" /\o.data=.seq Op n/\Op.size<=Gc/\ww xs Op.toList
noncomputable def E':Tk->Option W1
 |.none=>some .ak
 |.bool b=>some (.bl b)
 |.int i _=>some (.int i)
 |.str x _=>some (.str x)
 |.bytes b _=>some (.fy b)
 |.float b _=>some (.pa b)
 |.ref a=>some (.ref a)
 |.type n=>some (.ty n)
 |_=>none
theorem RelV.abs(r:RelV x u):E' u=some x:=by(
cases x with
|ak=>cases r;rfl
|bl _=>cases r;rfl
|int _=>obtain⟨t,rfl⟩:=r;rfl
|str _=>obtain⟨t,rfl⟩:=r;rfl
|fy _=>obtain⟨t,rfl⟩:=r;rfl
|pa _=>obtain⟨t,rfl⟩:=r;rfl
|ref _=>cases r;rfl
|ty _=>cases r;rfl)
theorem RelV.inj(r:RelV x u) (q:RelV y u):x=y:=b3 (r.abs.symm.trans q.abs)
theorem ww.inj(h:ww xs us) (k:ww ys us):xs=ys:=by(
induction h generalizing ys with
|nil=>cases k;rfl
|cons r t a=>cases k with|cons b t'=>rw[r.inj b,a t'])
section
variable {X:Cx}{WP:List (WF×Obj)}{ZB:St}{H:Hp}{s:Go}{a:WF}{xs ys:List W1}
theorem TD.of {K:wf}(h:H a=some (.lst xs)):TD K H a xs:=.inl (.inl h)
theorem pm.of {K:wf}(h:H a=some (.tup xs)):pm K H a xs:=.inl (.inl h)
theorem Inv.list (XV:Inv X WP ZB H s) (h:TD X.K H a xs):∃Op:List Tk,ww xs Op/\PlainL s.heap a Op.toArray/\xs.length<=Gc:=by(
rcases h with h|⟨o,Op,n,c,b,hd,d,hz,r⟩
·obtain⟨z,Op,n,r,e⟩:=h.ok XV.ag;exact⟨Op,r,⟨_,n,e,O,O,O⟩,z⟩
·refine⟨Op.toList,r,⟨o,n,XV.dY a o c,b,hd,by simpa using d⟩,?_⟩;have e:=r.length;simp only[sR]at e;lia)
theorem Inv.tuple (XV:Inv X WP ZB H s) (h:pm X.K H a xs):∃Op:List Tk,ww xs Op/\ji s.heap a Op.toArray/\xs.length<=Gc:=by(
rcases h with h|⟨o,Op,n,c,b,d,hz,r⟩
·obtain⟨z,Op,r,p⟩:=h.ok XV.ag;exact⟨Op,r,p,z⟩
·refine⟨Op.toList,r,⟨o,XV.dY a o c,b,n,by simpa using d⟩,?_⟩;have e:=r.length;simp only[sR]at e;lia)
theorem Inv.pA (XV:Inv X WP ZB H s) (h:TD X.K H a xs) (h':TD X.K H a ys):xs=ys:=by(
obtain⟨Op,r,⟨o,n,e,_,_,d⟩,_⟩:=XV.list h;obtain⟨its',f,⟨o',g,b,_,_,d'⟩,_⟩:=XV.list h';rw[e]at b;cases b;rw[d]at d';injection d' with c _;have:Op=its':=by simpa using cM Eh c
subst this;exact r.inj f)
theorem Inv.vW (XV:Inv X WP ZB H s) (h:pm X.K H a xs) (h':pm X.K H a ys):xs=ys:=by(
obtain⟨Op,r,⟨o,e,_,n,d⟩,_⟩:=XV.tuple h;obtain⟨its',f,⟨o',b,_,g,d'⟩,_⟩:=XV.tuple h';rw[e]at b;cases b;rw[d]at d';injection d' with c _;have:Op=its':=by simpa using cM Eh c
subst this;exact r.inj f)
end
noncomputable abbrev Cx.g7 (X:Cx) (E:Tk->Go->Prop):Cx:= {X with xe:=E}
noncomputable abbrev Cx.m9 (X:Cx):Cx:=X.g7 λ_ _=>False
theorem Cx.Ok.g7 {X:Cx}(ok:X.Ok) (E:Tk->Go->Prop):(X.g7 E).Ok:=
 ⟨ok.mod,ok.kind,ok.glob,ok.blt,ok.above,ok.inj,ok.has,ok.mC,ok.hd,ok.frames,ok.rl,ok.o5,ok.bs,ok.hG,ok.m7,ok.mJ,ok.fC,ok.jL⟩
theorem Cx.Ok.i2{X:Cx}(ok:(X.g7 E).Ok):X.Ok:=
 ⟨ok.mod,ok.kind,ok.glob,ok.blt,ok.above,ok.inj,ok.has,ok.mC,ok.hd,ok.frames,ok.rl,ok.o5,ok.bs,ok.hG,ok.m7,ok.mJ,ok.fC,ok.jL⟩
section
variable {X:Cx}{WP:List (WF×Obj)}{ZB:St}{H:Hp}{s:Go}{E:Tk->Go->Prop}
theorem Inv.g7 (XV:Inv X WP ZB H s) (E:Tk->Go->Prop):Inv (X.g7 E) WP ZB H s:=⟨XV.ok.g7 E,XV.os,XV.bare,XV.base,XV.loc,XV.cell,XV.free,XV.e4,XV.pin,XV.ag,XV.len⟩
theorem Inv.i2 (XV:Inv (X.g7 E) WP ZB H s):Inv X WP ZB H s:=⟨XV.ok.i2,XV.os,XV.bare,XV.base,XV.loc,XV.cell,XV.free,XV.e4,XV.pin,XV.ag,XV.len⟩
theorem SP.i2(h:SP (X.g7 E) WP D f s'):SP X WP D f s':=by(
cases f with
|next=>obtain⟨a,I,XV,q⟩:=h;exact⟨a,I,XV.i2,q⟩
|brk=>obtain⟨a,I,XV,q⟩:=h;exact⟨a,I,XV.i2,q⟩
|cont=>obtain⟨a,I,XV,q⟩:=h;exact⟨a,I,XV.i2,q⟩
|ret u=>obtain⟨v,a,I,XV,r,q⟩:=h;exact⟨v,a,I,XV.i2,r,q⟩)
theorem eF.m9{st:List v2}(h:eF X.m9 st t):eF X st t:=λWP s ZB H D XV hw=>
 eT (h WP s ZB H D (XV.g7 _) hw) (λ_ _ q=>q.i2) λ_ _ z=>ef z
end
section
variable {X:Cx}{st:v2}{d4:List v2}{t u:TS}{e:s5}{te:TE}{pos:Pos}
def rv:TS:=λD ZB H=>D.nx ZB H
def lI (t u:TS):TS:=λD ZB H=>t {D with nx:=u D} ZB H
theorem he:eF X [] rv:=λ_ _ ZB H _ XV h=>r1 ⟨ZB,H,XV,h⟩
theorem On (h1:PS X st t) (h2:eF X d4 u):eF X (st::d4) (lI t u):=by(
intro WP s ZB H D XV h;refine C4 (wP (h1 WP s ZB H {D with nx:=u D} XV h) λf b q=>?_);cases f with
|next=>
 obtain⟨c,I,a,q⟩:=q;exact h2 WP b c I D a q
|ret v=>exact q
|brk=>exact q
|cont=>exact q)
theorem Fa (h1:PS X st t):eF X [st] t:=by(
intro WP s ZB H D XV h;refine C4 (wP (h1 WP s ZB H D XV h) λf a q=>?_);cases f with
|next=>exact r1 q
|ret v=>exact q
|brk=>exact q
|cont=>exact q)
theorem Inv.quiet{ZB:St}(XV:Inv X WP ZB H s):Dn X.env=false:=by simp[Dn,XV.ok.kind]
def BF (te:TE):TS:=λD ZB H=>te ZB H λ_ H1=>D.nx ZB H1
theorem ca (b:PE X e te) (c:lS e none pos.line X.env=pure false:=by rfl):PS X (.Expr e pos) (BF te):=by
 intro WP s ZB H D XV h;exact wpAny_Expr_any (wP (b WP s ZB H _ XV h) λv i f=>Do f λx H1 a g d=>⟨ZB,H1,a,d⟩) XV.quiet c
def BK (te:TE):TS:=λD ZB H=>te ZB H D.rt
theorem tt (b:PE X e te):PS X (.Return (some e) pos) (BK te):=by
 intro WP s ZB H D XV h;exact wpAny_Return_some (wP (b WP s ZB H _ XV h) λv g f=>Do f λx H1 a d c=>⟨x,ZB,H1,a,d,c⟩)
def vM (c:TT) (t u:TS):TS:=λD ZB H=>c ZB H λb H1=>if b=true then t D ZB H1 else u D ZB H1
theorem it(l:PT X c tc) (j:eF X a t) (k:eF X b u):PS X (.If c a b pos) (vM tc t u):=by(
intro WP s ZB H D XV h;refine wpAny_If (wP (l WP s ZB H _ XV h) λd i m=>jY m λH1 f g=>?_);cases d with
|true=>exact j WP i ZB H1 D f g
|false=>exact k WP i ZB H1 D f g)
end
abbrev TG:=W1->St->Hp->(St->Hp->Prop)->Prop
abbrev jy:=List W1->St->Hp->(St->Hp->Prop)->Prop
def PG (X:Cx) (b:s5) (t:TG):Prop:=
 ∀(WP:List (WF×Obj)) (s:Go) (ZB:St) (H:Hp) (v:W1) (u:Tk) (Q:St->Hp->Prop),Inv X WP ZB H s->RelV v u->t v ZB H Q->
  wpAny (AT X.prog X.w) X.A (km b X.env u) (λ_ s'=>∃a I,Inv X WP a I s'/\Q a I) X.xe s
def oL (X:Cx) (ts:List s5) (t:jy):Prop:=
 ∀(WP:List (WF×Obj)) (s:Go) (ZB:St) (H:Hp) (vs:List W1) (us:List Tk) (Q:St->Hp->Prop),Inv X WP ZB H s->ww vs us->t vs ZB H Q->
  wpAny (AT X.prog X.w) X.A (assignInOrder ((lQ ts X.env).map (·.2)) us) (λ_ s'=>∃a I,Inv X WP a I s'/\Q a I) X.xe s
abbrev tm:=W1->W1->W1->Hp->(Hp->Prop)->Prop
def yb (X:Cx) (t:tm):Prop:=
 ∀(WP:List (WF×Obj)) (s:Go) (ZB:St) (H:Hp) (o i v:W1) (ov a u:Tk) (Q:Hp->Prop),Inv X WP ZB H s->RelV o ov->RelV i a->RelV v u->t o i v H Q->
  wpAny (AT X.prog X.w) X.A (w1 ov a u) (λ_ s'=>∃I,Inv X WP ZB I s'/\Q I) X.xe s
abbrev oO:=W1->W1->Hp->VK->Prop
def ti (X:Cx) (op:wX) (t:oO):Prop:=
 ∀(WP:List (WF×Obj)) (s:Go) (ZB:St) (H:Hp) (x y:W1) (v u:Tk) (Q:VK),Inv X WP ZB H s->RelV x v->RelV y u->t x y H Q->
  wpAny (AT X.prog X.w) X.A (wU op v u) (EP X WP ZB Q) X.xe s
section
variable {X:Cx}{pos:Pos}
def bh (i:Nat):TG:=λv ZB H Q=>Q (ZB.set i (some v)) H
theorem KU {i:Nat}{x:Str}(b:X.N.Nodup) (hi:X.N[i]?=some x) (c:Loc X.env.scope x) (hf:X.fn x=true\/X.env.scope.names.lookup x=some .local:=by first|exact .inl rfl|exact .inr rfl|assumption):PG X (.Name x pos) (bh i):=by
 intro WP s ZB H v u Q XV r h;exact C1 (vL XV b hi c r (λs' a=>⟨_,H,a,h⟩) hf)
def ua:jy:=λvs ZB H Q=>vs=[]/\Q ZB H
def k1 (t:TG) (u:jy):jy:=λvs ZB H Q=>∃v r,vs=v::r/\t v ZB H λa I=>u r a I Q
theorem cx:oL X [] ua:=by
 intro WP s ZB H vs us Q XV r h;obtain⟨e,h⟩:=h;subst e;cases r;exact assignInOrder_nil ⟨ZB,H,XV,h⟩
theorem re {e:s5}{es:List s5}{t:TG}{u:jy}(h1:PG X e t) (h2:oL X es u)
  (c:(lQ (e::es) X.env).map (·.2)=km e X.env::(lQ es X.env).map (·.2):=by rfl):oL X (e::es) (k1 t u):=by(
intro WP s ZB H vs us Q XV r h;obtain⟨v,k,b,h⟩:=h;subst b;cases r with
|cons r f=>
 rw[c];refine assignInOrder_cons (wP (h1 WP s ZB H _ _ _ XV r h) λ_ g i=>uM i λj H1 a d=>?_);exact h2 WP g j H1 _ _ Q a f d)
def uc (K:wf) (n:Nat) (t:jy):TG:=λv ZB H Q=>∃a xs,v=.ref a/\pm K H a xs/\xs.length=n/\t xs ZB H Q
theorem cw {es:List s5}{k:Nat}{t:jy}{n:Nat}(g:X.calm=true) (h:oL X es t)
  (j:(lQ es X.env).length=n:=by rfl) (m:(lQ es X.env).findIdx? (·.1)=none:=by rfl):PG X (.Tuple es k pos) (uc X.K n t):=by
 intro WP s ZB H v u Q XV r hw;obtain⟨a,xs,f,l,i,hw⟩:=hw;subst f;cases r;obtain⟨Op,c,p,hz⟩:=XV.tuple l;refine assign_Tuple_tuple (XV.ok.hd g) p (by simp[j,<-i,c.length]) m λh' q=>?_;have d:Inv X WP ZB H {s with heap:=h'}:=XV.kept (t':=s.toks) λb o e=>q b o (cb (cr e)) e;exact h WP _ ZB H xs _ Q d (by simpa using c) hw
def ub (to b:TE) (t:tm):TG:=λv ZB H Q=>to ZB H λo H1=>b ZB H1 λi H2=>t o i v H2 λa=>Q ZB a
theorem lr {o i:s5}{to b:TE}{t:tm}(j:PE X o to) (hi:PE X i b) (k:yb X t)
  (g:∀v,km (.Subscript o i pos) X.env v=(do
   let ov <-kl [v] (eval o X.env)
   let a <-kl [v,ov] (eval i X.env)
   sh pos
   kl [v,ov,a] (w1 ov a v)
   release [v,ov,a] []):=by intro _;rfl):PG X (.Subscript o i pos) (ub to b t):=by
 intro WP s ZB H v u Q XV r h;rw[g];refine IR (i6 (wP (j WP s ZB H _ XV h) λov w A=>Do A λx H1 d p l=>?_));refine IR (i6 (wP (hi WP w ZB H1 _ d l) λa z C=>Do C λy H2 e q m=>?_));refine IR (wH (IR (i6 (wP (k WP z ZB H2 x y v ov a u _ e p q r m) λ_ E D=>jY D λc f n=>?_))));exact wpAny_release ⟨ZB,c,f,n⟩
def h3 (te:TE) (g:TG):TS:=λD ZB H=>te ZB H λx H1=>g x ZB H1 D.nx
theorem dI {tg e:s5}{te:TE}{g:TG}(b:PE X e te) (hg:PG X tg g) (c:swapsWithSole [tg] e pos.line X.env=pure false:=by rfl) (hw:swappedStores [tg] e X.env=pure none:=by rfl)
  (h1:(lQ [tg] X.env).map (·.2)=[km tg X.env]:=by rfl):PS X (.Assign [tg] e pos) (h3 te g):=by
 intro WP s ZB H D XV h;refine wpAny_Assign_stores (wP (b WP s ZB H _ XV h) λv i j=>Do j λx H1 a f d=>?_) c hw;rw[h1];exact wP (hg WP i ZB H1 x v _ a f d) λ_ k q=>q
theorem K6 {i:Nat}{x:Str}{e:s5}{te:TE}{eN:Pos}(c:X.N.Nodup) (hi:X.N[i]?=some x) (g:Loc X.env.scope x) (d:PE X e te) (f:lS e (some (.Name x eN)) pos.line X.env=pure false:=by rfl) (hf:X.fn x=true\/X.env.scope.names.lookup x=some .local:=by first|exact .inl rfl|exact .inr rfl|assumption):
  PS X (.Assign [.Name x eN] e pos) (h3 te (bh i)):=by
 intro WP s ZB H D XV h;refine wpAny_Assign_Name (wP (d WP s ZB H _ XV h) λv m l=>Do l λy H1 a k j=>?_) f;exact vL a c hi g k (λn b=>⟨_,H1,b,j⟩) hf
def MD (i:Nat) (te:TE) (a:oO):TS:=λD ZB H=>∃x,ZB[i]?=some (some x)/\te ZB H λy H1=>a x y H1 λz H2=>D.nx (ZB.set i (some z)) H2
theorem uW {i:Nat}{x:Str}{e:s5}{te:TE}{op:wX}{d:oO}{eN:Pos}(o:X.N.Nodup) (hi:X.N[i]?=some x) (b:Loc X.env.scope x) (t:PE X e te) (J:ti X op d) (hf:X.fn x=true\/X.env.scope.names.lookup x=some .local:=by first|exact .inl rfl|exact .inr rfl|assumption):
  PS X (.AugAssign (.Name x eN) op e pos) (MD i te d):=by(
intro WP s ZB H D XV h;obtain⟨v,n,h⟩:=h;obtain⟨m,E,C⟩:=XV.loc;have OO:kL X.env.scope x:=by rcases b with k|k;exact .inl k;exact .inr (.inl k)
obtain⟨u,r,l⟩:=C i x v hi n OO;refine wpAny_AugAssign_Name ?_;have go:wpAny (AT X.prog X.w) X.A (eval e X.env) (λw OM=>wpAny (AT X.prog X.w) X.A (wU op u w) (λr ON=>wpAny (AT X.prog X.w) X.A (wR X.env x r) (λ_=>SP X WP D .next) X.xe ON) X.xe OM) X.xe s:=by
 refine wP (t WP s ZB H _ XV h) λw Y OP=>Do OP λy H1 f T L=>?_;refine wP (J WP Y ZB H1 v y u w _ f r T L) λz OR OQ=>Do OQ λOT H2 g U Q=>?_;exact vL g o hi b U (λOS j=>⟨_,H2,j,Q⟩) hf
rcases l with⟨a,hm⟩|⟨a,c,p,q⟩
·exact CY XV.ok.kind a E hm go
·rcases a with a|a
 ·exact CZ XV.ok.kind a p q go
 ·rcases b with k|k
  ·have:X.env.scope.names.lookup x=some .free:=a;rw[k]at this;cases this
  ·have:X.env.scope.names.lookup x=some .free:=a;rw[k]at this;cases this)
def zy (f:Int->Int->Int):oO:=λx y H Q=>∃i j,x=.int i/\y=.int j/\Q (.int (f i j)) H
theorem Hu:ti X .Add (zy λi j=>i+j):=by
 intro WP s ZB H x y v u Q XV c d h;obtain⟨i,j,a,b,q⟩:=h;subst a;subst b;obtain⟨t,rfl⟩:=c;obtain⟨t',rfl⟩:=d;exact Ec ⟨.int _,H,XV.tok _,⟨_,O⟩,q⟩
theorem zz:ti X .Sub (zy λi j=>i-j):=by
 intro WP s ZB H x y v u Q XV c d h;obtain⟨i,j,a,b,q⟩:=h;subst a;subst b;obtain⟨t,rfl⟩:=c;obtain⟨t',rfl⟩:=d;exact isub_int ⟨.int _,H,XV.tok _,⟨_,O⟩,q⟩
end
section
variable {X:Cx}{pos:Pos}
def MR (c:TT) (tb:TS):TS:=λD ZB H=>∃W:Nat->St->Hp->Prop,(∃m,W m ZB H)/\∀m ZB H,W m ZB H->
 c ZB H λb H1=>if b=true then ∃N:St->Hp->Prop,(∀d I,N d I->∃a,a<m/\W a d I)/\tb {D with nx:=N,ct:=N,bk:=D.nx} ZB H1 else D.nx ZB H1
theorem lu(p:PassesOwn (AT X.prog X.w) X.A X.env X.xe) (u:PT X c tc) (t:eF X body tb):PS X (.While c body [] pos) (MR tc tb):=by(
intro WP s ZB H D XV h;obtain⟨W,⟨x,C⟩,turn⟩:=h;refine wpAny_While (codeAny_whileLoop (λn s'=>∃q I,Inv X WP q I s'/\W n q I) ?_ x ⟨ZB,H,XV,C⟩);rintro n y ⟨i,H1,r,E⟩;refine ki p (wP (u WP y i H1 _ r (turn n i H1 E)) λb z J=>jY J λH2 m e=>?_);cases b with
|true=>
 obtain⟨N,o,e⟩:=e;rw[No rfl];refine ki p (wP (t WP z i H2 _ m e) λf L g=>?_);cases f with
 |next=>
  obtain⟨d,a,j,n3⟩:=g;obtain⟨k,hm,l⟩:=o d a n3;exact⟨k,hm,d,a,j,l⟩
 |cont=>
  obtain⟨d,a,j,n3⟩:=g;obtain⟨k,hm,l⟩:=o d a n3;exact⟨k,hm,d,a,j,l⟩
 |brk=>exact g
 |ret v=>exact g
|false=>
 rw[Ps cc];exact r1 ⟨i,H2,m,e⟩)
end
structure It where
 go:Nat->Hp->Prop
 eQ:Nat->Hp->W1->Hp->Prop
 stop:Nat->Hp->Prop
def fo (X:Cx) (WP:List (WF×Obj)) (H:Hp) (b:WF):Prop:=
 H b=none/\b≠X.env.locals/\b∉X.fs/\(b∈X.ex\/X.dt.heap.objs.size<=b)/\(∀x c,X.env.cells.lookup x=some c->c≠b)/\∀p∈X.pn++WP,p.1≠b
theorem Inv.kZ{ZB:St}{b:WF}(XV:Inv X WP ZB H s) (a:s.heap.objs.size<=b) (d:I b=none):fo X WP I b:=by(
refine⟨d,sv (c_ XV.lt a),XV.Je a,.inr (dz XV.sz a),λx c e z=>?_,λp f z=>?_⟩
·obtain⟨v,q⟩:=XV.cell x c e;exact absurd (c_ q.lt (by rw[z];exact a)) (hh _)
·exact absurd (c_ (cr (XV.pin p f).1) (by rw[z];exact a)) (hh _))
structure hE (P:fr) (w:kw) (K:wf) (tg:s5) (J:It) (fp:List WF) (c:WF) (a:Nat->s2->Prop):Prop where
 mem:c∈fp
 obj:∀i h,a i h->∀b∈fp,∃o,h.get? b=some o/\∀v,o.data≠.cell v
 keep:∀i h h',a i h->(∀b∈fp,∀o,h.get? b=some o->h'.get? b=some o)->a i h'
 item:∀(X:Cx),X.prog=P->X.w=w->X.K=K->X.calm=true->∀(i:Nat) (WP:List (WF×Obj)) (s:Go) (ZB:St) (H:Hp) (E:Tk->Go->Prop),Inv X WP ZB H s->(∀b∈fp,fo X WP H b)->a i s.heap->J.go i H->
  wpAny (AT P w) X.A (eU (.ref c)) (λr d=>∃u,r=some u/\
   wpAny (AT P w) X.A (r2 tg (.ref c) u) (λ_ e=>∃x I,Inv X WP ZB I e/\RelV x u/\J.eQ i H x I/\a (i+1) e.heap/\∀b∈fp,I b=none) E d) E s
 done:∀(X:Cx),X.prog=P->X.w=w->X.K=K->X.calm=true->∀(i:Nat) (WP:List (WF×Obj)) (s:Go) (ZB:St) (H:Hp) (E:Tk->Go->Prop),Inv X WP ZB H s->(∀b∈fp,fo X WP H b)->a i s.heap->J.stop i H->
  wpAny (AT P w) X.A (eU (.ref c)) (λr d=>r=none/\Inv X WP ZB H d) E s
 self:∀(A:bJ) (i:Nat) (s:Go) (Q:Tk->Go->Prop) (E:Tk->Go->Prop),a i s.heap->Q (.ref c) s->wpAny (AT P w) A (sj (.ref c)) Q E s
abbrev TI:=St->Hp->(It->Hp->Prop)->Prop
def tf (X:Cx) (WP:List (WF×Obj)) (ZB:St) (tg:s5) (R:It->Hp->Prop) (e:Tk) (c:Go):Prop:=
 ∃(a:WF) (fp:List WF) (d:Nat->s2->Prop) (J:It) (I:Hp),e=.ref a/\Inv X WP ZB I c/\hE X.prog X.w X.K tg J fp a d/\d 0 c.heap/\(∀b∈fp,fo X WP I b)/\R J I
def PI (X:Cx) (tg bx:s5) (b:TI):Prop:=
 ∀(WP:List (WF×Obj)) (s:Go) (ZB:St) (H:Hp) (R:It->Hp->Prop),Inv X WP ZB H s->b ZB H R->
  wpAny (AT X.prog X.w) X.A (eval bx X.env) (λv a=>wpAny (AT X.prog X.w) X.A (sj v) (tf X WP ZB tg R) X.xe a) X.xe s
theorem k3(d:s.heap.get? e=some o) (b:o.cls=.type n) (hd:o.data=.fields vs)
  (c:["enumerate","zip","dict_itemiterator","dict_reverseitemiterator","odict_iterator","itertools.zip_longest","itertools.pairwise"].contains n=false) (a:Q () s):wpAny TW A (r2 tg (.ref e) u) Q E s:=by(
unfold r2;cases tg<;>first
 |exact t3 a
 |(cases u<;>first
   |exact t3 a
   |(refine IR (Ds d ?_);rw[b,hd];show wpAny TW A (if(["enumerate","zip","dict_itemiterator","dict_reverseitemiterator","odict_iterator","itertools.zip_longest","itertools.pairwise"].contains n&&vs[0]?==some (hb _))=true then _ else _) Q E s;rw[Ps (by intro h;rw[c,xp]at h;cases h)];exact t3 a)))
def cO (K:wf) (a:WF):It:=
 ⟨λi H=>∃xs x,TD K H a xs/\xs[i]?=some x,λi H x I=>I=H/\∀xs,TD K H a xs->xs[i]?=some x,λi H=>∃xs,TD K H a xs/\xs.length<=i⟩
def mq (K:wf) (a:WF):It:=
 ⟨λi H=>∃xs x,pm K H a xs/\xs[i]?=some x,λi H x I=>I=H/\∀xs,pm K H a xs->xs[i]?=some x,λi H=>∃xs,pm K H a xs/\xs.length<=i⟩
def jt (lo:Int) (n:Nat):It:=⟨λi _=>i<n,λi H x I=>I=H/\x=.int (lo+i),λi _=>n<=i⟩
theorem M1 {P:fr}{w:kw}{K:wf}{tg:s5}(a g:WF):hE P w K tg (cO K a) [g] g (λi h=>h.IsListIter g a i) where
 mem:=by simp
 obj:=λi h st b f=>by
  have e:b=g:=by simpa using f
  subst e;obtain⟨o,e,c,d⟩:=st;exact⟨o,e,λv z=>by rw[d]at z;cases z⟩
 keep:=λi h h' st k=>st.at λo e=>k g (by simp) o e
 item:=by
  intro X y hw t D i WP s ZB H E XV hf st hg;subst y hw t;obtain⟨xs,x,j,A⟩:=hg;obtain⟨Op,C,p,hz⟩:=XV.list j;obtain⟨u,hu,U⟩:=C.get A;obtain⟨l,m,Q,n,q,r⟩:=hf g (by simp);refine wpAny_pyNext_list_item st p.isList (x:=u) (by simpa using hu) λh' J Y=>?_;have L:Inv X WP ZB H {s with heap:=h'}:=XV.turned (t':=s.toks) (λb o f e=>(Y.2 b f).trans e) l m n q r;obtain⟨o,e,c,d⟩:=id J;exact⟨u,O,k3 (s:= {s with heap:=h'}) e c d (by decide) ⟨x,H,L,U,⟨O,λys T=>by rw[XV.pA T j];exact A⟩,J,λb f=>(hf b f).1⟩⟩
 done:=by
  intro X y hw t D i WP s ZB H E XV hf st hg;subst y hw t;obtain⟨xs,j,A⟩:=hg;obtain⟨Op,C,p,hz⟩:=XV.list j;obtain⟨l,m,Q,n,q,r⟩:=hf g (by simp);have OM:=C.length;exact wpAny_pyNext_list_end (XV.ok.hd D) st p.isList (by simp;lia) λh' N=>⟨O,XV.turned (t':=s.toks) (λb o f e=>N b o f e) l m n q r⟩
 self:=λ_ _ _ _ _ st h=>wpAny_pyIter_listiter st h
theorem M5 {P:fr}{w:kw}{K:wf}{tg:s5}(a g:WF):hE P w K tg (mq K a) [g] g (λi h=>h.IsTupleIter g a i) where
 mem:=by simp
 obj:=λi h st b f=>by
  have e:b=g:=by simpa using f
  subst e;obtain⟨o,e,c,d⟩:=st;exact⟨o,e,λv z=>by rw[d]at z;cases z⟩
 keep:=λi h h' st k=>st.at λo e=>k g (by simp) o e
 item:=by
  intro X y hw t D i WP s ZB H E XV hf st hg;subst y hw t;obtain⟨xs,x,j,A⟩:=hg;obtain⟨Op,C,p,hz⟩:=XV.tuple j;obtain⟨u,hu,U⟩:=C.get A;obtain⟨l,m,Q,n,q,r⟩:=hf g (by simp);refine wpAny_pyNext_tuple_item st (show s.heap.IsTuple a Op.toArray from p) (x:=u) (by simpa using hu) λh' J Y=>?_;have L:Inv X WP ZB H {s with heap:=h'}:=XV.turned (t':=s.toks) (λb o f e=>(Y.2 b f).trans e) l m n q r;obtain⟨o,e,c,d⟩:=id J;exact⟨u,O,k3 (s:= {s with heap:=h'}) e c d (by decide) ⟨x,H,L,U,⟨O,λys T=>by rw[XV.vW T j];exact A⟩,J,λb f=>(hf b f).1⟩⟩
 done:=by
  intro X y hw t D i WP s ZB H E XV hf st hg;subst y hw t;obtain⟨xs,j,A⟩:=hg;obtain⟨Op,C,p,hz⟩:=XV.tuple j;obtain⟨l,m,Q,n,q,r⟩:=hf g (by simp);have OM:=C.length;exact wpAny_pyNext_tuple_end (XV.ok.hd D) st (show s.heap.IsTuple a Op.toArray from p) (by simp;lia) λh' N=>⟨O,XV.turned (t':=s.toks) (λb o f e=>N b o f e) l m n q r⟩
 self:=λ_ _ _ _ _ st h=>wpAny_pyIter_tupleiter st h
theorem M3 {P:fr}{w:kw}{K:wf}{tg:s5}(a:WF) (lo:Int) (n:Nat):hE P w K tg (jt lo n) [a] a (λi h=>r9 h a (lo+(i:Nat)*1) ((n:Int)-(i:Nat)) 1) where
 mem:=by simp
 obj:=λi h st b c=>by
  have e:b=a:=by simpa using c
  subst e;exact⟨_,st,λv z=>by
   have C:Data.fields _=Data.cell v:=z;cases C⟩
 keep:=λi h h' st k=>k a (by simp) _ st
 item:=by
  intro X p hw m q i WP s ZB H E XV hf st hg;subst p hw m;obtain⟨d,f,y,g,j,l⟩:=hf a (by simp);have W:=Walks.range (prog:=X.prog) (w:=X.w) (XV.ok.hd q) a lo 1 n;refine W.item i s _ _ hg st λv h' tk hv r A=>?_;obtain⟨t,rfl⟩:=hv;have u:Inv X WP ZB H {s with heap:=h',toks:=tk}:=XV.turned (λb o c e=>A b o (by simpa using c) e) d f g j l;refine⟨_,O,k3 (s:= {s with heap:=h',toks:=tk}) (n:="range_iterator") r rfl rfl (by decide) ⟨.int (lo+i),H,u,⟨t,?_⟩,⟨O,O⟩,r,λb c=>(hf b c).1⟩⟩;rw[Int.mul_one]
 done:=by
  intro X p hw m q i WP s ZB H E XV hf st hg;subst p hw m;obtain⟨d,f,y,g,j,l⟩:=hf a (by simp);exact CQ (XV.ok.hd q) st (by have:n<=i:=hg;lia) λh' x=>⟨O,XV.turned (t':=s.toks) (λb o c e=>x b o c e) d f g j l⟩
 self:=λ_ _ _ _ _ st h=>CT st h
section
variable {X:Cx}{tg:s5}
def ui (K:wf) (tl:TE):TI:=λZB H R=>tl ZB H λx H1=>∃a,x=.ref a/\(∃xs,TD K H1 a xs)/\R (cO K a) H1
def Hk (K:wf) (tl:TE):TI:=λZB H R=>tl ZB H λx H1=>∃a,x=.ref a/\(∃xs,pm K H1 a xs)/\R (mq K a) H1
theorem cy(g:PE X l tl):PI X tg l (ui X.K tl):=by(
intro WP s ZB H R XV h;refine wP (g WP s ZB H _ XV h) λv d m=>Do m λx H1 c k j=>?_;obtain⟨a,e,⟨xs,i⟩,q⟩:=j;subst e;cases k;obtain⟨Op,n,p,hz⟩:=c.list i;refine nP p.isList ?_;refine⟨d.heap.objs.size,[d.heap.objs.size],_,_,H1,O,c.kept (t':=d.toks) λb o e=>ln _ e,M1 a _,⟨_,bc _ rfl,O,O⟩,λb f=>?_,q⟩;have e:b=d.heap.objs.size:=by simpa using f
subst e;exact c.kZ (tz _) (c.ag.fresh (tz _)))
theorem KY(g:PE X l tl):PI X tg l (Hk X.K tl):=by(
intro WP s ZB H R XV h;refine wP (g WP s ZB H _ XV h) λv c m=>Do m λx H1 d k j=>?_;obtain⟨a,e,⟨xs,i⟩,q⟩:=j;subst e;cases k;obtain⟨Op,n,p,hz⟩:=d.tuple i;refine wpAny_pyIter_tuple (show c.heap.IsTuple a Op.toArray from p) ?_;refine⟨c.heap.objs.size,[c.heap.objs.size],_,_,H1,O,d.kept (t':=c.toks) λb o e=>ln _ e,M5 a _,⟨_,bc _ rfl,O,O⟩,λb f=>?_,q⟩;have e:b=c.heap.objs.size:=by simpa using f
subst e;exact d.kZ (tz _) (d.ag.fresh (tz _)))
theorem AQ{ZB:St}{lo:Int}(XV:Inv X WP ZB H s) (h1: -(2^62)<=lo) (h2:lo<2^62) (f: -(2^62)<=hi) (g:hi<2^62)
  (q:R (jt lo (hi-lo).toNat) H):wpAny (AT X.prog X.w) X.A (sj (.ref s.heap.objs.size)) (tf X WP ZB tg R) E {s with heap:=s.heap.push {cls:=.type "range",data:=.fields #[.int lo t,.int hi u,.int 1 v]},toks:=tk}:=by(
refine C0 (IsRange.new ..) (small_one h1 h2 f g) ?_;have a:Inv X WP ZB H {s with heap:=s.heap.push {cls:=.type "range",data:=.fields #[.int lo t,.int hi u,.int 1 v]},toks:=tk}:=XV.kept λb o e=>ln _ e;refine⟨(s.heap.push {cls:=.type "range",data:=.fields #[.int lo t,.int hi u,.int 1 v]}).objs.size,[(s.heap.push {cls:=.type "range",data:=.fields #[.int lo t,.int hi u,.int 1 v]}).objs.size],_,_,H,O,
 a.kept (t':=tk) λb o e=>ln _ e,M3 _ lo (hi-lo).toNat,?_,λb h=>?_,q⟩
·have c:lo+((0:Nat):Int)*1=lo:=by simp
 have d:(((hi-lo).toNat:Nat):Int)-((0:Nat):Int)=xK lo hi 1:=by rw[rangeSize_one];split<;>lia
 show r9 _ _ (lo+((0:Nat):Int)*1) ((((hi-lo).toNat:Nat):Int)-((0:Nat):Int)) 1;rw[c,d];exact bc _ rfl
·have e:b=(s.heap.push {cls:=.type "range",data:=.fields #[.int lo t,.int hi u,.int 1 v]}).objs.size:=by simpa using h
 subst e;exact a.kZ (tz _) (a.ag.fresh (tz _)))
def Hh (ta:TA):TI:=λZB H R=>ta ZB H λvs H1=>∃j:Int,vs=[.int j]/\ -(2^62)<=j/\j<2^62/\R (jt 0 j.toNat) H1
def Hi (ta:TA):TI:=λZB H R=>ta ZB H λvs H1=>∃i j:Int,vs=[.int i,.int j]/\(-(2^62)<=i/\i<2^62/\ -(2^62)<=j/\j<2^62)/\R (jt i (j-i).toNat) H1
theorem nk {a:s5}{ta:TA}{p pos:Pos}(hg:Gl X "range") (hm:X.mg "range"=none) (d:PA X [a] ta) (f:al [a] X.env=[(false,eval a X.env)]:=by rfl):PI X tg (.Call (.Name "range" p) [a] [] pos) (Hh ta):=by(
intro WP s ZB H R XV h;refine sP (k5 XV hg hm xB (oh (wP (d pos WP s ZB H _ XV h) λus m l=>Do l λvs H1 c i b=>?_) f rfl));obtain⟨j,e,b,g,q⟩:=b;subst e;cases i with
|cons r k=>
 cases k;obtain⟨t,rfl⟩:=r;exact call_range_1 (AQ c (by lia) (by lia) b g (by simpa using q)))
theorem KW {a b:s5}{ta:TA}{p pos:Pos}(hg:Gl X "range") (hm:X.mg "range"=none) (k:PA X [a,b] ta) (l:al [a,b] X.env=[(false,eval a X.env),(false,eval b X.env)]:=by rfl) (f:al [b] X.env=[(false,eval b X.env)]:=by rfl):
  PI X tg (.Call (.Name "range" p) [a,b] [] pos) (Hi ta):=by(
intro WP s ZB H R XV h;refine sP (k5 XV hg hm xB (oh (wP (k pos WP s ZB H _ XV h) λus y x=>Do x λvs H1 g w c=>?_) (by rw[l,f]) (by rw[f];rfl)));obtain⟨i,j,e,⟨c,m,n,o⟩,q⟩:=c;subst e;cases w with
|cons r d=>
 cases d with
 |cons u d=>
  cases d;obtain⟨t,rfl⟩:=r;obtain⟨t',rfl⟩:=u;exact call_range_2 (AQ g c m n o q))
def MN (c:TI) (g:TG) (tb:TS):TS:=λD ZB H=>c ZB H λJ H1=>∃W:Nat->Nat->St->Hp->Prop,(∃m,W 0 m ZB H1)/\∀i m ZB H,W i m ZB H->
 (J.stop i H/\D.nx ZB H)\/(J.go i H/\∃N:St->Hp->Prop,(∀b I,N b I->∃a,a<m/\W (i+1) a b I)/\∀x I,J.eQ i H x I->g x ZB I λd H2=>tb {D with nx:=N,ct:=N,bk:=D.nx} d H2)
def nq (fp:List WF) (h:s2):List (WF×Obj):=fp.filterMap λb=>(h.get? b).map λo=>(b,o)
theorem uB(a:b∈fp) (e:h.get? b=some o):(b,o)∈nq fp h:=oD.mpr ⟨b,a,by rw[e];rfl⟩
theorem Jh(d:p∈nq fp h):p.1∈fp/\h.get? p.1=some p.2:=by(
obtain⟨b,c,e⟩:=oD.mp d;cases q:h.get? b with
|none=>rw[q]at e;cases e
|some o=>
 rw[q]at e;have a:(b,o)=p:=b3 e;subst a;exact⟨c,q⟩)
theorem Inv.pinned{ZB:St}(XV:Inv X WP ZB H s) (hf:∀b∈fp,fo X WP H b) (i:∀b∈fp,∃o,s.heap.get? b=some o/\∀v,o.data≠.cell v):Inv X (WP++nq fp s.heap) ZB H s:=
 XV.AI λp j=>(cs.mp j).elim (λz=>XV.pin p (fY _ z)) λz=>by
  obtain⟨c,e⟩:=Jh z;obtain⟨f,g,h,_⟩:=hf p.1 c;obtain⟨o,a,d⟩:=i p.1 c;rw[e]at a;cases a;exact⟨e,f,g,h,d⟩
theorem Inv.rD{ZB:St}(XV:Inv X (WP++pl) ZB H s):Inv X WP ZB H s:=XV.AI λp a=>XV.pin p (fY _ (gx _ a))
theorem cH {bx:s5}{body:List v2}{OQ:TI}{g:TG}{tb:TS}{pos:Pos}(p:PassesOwn (AT X.prog X.w) X.A X.env X.xe) (J:X.calm=true) (hi:PI X tg bx OQ) (hg:PG X tg g) (j:eF X body tb)
  (O1:∀x,rZ bx X.env x=pure x:=by intro _;rfl):PS X (.For tg bx body [] pos) (MN OQ g tb):=by(
intro WP s ZB H Pm XV h;refine wpAny_For (wP (hi WP s ZB H _ XV h) λv Pq h1=>wP h1 λPp Pr h2=>?_) O1;obtain⟨Po,fp,OP,Pn,H2,e,OS,T,O_,Y,W,⟨O3,Pa⟩,turn⟩:=h2;subst e;have L:∀ {I:Hp},(∀b∈fp,I b=none)->∀b∈fp,fo X WP I b:=λO0 b j=>⟨O0 b j,(Y b j).2⟩;refine codeAny_forLoop_any (λn s'=>∃i q I,Inv X WP q I s'/\OP i s'.heap/\(∀b∈fp,I b=none)/\W i n q I) ?_ O3 ⟨0,ZB,H2,OS,O_,λb j=>(Y b j).1,Pa⟩;rintro n OM ⟨i,t,y,U,OO,D,Pb⟩;rcases turn i n t y Pb with⟨stop,O5⟩|⟨go,N,OZ,step⟩
·refine ki p (wP (T.done X rfl rfl rfl J i WP OM t y X.xe U (L D) OO stop) λr O8 Pf=>?_);obtain⟨z,OT⟩:=Pf;subst z;exact r1 ⟨t,y,OT,O5⟩
·refine ki p (wP (T.item X rfl rfl rfl J i WP OM t y X.xe U (L D) OO go) λr O8 Pg=>?_);obtain⟨u,z,OY⟩:=Pg;subst z;refine ki p (wP OY λ_ ON Ph=>Do Ph λx Q OU O6 Pk=>?_);obtain⟨Pe,E,OX⟩:=Pk;have OV:=OU.pinned (L OX) (T.obj _ _ E);refine ki p (wP (hg _ ON t Q x u _ OV O6 (step x Q Pe)) λ_ O9 Pj=>uM Pj λPl OR OW O4=>?_);refine ki p (wP (j _ O9 Pl OR _ OW O4) λf C l=>?_);have again:∀ {k:St}{a:Hp},Inv X (WP++nq fp ON.heap) k a C->N k a->∃m,m<n/\∃i q I,Inv X WP q I C/\OP i C.heap/\(∀b∈fp,I b=none)/\W i m q I:=λ{k a} c n7=>by
  obtain⟨O2,hm,Pc⟩:=OZ k a n7;refine⟨O2,hm,i+1,k,a,c.rD,T.keep _ _ _ E λb j o e=>(c.pin (b,o) (fY _ (fY _ (uB j e)))).1,λb j=>?_,Pc⟩;obtain⟨o,e,d⟩:=T.obj _ _ E b j;exact(c.pin (b,o) (fY _ (fY _ (uB j e)))).2.1
 cases f with
 |next=>obtain⟨k,a,c,n7⟩:=l;exact again c n7
 |cont=>obtain⟨k,a,c,n7⟩:=l;exact again c n7
 |brk=>obtain⟨k,a,c,l⟩:=l;exact⟨k,a,c.rD,l⟩
 |ret v=>obtain⟨Pd,k,a,c,O7,l⟩:=l;exact⟨Pd,k,a,c.rD,O7,l⟩)
end
theorem gM{K:wf}{g:TG}{tb:TS}{D:Ends}(Pv:Nat->St->Hp->Prop) (h0:Pv 0 ZB H) (h:∀i ZB H,i<=xs.length->Pv i ZB H->TD K H a xs)
  (j:∀i x ZB H,xs[i]?=some x->Pv i ZB H->g x ZB H λc H2=>tb {D with nx:=Pv (i+1),ct:=Pv (i+1),bk:=D.nx} c H2) (hd:∀ZB H,Pv xs.length ZB H->D.nx ZB H):
  ∃W:Nat->Nat->St->Hp->Prop,(∃m,W 0 m ZB H)/\∀i m ZB H,W i m ZB H->
   ((cO K a).stop i H/\D.nx ZB H)\/((cO K a).go i H/\∃N:St->Hp->Prop,(∀b I,N b I->∃f,f<m/\W (i+1) f b I)/\∀x I,(cO K a).eQ i H x I->g x ZB I λc H2=>tb {D with nx:=N,ct:=N,bk:=D.nx} c H2):=by(
refine⟨λi m ZB H=>m=xs.length-i/\i<=xs.length/\Pv i ZB H,⟨xs.length,by simp,f4 _,h0⟩,?_⟩;rintro i m ZB H ⟨rfl,hi,p⟩;have q:=h i ZB H hi p;by_cases d:i<xs.length
·refine .inr ⟨⟨xs,xs[i],q,by simp[d]⟩,Pv (i+1),λb I k=>⟨xs.length-(i+1),by lia,O,d,k⟩,λx I y=>?_⟩;obtain⟨e,y⟩:=y;subst e;exact j i x ZB _ (y xs q) p
·have e:i=xs.length:=by lia
 subst e;exact .inl ⟨⟨xs,q,tz _⟩,hd ZB H p⟩)
theorem GZ{K:wf}{g:TG}{tb:TS}{D:Ends}(Pv:Nat->St->Hp->Prop) (h0:Pv 0 ZB H) (h:∀i ZB H,i<=xs.length->Pv i ZB H->pm K H a xs)
  (j:∀i x ZB H,xs[i]?=some x->Pv i ZB H->g x ZB H λc H2=>tb {D with nx:=Pv (i+1),ct:=Pv (i+1),bk:=D.nx} c H2) (hd:∀ZB H,Pv xs.length ZB H->D.nx ZB H):
  ∃W:Nat->Nat->St->Hp->Prop,(∃m,W 0 m ZB H)/\∀i m ZB H,W i m ZB H->
   ((mq K a).stop i H/\D.nx ZB H)\/((mq K a).go i H/\∃N:St->Hp->Prop,(∀b I,N b I->∃f,f<m/\W (i+1) f b I)/\∀x I,(mq K a).eQ i H x I->g x ZB I λc H2=>tb {D with nx:=N,ct:=N,bk:=D.nx} c H2):=by(
refine⟨λi m ZB H=>m=xs.length-i/\i<=xs.length/\Pv i ZB H,⟨xs.length,by simp,f4 _,h0⟩,?_⟩;rintro i m ZB H ⟨rfl,hi,p⟩;have q:=h i ZB H hi p;by_cases d:i<xs.length
·refine .inr ⟨⟨xs,xs[i],q,by simp[d]⟩,Pv (i+1),λb I k=>⟨xs.length-(i+1),by lia,O,d,k⟩,λx I y=>?_⟩;obtain⟨e,y⟩:=y;subst e;exact j i x ZB _ (y xs q) p
·have e:i=xs.length:=by lia
 subst e;exact .inl ⟨⟨xs,q,tz _⟩,hd ZB H p⟩)
theorem kY{lo:Int}{g:TG}{tb:TS}{D:Ends}(Pv:Nat->St->Hp->Prop) (h0:Pv 0 ZB H)
  (f:∀i ZB H,i<n->Pv i ZB H->g (.int (lo+i)) ZB H λc H2=>tb {D with nx:=Pv (i+1),ct:=Pv (i+1),bk:=D.nx} c H2) (hd:∀ZB H,Pv n ZB H->D.nx ZB H):
  ∃W:Nat->Nat->St->Hp->Prop,(∃m,W 0 m ZB H)/\∀i m ZB H,W i m ZB H->
   ((jt lo n).stop i H/\D.nx ZB H)\/((jt lo n).go i H/\∃N:St->Hp->Prop,(∀b I,N b I->∃d,d<m/\W (i+1) d b I)/\∀x I,(jt lo n).eQ i H x I->g x ZB I λc H2=>tb {D with nx:=N,ct:=N,bk:=D.nx} c H2):=by(
refine⟨λi m ZB H=>m=n-i/\i<=n/\Pv i ZB H,⟨n,by simp,f4 _,h0⟩,?_⟩;rintro i m ZB H ⟨rfl,hi,p⟩;by_cases a:i<n
·refine .inr ⟨a,Pv (i+1),λb I h=>⟨n-(i+1),by lia,O,a,h⟩,λx I y=>?_⟩;obtain⟨e,y⟩:=y;subst e y;exact f i ZB _ a p
·have e:i=n:=by lia
 subst e;exact .inl ⟨tz _,hd ZB H p⟩)
abbrev R2:=W1->W1->Hp->VK->Prop
def bP (X:Cx) (f:Tk->Tk->Sem Tk) (r:R2):Prop:=
 ∀(WP:List (WF×Obj)) (s:Go) (ZB:St) (H:Hp) (x y:W1) (v u:Tk) (Q:VK),Inv X WP ZB H s->RelV x v->RelV y u->r x y H Q->
  wpAny (AT X.prog X.w) X.A (f v u) (EP X WP ZB Q) X.xe s
def tn (X:Cx) (f:Tk->Sem Tk) (r:W1->Hp->VK->Prop):Prop:=
 ∀(WP:List (WF×Obj)) (s:Go) (ZB:St) (H:Hp) (x:W1) (v:Tk) (Q:VK),Inv X WP ZB H s->RelV x v->r x H Q->
  wpAny (AT X.prog X.w) X.A (f v) (EP X WP ZB Q) X.xe s
def hs (X:Cx) (f:Tk) (r:List W1->Hp->VK->Prop):Prop:=
 ∀(WP:List (WF×Obj)) (s:Go) (ZB:St) (H:Hp) (xs:List W1) (us:List Tk) (Q:VK),Inv X WP ZB H s->ww xs us->r xs H Q->
  wpAny (AT X.prog X.w) X.A (call f us) (EP X WP ZB Q) X.xe s
def h4 (r:R2) (ta tb:TE):TE:=λZB H Q=>ta ZB H λx H1=>tb ZB H1 λy H2=>r x y H2 Q
def vR (r:W1->Hp->VK->Prop) (ta:TE):TE:=λZB H Q=>ta ZB H λx H1=>r x H1 Q
def rI (C:Int->Int->Prop) (g:Int->Int->W1):R2:=λx y H Q=>∃i j,x=.int i/\y=.int j/\C i j/\Q (g i j) H
def d3 (g:Int->Int->W1):R2:=λx y H Q=>∃i j,x=.int i/\y=.int j/\Q (g i j) H
def rU (g:Int->W1):W1->Hp->VK->Prop:=λx H Q=>∃i,x=.int i/\Q (g i) H
section
variable {X:Cx}{a b c:s5}{ta tb tc:TE}{pos:Pos}
theorem tH(i:PE X a ta) (j:PE X b tb) {ZB:St}{R:W1->W1->Hp->Prop}(XV:Inv X WP ZB H s)
  (h:ta ZB H λx H1=>tb ZB H1 λy H2=>R x y H2) {f:Tk->Tk->Sem Tk}
  (hf:∀v u d x y H2,Inv X WP ZB H2 d->RelV x v->RelV y u->R x y H2->wpAny (AT X.prog X.w) X.A (f v u) Q X.xe d):
  wpAny (AT X.prog X.w) X.A (eval a X.env) (λv p=>wpAny (AT X.prog X.w) X.A (eval b X.env) (λu q=>wpAny (AT X.prog X.w) X.A (f v u) Q X.xe q) X.xe p) X.xe s:=by
 refine wP (i WP s ZB H _ XV h) λv o r=>Do r λx H1 e m k=>?_;refine wP (j WP o ZB H1 _ e k) λu d t=>Do t λy H2 g n l=>?_;exact hf v u d x y H2 g m n l
theorem jp(g:bP X (ha op) r) (e:PE X a ta) (f:PE X b tb):PE X (.BinOp a op b pos) (h4 r ta tb):=by
 intro WP s ZB H Q XV h;exact wpAny_BinOp (tH e f XV h λv u k x y H2 d i j q=>g WP k ZB H2 x y v u Q d i j q)
theorem eL(f:tn X (unaryOp op) r) (e:PE X a ta):PE X (.UnaryOp op a pos) (vR r ta):=by
 intro WP s ZB H Q XV h;exact UnaryOp_ (wP (e WP s ZB H _ XV h) λv j k=>Do k λx H1 d i g=>f WP j ZB H1 x v Q d i g)
theorem pO{g:Int->Int->Int}
  (rule:∀(i j:Int) (t u:Tok) (s:Go) (Q:Tk->Go->Prop) (E:Tk->Go->Prop),C i j->Q (.int (g i j) s.toks) {s with toks:=s.toks+1}->wpAny (AT X.prog X.w) X.A (f (.int i t) (.int j u)) Q E s):
  bP X f (rI C λi j=>.int (g i j)):=by
 intro WP s ZB H x y v u Q XV e k h;obtain⟨i,j,rfl,rfl,d,q⟩:=h;obtain⟨t,rfl⟩:=e;obtain⟨t',rfl⟩:=k;exact rule i j t t' s _ _ d ⟨.int (g i j),H,XV.tok _,⟨_,O⟩,q⟩
theorem uL{g:Int->Int->Int}
  (rule:∀(i j:Int) (t u:Tok) (s:Go) (Q:Tk->Go->Prop) (E:Tk->Go->Prop),Q (.int (g i j) s.toks) {s with toks:=s.toks+1}->wpAny (AT X.prog X.w) X.A (f (.int i t) (.int j u)) Q E s):
  bP X f (d3 λi j=>.int (g i j)):=by
 intro WP s ZB H x y v u Q XV d e h;obtain⟨i,j,rfl,rfl,q⟩:=h;obtain⟨t,rfl⟩:=d;obtain⟨t',rfl⟩:=e;exact rule i j t t' s _ _ ⟨.int (g i j),H,XV.tok _,⟨_,O⟩,q⟩
theorem pN{g:Int->Int->Bool}
  (rule:∀(i j:Int) (t u:Tok) (s:Go) (Q:Tk->Go->Prop) (E:Tk->Go->Prop),Q (.bool (g i j)) s->wpAny (AT X.prog X.w) X.A (f (.int i t) (.int j u)) Q E s):
  bP X f (d3 λi j=>.bl (g i j)):=by
 intro WP s ZB H x y v u Q XV d e h;obtain⟨i,j,rfl,rfl,q⟩:=h;obtain⟨t,rfl⟩:=d;obtain⟨t',rfl⟩:=e;exact rule i j t t' s _ _ ⟨.bl (g i j),H,XV,O,q⟩
def EF (i j:Int):Prop:=0<j/\j<1073741824
def s6 (i j:Int):Prop:=(-(2^64)<i/\i<2^64)\/(-(2^64)<j/\j<2^64)
theorem s6.ok(h:s6 i j):IntMulOk i j:=by(
rcases h with⟨h1,h2⟩|⟨h1,h2⟩
·exact .of_left (Dg h1 h2)
·exact .of_right (Dg h1 h2))
theorem M9 (k:Nat):(0:Int)<=2^k:=by
 rw[two_pow_cast];exact D7 _
theorem bG:bP X (ha .Add) (d3 λi j=>.int (i+j)):=uL λ_ _ _ _ _ _ _ q=>add_int q
theorem gP:bP X (ha .Sub) (d3 λi j=>.int (i-j)):=uL λ_ _ _ _ _ _ _ q=>sub_int q
theorem Kh:bP X (ha .Mult) (rI s6 λi j=>.int (i*j)):=pO λ_ _ _ _ _ _ _ d q=>mul_int q d.ok
theorem Kf:bP X (ha .FloorDiv) (rI EF λi j=>.int (i/j)):=pO λi j _ _ _ _ _ d q=>by
 have h1:(0:Int)<j:=d.1;have h2:j<1073741824:=d.2;exact floordiv_int (by lia) (by rw[D6 i (by lia)];exact q) (.inl (PyProof.noPylong_small (by lia)))
theorem Kg:bP X (ha .Mod) (rI (λ_ j=>0<j) λi j=>.int (i%j)):=pO λi j _ _ _ _ _ d q=>by
 have h1:(0:Int)<j:=d;exact mod_int' (by lia) (by rw[Int.fmod_eq_emod_of_nonneg i (by lia)];exact q)
theorem Kk:bP X (ha .RShift) (rI (λ_ j=>0<=j) λi j=>.int (i/2^j.toNat)):=pO λi j _ _ _ _ _ d q=>
 rshift_int d (by rw[D6 i (M9 _)];exact q)
theorem Kd:bP X (ha .BitAnd) (d3 λi j=>.int (sT i j)):=uL λ_ _ _ _ _ _ _ q=>and_int q
theorem M'{g:Int->Int}
  (rule:∀(i:Int) (t:Tok) (s:Go) (Q:Tk->Go->Prop) (E:Tk->Go->Prop),Q (.int (g i) s.toks) {s with toks:=s.toks+1}->wpAny (AT X.prog X.w) X.A (f (.int i t)) Q E s):
  tn X f (rU λi=>.int (g i)):=by
 intro WP s ZB H x v Q XV d h;obtain⟨i,rfl,q⟩:=h;obtain⟨t,rfl⟩:=d;exact rule i t s _ _ ⟨.int (g i),H,XV.tok _,⟨_,O⟩,q⟩
theorem eP:tn X (unaryOp .USub) (rU λi=>.int (-i)):=M' λ_ _ _ _ _ q=>neg_int q
end
noncomputable def Bl:W1->W1->Bool
 |.ak,.ak=>true|.ak,.int _=>true|.int _,.ak=>true|.ak,.bl _=>true|.bl _,.ak=>true|.ak,.str _=>true|.str _,.ak=>true
 |.int _,.int _=>true|.bl _,.bl _=>true|.str _,.str _=>true|.fy _,.fy _=>true
 |.int _,.str _=>true|.str _,.int _=>true|.bl _,.str _=>true|.str _,.bl _=>true
 |_,_=>false
def Lk:R2:=λx y H Q=>Bl x y=true/\Q (.bl (decide (x=y))) H
def Lo:R2:=λx y H Q=>Bl x y=true/\Q (.bl (!decide (x=y))) H
theorem yZ:decide (W1.int i=W1.int j)=(i==j):=by
 rw[sA];simp
theorem yX:decide (W1.bl i=W1.bl j)=(i==j):=by
 rw[sA];simp
theorem y0:decide (W1.str i=W1.str j)=(i==j):=by
 rw[sA];simp
theorem yY:decide (W1.fy i=W1.fy j)=(i.toList==j.toList):=by
 rw[sA];cases i;cases j;simp
section
variable {X:Cx}{a b c:s5}{ta tb tc:TE}{pos:Pos}
theorem aT{ZB:St}(XV:Inv X WP ZB H s) (q:Q (.bl k) H) (e:k=d):EP X WP ZB Q (.bool d) s:=by
 subst e;exact⟨.bl k,H,XV,O,q⟩
theorem c0:bP X (dR .Eq) Lk:=by(
intro WP s ZB H x y v u Q XV f d h;obtain⟨e,q⟩:=h;cases x with
|ak=>
 cases f;cases y with
 |ak=>cases d;exact Ol (aT XV q (by simp))
 |bl j=>cases d;exact Om (aT XV q (by simp))
 |int j=>obtain⟨t',rfl⟩:=d;exact Ov (aT XV q (by simp))
 |str j=>obtain⟨t',rfl⟩:=d;exact Ow (aT XV q (by simp))
 |_=>exact absurd (show false=true from e) cc
|bl i=>
 cases f;cases y with
 |ak=>cases d;exact Oo (aT XV q (by simp))
 |bl j=>cases d;exact eq_bool (aT XV q yX)
 |str j=>obtain⟨t',rfl⟩:=d;exact OD (aT XV q (by simp))
 |_=>exact absurd (show false=true from e) cc
|int i=>
 obtain⟨t,rfl⟩:=f;cases y with
 |ak=>cases d;exact Ox (aT XV q (by simp))
 |int j=>obtain⟨t',rfl⟩:=d;exact eq_int (aT XV q yZ)
 |str j=>obtain⟨t',rfl⟩:=d;exact OH (aT XV q (by simp))
 |_=>exact absurd (show false=true from e) cc
|str i=>
 obtain⟨t,rfl⟩:=f;cases y with
 |ak=>cases d;exact Oy (aT XV q (by simp))
 |bl j=>cases d;exact OE (aT XV q (by simp))
 |int j=>obtain⟨t',rfl⟩:=d;exact OI (aT XV q (by simp))
 |str j=>obtain⟨t',rfl⟩:=d;exact eq_str (aT XV q y0)
 |_=>exact absurd (show false=true from e) cc
|fy i=>
 obtain⟨t,rfl⟩:=f;cases y with
 |fy j=>obtain⟨t',rfl⟩:=d;exact NR (aT XV q yY)
 |_=>exact absurd (show false=true from e) cc
|_=>cases y<;>exact absurd (show false=true from e) cc)
theorem Ki:bP X (dR .NotEq) Lo:=by(
intro WP s ZB H x y v u Q XV f d h;obtain⟨e,q⟩:=h;cases x with
|ak=>
 cases f;cases y with
 |ak=>cases d;exact Oq (aT XV q (by simp))
 |bl j=>cases d;exact Ot (aT XV q (by simp))
 |int j=>obtain⟨t',rfl⟩:=d;exact Oz (aT XV q (by simp))
 |str j=>obtain⟨t',rfl⟩:=d;exact OA (aT XV q (by simp))
 |_=>exact absurd (show false=true from e) cc
|bl i=>
 cases f;cases y with
 |ak=>cases d;exact Ou (aT XV q (by simp))
 |bl j=>cases d;exact ne_bool (aT XV q (cM not yX))
 |str j=>obtain⟨t',rfl⟩:=d;exact OF (aT XV q (by simp))
 |_=>exact absurd (show false=true from e) cc
|int i=>
 obtain⟨t,rfl⟩:=f;cases y with
 |ak=>cases d;exact OB (aT XV q (by simp))
 |int j=>obtain⟨t',rfl⟩:=d;exact ne_int (aT XV q (cM not yZ))
 |str j=>obtain⟨t',rfl⟩:=d;exact OJ (aT XV q (by simp))
 |_=>exact absurd (show false=true from e) cc
|str i=>
 obtain⟨t,rfl⟩:=f;cases y with
 |ak=>cases d;exact OC (aT XV q (by simp))
 |bl j=>cases d;exact OG (aT XV q (by simp))
 |int j=>obtain⟨t',rfl⟩:=d;exact OK (aT XV q (by simp))
 |str j=>obtain⟨t',rfl⟩:=d;exact ne_str (aT XV q (cM not y0))
 |_=>exact absurd (show false=true from e) cc
|fy i=>
 obtain⟨t,rfl⟩:=f;cases y with
 |fy j=>obtain⟨t',rfl⟩:=d;exact NS (aT XV q (cM not yY))
 |_=>exact absurd (show false=true from e) cc
|_=>cases y<;>exact absurd (show false=true from e) cc)
theorem d1:bP X (dR .Lt) (d3 λi j=>.bl (decide (i<j))):=pN λ_ _ _ _ _ _ _ q=>Ed q
theorem cv:bP X (dR .LtE) (d3 λi j=>.bl (decide (i<=j))):=pN λ_ _ _ _ _ _ _ q=>le_int q
theorem m':bP X (dR .Gt) (d3 λi j=>.bl (decide (j<i))):=pN λ_ _ _ _ _ _ _ q=>gt_int q
theorem la:bP X (dR .GtE) (d3 λi j=>.bl (decide (j<=i))):=pN λ_ _ _ _ _ _ _ q=>ge_int q
theorem Kj:bP X (dR .IsNot) (λx y H Q=>y=.ak/\Q (.bl (!decide (x=.ak))) H):=by(
intro WP s ZB H x y v u Q XV d e h;obtain⟨rfl,q⟩:=h;cases e;refine isnot_none_gen (aT XV q ?_);cases x<;>first
 |(cases d;rfl)
 |(obtain⟨t,rfl⟩:=d;rfl))
theorem li (b:s5) {op:nX}(h:op≠.In:=by decide) (h2:op≠.NotIn:=by decide):kj op b=false:=by(
have d:(op==CmpOp.In)=false:=by cases op<;>first|rfl|exact absurd rfl h
have e:(op==CmpOp.NotIn)=false:=by cases op<;>first|rfl|exact absurd rfl h2
cases b<;>simp[kj,d,e])
theorem p4(g:bP X (dR op) r) (e:PE X a ta) (f:PE X b tb) (hm:kj op b=false):PE X (.Compare a [op] [b] pos) (h4 r ta tb):=by
 intro WP s ZB H Q XV h;exact wpAny_Compare1 (tH e f XV h λv u k x y H2 d i j q=>g WP k ZB H2 x y v u Q d i j q) hm
def rz (t:TE):TT:=λZB H Q=>t ZB H λx I=>∃k,x=.bl k/\Q k I
theorem ga(m:bP X (dR op) r) (j:PE X a ta) (l:PE X b tb) (hm:kj op b=false):PT X (.Compare a [op] [b] pos) (rz (h4 r ta tb)):=by(
intro WP s ZB H Q XV h;refine CU (wP (j WP s ZB H _ XV h) λv A D=>Do D λx H1 f q n=>wP (l WP A ZB H1 _ f n) λu C E=>Do E λy H2 g t o=>
 wP (m WP C ZB H2 x y v u _ g q t o) λc N J=>Do J λz d i w L=>?_) hm
obtain⟨k,e,p⟩:=L;subst e;cases w;exact i4 ⟨d,i,p⟩)
def rq (r f:R2) (ta tb tc:TE):TE:=λZB H Q=>ta ZB H λx H1=>tb ZB H1 λy H2=>r x y H2 λz d=>∃k,z=.bl k/\
 (if k=true then tc ZB d λg e=>f y g e Q else Q (.bl false) d)
theorem p3 {op f:nX}{r l:R2}(C:bP X (dR op) r) (D:bP X (dR f) l) (t:PE X a ta) (w:PE X b tb) (A:PE X c tc)
  (hm:lastMarks [op,f] [b,c]=false:=by with_unfolding_all rfl):PE X (.Compare a [op,f] [b,c] pos) (rq r l ta tb tc):=by(
intro WP s ZB H Q XV h;refine Compare_chain (wP (t WP s ZB H _ XV h) λv Y OR=>Do OR λx H1 o N E=>chain_link (wP (w WP Y ZB H1 _ o E) λu OM OS=>Do OS λy H2 p m J=>
 wP (C WP OM ZB H2 x y v u _ p N m J) λd ON OT=>Do OT λz g i T OV=>?_)) hm
obtain⟨k,e,j⟩:=OV;subst e;cases T;refine i4 ?_;cases k with
|false=>exact ite_ff ⟨.bl false,g,i,O,j⟩
|true=>exact ite_tt (chain_last (wP (A WP ON ZB g _ i j) λOP OO OU=>Do OU λOQ n q U L=>D WP OO ZB n y OQ u OP Q q m U L)))
theorem j2 {op f:nX}{r l:R2}(L:bP X (dR op) r) (N:bP X (dR f) l) (D:PE X a ta) (E:PE X b tb) (J:PE X c tc)
  (hm:lastMarks [op,f] [b,c]=false:=by with_unfolding_all rfl):PT X (.Compare a [op,f] [b,c] pos) (rz (rq r l ta tb tc)):=by(
intro WP s ZB H Q XV h;refine isTrue_chain (wP (D WP s ZB H _ XV h) λv OS OY=>Do OY λx H1 p OO U=>test_link (wP (E WP OS ZB H1 _ p U) λu OT OZ=>Do OZ λy H2 q m Y=>
 wP (L WP OT ZB H2 x y v u _ q OO m Y) λd OU O0=>Do O0 λz g i OP O3=>?_)) hm
obtain⟨k,e,j⟩:=O3;subst e;cases OP;refine i4 ?_;cases k with
|false=>
 obtain⟨O5,A,T⟩:=j;cases A;exact ite_ff ⟨g,i,T⟩
|true=>
 refine ite_tt (test_last (wP (J WP OU ZB g _ i j) λOW OV O1=>Do O1 λOX n t OQ OM=>wP (N WP OV ZB n y OX u OW _ t m OQ OM) λd' O7 O2=>Do O2 λO8 o w OR O4=>?_));obtain⟨O6,C,ON⟩:=O4;subst C;cases OR;exact i4 ⟨o,w,ON⟩)
theorem pz:(Gc:Nat)<2^63:=by rw[h9];decide
theorem vals1(r:ww [x] us):∃u,us=[u]/\RelV x u:=by(
cases r with
|cons d e=>cases e;exact⟨_,O,d⟩)
theorem vals2(r:ww [x,y] us):∃u d,us=[u,d]/\RelV x u/\RelV y d:=by(
cases r with
|cons e f=>
 cases f with
 |cons g h=>cases h;exact⟨_,_,O,e,g⟩)
theorem yL (e:X.calm=true):hs X (.builtin "min") (λxs H Q=>∃i j,xs=[.int i,.int j]/\Q (.int (if j<i then j else i)) H):=by(
intro WP s ZB H xs us Q XV r h;obtain⟨i,j,rfl,q⟩:=h;obtain⟨u,f,rfl,⟨t,rfl⟩,⟨t',rfl⟩⟩:=vals2 r;refine min_two_ints (XV.ok.hd e) λh' tk k=>⟨_,H,XV.kept k,?_,q⟩;by_cases d:j<i
·rw[No d,No d];exact⟨_,O⟩
·rw[Ps d,Ps d];exact⟨_,O⟩)
end
structure jx (h:s2) (x dx C:WF) (mA:Str->Option Tk):Prop where
 obj:h.get? x=some (ja C dx)
 ns:h.Ns1 dx mA
 ne:dx≠x
theorem Iy{h:s2}(n:h.Ns1 dx mA):∃b,h.get? dx=some b/\∀name,sm name b=some (mA name):=by(
obtain⟨o,es,ep,g,hd,d,_,hm⟩:=n;refine⟨o,g,λname=>?_⟩;have e:=hm name;unfold nsFind findBy at e;rw[<- Array.find?_toList]at e;unfold sm;rw[hd];dsimp only;split
·rename_i y q;rw[q]at e;exact cM some e
·rename_i q;rw[q]at e;have a:es.toList.any (·.refKey)=false:=by
  rw[List.any_eq_false];intro y i;obtain⟨z,t,f⟩:=d y (l8.mp i);simp[DictEntry.refKey,f]
 have c:¬es.toList.any (·.refKey)=true:=by rw[a];exact cc
 rw[Ps c];exact cM some e)
theorem jx.look(XV:jx h x dx C mA):∃a,N1 h x (ja C dx) C (some a)/\∀name,sm name a=some (mA name):=
 let ⟨a,c,b⟩:=Iy XV.ns
 ⟨a,⟨XV.obj,O,O,c⟩,b⟩
section
variable {prog:fr}{w:kw}{A:bJ}{E:Tk->Go->Prop}{s:Go}{K:wf}{x dx C f:WF}{mA:Str->Option Tk}{name:Str}{v:Tk}
theorem G8(X:K.In s.heap) (XV:jx s.heap x dx C mA) (hg:nY K C name=true) (b:sl K C=true)
  (a:fS K (.ref C) name=some none) (hv:mA name=some v) (d:DD v=true) (h:Q v {s with toks:=s.toks+1}):
  wpAny (AT prog w) A (w2 (.ref x) name e) Q E s:=by
 obtain⟨g,J,c⟩:=XV.look;exact NM X J (w9 hg).1 (ND b a rfl (by rw[c,hv])) d h
theorem G9(X:K.In s.heap) (XV:jx s.heap x dx C mA) (hg:nY K C name=true)
  (hf:fS K (.ref C) name=some (some (.ref f))) (b:nZ K (.ref f)=true) (hv:mA name=none) (h:Q (.ref f,[.ref x]) s):
  wpAny (AT prog w) A (sd (.ref x) name pl) Q E s:=by
 obtain⟨c,J,a⟩:=XV.look;exact NN X J (w9 hg).1 (w9 hg).2 hf (gu.mp b) (by show(sm name c).map (·.isSome)=some false;rw[a,hv];rfl) h
theorem Mr(X:K.In s.heap) (XV:jx s.heap x dx C mA)
  (n:fS K (.ref C) "__setattr__"=some (some (.builtin "object.__setattr__"))) (m:xa K C=true) (o:xb K C name=some none) (k:sl K C=true)
  (hw:wI mA ns) (hsz:ns.length<=Gc)
  (h:∀h',jx h' x dx C (λy=>if y=name then some v else mA y)->lX dx s.heap h'->Q () {s with heap:=h',toks:=s.toks+2}):
  wpAny (AT prog w) A (setAttr (.ref x) name v) Q E s:=by
 obtain⟨H,J,z⟩:=XV.look;refine NO X J n (NU (s:= {s with toks:=s.toks+1}) (r:=none) X J m o λb=>?_);obtain⟨q,e,i⟩:=NV k;have p:s.heap.get? x=some ⟨.ref C,some dx,.plain,#[]⟩:=XV.obj;refine IR (t3 (IR (IR (wpAny_loadPart p (IR (PySem.W.Looks.here (s:= {s with toks:=s.toks+1}) (NF X e) ?_))))));rw[i];refine t3 (a:=some dx) (IR (t3 (IR ?_)));refine wpAny_nsSet1 (s:= {s with toks:=s.toks+1}) XV.ns λh' c d=>?_;obtain⟨D,u,t,l,j,g⟩:=c.count (PySem.Within.cons name v hw);refine IR (wpAny_lookBehind l (by rw[j];exact pastItsLine_dict (dz g (by rw[bt];lia))) ?_);exact t3 (h _ ⟨(d.2 _ (Ne.symm XV.ne)).trans XV.obj,c,XV.ne⟩ d)
theorem IC(X:K.In s.heap) (hm:xc K C=true)
  (hi:fS K (.ref C) "__init__"=some (some (.ref f))) (hf:N2 K (.ref f)=some (.type "function"))
  (h:codeAny (AT prog w) (A.under (.builtin "type.__call__" ⟨.ref C::vs,a⟩)) (.call (.ref f) ⟨.ref (s.heap.objs.size+1)::vs,a⟩) (NW (s.heap.objs.size+1) R)
   {s with heap:=(s.heap.push ie).push (ja C s.heap.objs.size)}):
  codeAny (AT prog w) A (.call (.ref C) ⟨vs,a⟩) R s:=by
 obtain⟨b,g,d,t,os⟩:=s;exact NQ (NX X hm) (NA X hi) (λself=>N0 X self hf) (.inl rfl) h
end
noncomputable def rc (f:Str) (v:W1):List (Str×W1)->List (Str×W1)
 |[]=>[(f,v)]
 |(g,x)::r=>if g=f then(g,v)::r else(g,x)::rc f v r
theorem z9 (f g:Str) (v:W1):∀fs:List (Str×W1),(rc f v fs).lookup g=if g=f then some v else fs.lookup g
 |[]=>by
  show jo g [(f,v)]=_;by_cases h:g=f
  ·have a:(g==f)=true:=gu.mpr h;simp only[jo,a,No h]
  ·have a:(g==f)=false:=lO.mpr h;simp only[jo,a,Ps h]
 |(k,x)::r=>by
  have c:=z9 f g v r;rw[show rc f v ((k,x)::r)=(if k=f then(k,v)::r else(k,x)::rc f v r) from rfl];by_cases b:k=f
  ·rw[No b];by_cases h:g=k
   ·have a:(g==k)=true:=gu.mpr h;simp only[jo,a,No (h.trans b)]
   ·have a:(g==k)=false:=lO.mpr h;simp only[jo,a,Ps (λe:g=f=>h (e.trans b.symm))]
  ·rw[Ps b];by_cases h:g=k
   ·have a:(g==k)=true:=gu.mpr h;simp only[jo,a,Ps (λe:g=f=>b (h.symm.trans e))]
   ·have a:(g==k)=false:=lO.mpr h;simp only[jo,a];exact c
theorem ur (f:Str) (v:W1):∀fs:List (Str×W1),f∈(rc f v fs).map (·.1)/\∀g,g∈fs.map (·.1)->g∈(rc f v fs).map (·.1)
 |[]=>⟨by simp[rc],λg h=>by simp at h⟩
 |(k,x)::r=>by
  obtain⟨b,c⟩:=ur f v r;rw[show rc f v ((k,x)::r)=(if k=f then(k,v)::r else(k,x)::rc f v r) from rfl];by_cases a:k=f
  ·rw[No a];subst a;exact⟨by simp,λg h=>by simpa using h⟩
  ·rw[Ps a];refine⟨?_,λg h=>?_⟩
   ·rw[m0];exact o0 _ b
   ·rw[m0]at h⊢;rcases rs.mp h with e|e
    ·exact rs.mpr (.inl e)
    ·exact o0 _ (c g e)
theorem z2 (f:Str) (v:W1):∀fs:List (Str×W1),(rc f v fs).length<=fs.length+1
 |[]=>by simp[rc]
 |(k,x)::r=>by
  have b:=z2 f v r;rw[show rc f v ((k,x)::r)=(if k=f then(k,v)::r else(k,x)::rc f v r) from rfl];by_cases a:k=f
  ·rw[No a,bt,bt];lia
  ·rw[Ps a,bt,bt];lia
theorem dg.some_of(r:dg (some v) o):∃u,o=some u/\RelV v u:=by(
cases o with
|none=>exact(show False from r).elim
|some u=>exact⟨u,O,r⟩)
theorem dg.none_of(r:dg none o):o=none:=by(
cases o with
|none=>rfl
|some u=>exact(show False from r).elim)
theorem Hd(r:RelV v u):DD u=true:=by(
cases v with
|ak=>cases(show u=Value.none from r);rfl
|bl b=>cases(show u=sF b from r);rfl
|int i=>obtain⟨t,e⟩:=(show ∃t,u=il i t from r);cases e;rfl
|str x=>obtain⟨t,e⟩:=(show ∃t,u=Value.str x t from r);cases e;rfl
|fy b=>obtain⟨t,e⟩:=(show ∃t,u=DZ b t from r);cases e;rfl
|pa b=>obtain⟨t,e⟩:=(show ∃t,u=D0 b t from r);cases e;rfl
|ref a=>cases(show u=em a from r);rfl
|ty n=>cases(show u=D1 n from r);rfl)
section
variable {P:fr}{w:kw}{H I:Hp}{h h':s2}{a C dx:WF}{fs k0:List (Str×W1)}
theorem uk (ag:aV P w H h) (e:H a=some (.ins C dx fs)):∃mA,jx h a dx C mA/\(∀f,dg (fs.lookup f) (mA f))/\wI mA (fs.map (·.1))/\fs.length<=1000/\H dx=some (.own a):=by
 obtain⟨d,z,ne,ob,mA,n,r,q⟩:=(show bA P w H h a (.ins C dx fs) from ag a _ e);exact⟨mA,⟨ob,n,ne⟩,r,q,z,d⟩
end
structure cE (K:wf) (C:WF):Prop where
 pg:nY K C D5=true
 hd:sl K C=true
 po:xa K C=true
 sa:fS K (.ref C) "__setattr__"=some (some (.builtin "object.__setattr__"))
theorem cE.get{K:wf}(c:cE K C) (f:Str):nY K C f=true:=c.pg
def ao (K:wf) (C:WF) (f:Str):Prop:=fS K (.ref C) f=some none
theorem ao.MU{K:wf}(n:ao K C f):xb K C f=some none:=by
 unfold xb;rw[show fS K (.ref C) f=some none from n];rfl
structure cf (K:wf) (C:WF) (m:Str) (f:WF):Prop where
 at_:fS K (.ref C) m=some (some (.ref f))
 fn:nZ K (.ref f)=true
 kp:cV K (.ref f)=true
section
variable {X:Cx}{WP:List (WF×Obj)}{ZB:St}{H:Hp}{s:Go}{a C dx:WF}{fs:List (Str×W1)}{f:Str}{v:W1}{A:bJ}{E:Tk->Go->Prop}
theorem zp(XV:Inv X WP ZB H s) (e:H a=some (.ins C dx fs)) (c:cE X.K C) (n:ao X.K C f) (l:fs.lookup f=some v)
  (h:∀u s',Inv X WP ZB H s'->RelV v u->Q u s'):wpAny (AT X.prog X.w) A (w2 (.ref a) f b) Q E s:=by
 obtain⟨mA,gt,r,_,_,_⟩:=uk XV.ag e;obtain⟨u,hu,d⟩:=dg.some_of (v:=v) (o:=mA f) (by rw[<- l];exact r f);exact G8 XV.dY gt (c.get f) c.hd n hu (Hd d) (h u _ (XV.tok _) d)
theorem zq(XV:Inv X WP ZB H s) (e:H a=some (.ins C dx fs)) (c:cE X.K C) (k:cf X.K C m g) (l:fs.lookup m=none)
  (h:Q (.ref g,[.ref a]) s):wpAny (AT X.prog X.w) A (sd (.ref a) m pl) Q E s:=by
 obtain⟨mA,gt,r,_,_,_⟩:=uk XV.ag e;have b:mA m=none:=dg.none_of (by rw[<- l];exact r m);exact G9 XV.dY gt (c.get m) k.at_ k.fn b h
theorem Bn(XV:Inv X WP ZB H s) (e:H a=some (.ins C dx fs)) (c:cE X.K C) (n:ao X.K C f) (t:fs.length<1000) (m:RelV y u)
  (h:∀s',Inv X WP ZB (Uf H a (.ins C dx (rc f y fs))) s'->Q () s'):wpAny (AT X.prog X.w) A (setAttr (.ref a) f u) Q E s:=by(
obtain⟨mA,gt,r,j,_,i⟩:=uk XV.ag e;have hz:(fs.map (·.1)).length<=Gc:=by rw[FM,h9];lia
refine Mr XV.dY gt c.sa c.po n.MU c.hd j hz λh' d p=>h _ ?_;have hd:∃o,h'.get? dx=some o:=let ⟨o,_,_,k,_⟩:=d.ns;⟨o,k⟩;refine XV.write (x:=a) (e:=dx) (by rw[e];exact True.intro) (.inr i) (λb q l z=>(p.2 b l).trans z) hd ?_;refine⟨by rw[UF gt.ne];exact i,?_,gt.ne,d.obj,_,d.ns,λg=>?_,λg hg=>?_⟩
·have:=z2 f y fs;lia
·show dg ((rc f y fs).lookup g) (if g=f then some u else mA g);rw[z9];by_cases q:g=f
 ·rw[No q,No q];exact m
 ·rw[Ps q,Ps q];exact r g
·by_cases q:g=f
 ·rw[q];exact(ur f y fs).1
 ·refine(ur f y fs).2 g (j g λz=>hg ?_);show(if g=f then some u else mA g)=none;rw[Ps q];exact z)
theorem Inv.made (XV:Inv X WP ZB H s):Inv X WP ZB (Uf (Uf H s.heap.objs.size (.own (s.heap.objs.size+1))) (s.heap.objs.size+1) (.ins C s.heap.objs.size []))
  {s with heap:=(s.heap.push ie).push (ja C s.heap.objs.size)}:=by(
have c:(s.heap.push ie).get? s.heap.objs.size=some ie:=bc s.heap rfl;have g:((s.heap.push ie).push (ja C s.heap.objs.size)).get? (s.heap.objs.size+1)=some (ja C s.heap.objs.size):=by
 have:=bc (s.heap.push ie) (o:=ja C s.heap.objs.size) rfl
 rwa [cU]at this
have h:(s.heap.push ie).Ns s.heap.objs.size (λ_=>none):=⟨ie,#[],_,c,O,(λe i=>absurd i (by simp)),λ_=>rfl⟩;have d:=XV.laid (a:=s.heap.objs.size) (o:=.own (s.heap.objs.size+1)) (h':=s.heap.push ie) (t':=s.toks) (λb u q=>ln _ q) (tz _) ⟨_,c⟩;refine d.laid (a:=s.heap.objs.size+1) (o:=.ins C s.heap.objs.size []) (t':=s.toks) (λb u q=>ln _ q) (ku (cU _ _)) ?_;have ne:s.heap.objs.size≠s.heap.objs.size+1:=cb (sr _);refine⟨by rw[UF ne,KE],f4 _,ne,g,λ_=>none,(Heap.Ns1.of_empty h).at λo q=>ln _ q,λ_=>True.intro,λy j=>absurd rfl j⟩)
theorem Fl(b:nS e f env (eval e env)=eval e env)
  (h:wpAny (AT prog w) A (eval e env) (λo c=>wpAny (AT prog w) A (w2 o f true) Q E c) E s):wpAny (AT prog w) A (eval (.Attribute e f pos) env) Q E s:=
 Attribute_any_ h (by rw[arm_eval_Attribute,b])
end
def ru (K:wf) (ta:TE) (f:Str):TE:=λZB H Q=>ta ZB H λx H1=>∃a C dx fs v,x=.ref a/\H1 a=some (.ins C dx fs)/\cE K C/\ao K C f/\fs.lookup f=some v/\Q v H1
def Bc (K:wf) (ta tv:TE) (f:Str):TS:=λD ZB H=>tv ZB H λy H1=>ta ZB H1 λx H2=>∃a C dx fs,x=.ref a/\H2 a=some (.ins C dx fs)/\cE K C/\ao K C f/\fs.length<1000/\
 D.nx ZB (Uf H2 a (.ins C dx (rc f y fs)))
def x_ (X:Cx) (op:wX) (a:W1->W1->Hp->VK->Prop):Prop:=
 ∀(WP:List (WF×Obj)) (s:Go) (ZB:St) (H:Hp) (x y:W1) (u v:Tk) (Q:VK),Inv X WP ZB H s->RelV x u->RelV y v->a x y H Q->wpAny (AT X.prog X.w) X.A (wU op u v) (EP X WP ZB Q) X.xe s
def LU (K:wf) (ta tv:TE) (d:W1->W1->Hp->VK->Prop) (f:Str):TS:=λD ZB H=>ta ZB H λx H1=>∃a C dx fs v,x=.ref a/\H1 a=some (.ins C dx fs)/\cE K C/\ao K C f/\fs.lookup f=some v/\
 tv ZB H1 λy H2=>d v y H2 λz b=>∃c k0,b a=some (.ins C c k0)/\k0.length<1000/\D.nx ZB (Uf b a (.ins C c (rc f z k0)))
section
variable {X:Cx}{o e d7:s5}{f:Str}{pos eN lM:Pos}{ta tv:TE}
theorem wS (j:PE X e ta) (i:nS e f X.env (eval e X.env)=eval e X.env):PE X (.Attribute e f pos) (ru X.K ta f):=by
 intro WP s ZB H Q XV h;refine Fl i (wP (j WP s ZB H _ XV h) λu t p=>Do p λx H1 b m r=>?_);obtain⟨a,C,dx,fs,v,ex,g,c,n,l,q⟩:=r;subst ex;obtain rfl:u=em a:=m;exact zp b g c n l λy w d k=>⟨v,H1,d,k,q⟩
theorem bq (j:PE X o ta) (hv:PE X d7 tv) (k:lS d7 (some (.Attribute o f eN)) pos.line X.env=pure false):PS X (.Assign [.Attribute o f eN] d7 pos) (Bc X.K ta tv f):=by
 intro WP s ZB H D XV h;refine plainObj_wpAny_Assign_Attribute (wP (hv WP s ZB H _ XV h) λu t w=>Do w λy H1 b r q=>wP (j WP t ZB H1 _ b q) λov E z=>Do z λx H2 d p A=>?_) k;obtain⟨a,C,dx,fs,ex,i,c,n,l,m⟩:=A;subst ex;obtain rfl:ov=em a:=p;exact Bn d i c n l r λJ g=>⟨ZB,_,g,m⟩
theorem K5(p:PE X o ta) (hv:PE X d7 tv) (r:x_ X op A):PS X (.AugAssign (.Attribute o f lM) op d7 pos) (LU X.K ta tv A f):=by
 intro WP s ZB H OP XV h;refine wpAny_AugAssign_AttributeAny (wP (p WP s ZB H _ XV h) λov OS Y=>Do Y λx H1 b J ON=>?_);obtain⟨a,C,dx,fs,v,ex,k,c,n,l,q⟩:=ON;subst ex;obtain rfl:ov=em a:=J;refine zp b k c n l λu Q d E=>wP (hv WP Q ZB H1 _ d q) λU T D=>Do D λy H2 g L t=>wP (r WP T ZB H2 v y u U _ g E L t) λOV OT OM=>Do OM λz OQ i N OO=>?_;obtain⟨OR,k0,m,l',w⟩:=OO;exact Bn i m c n l' N λOU j=>⟨ZB,_,j,w⟩
def Lg:W1->W1->Hp->VK->Prop:=λx y H Q=>∃i j,x=.int i/\y=.int j/\Q (.int (i+j)) H
theorem Hm:x_ X .Add Lg:=by
 rintro WP s ZB H x y u v Q XV a b ⟨i,j,rfl,rfl,q⟩;obtain⟨t,rfl⟩:=(show ∃t,u=il i t from a);obtain⟨t',rfl⟩:=(show ∃t',v=il j t' from b);exact Ec ⟨.int (i+j),H,XV.tok _,⟨_,O⟩,q⟩
end
structure bC (k:Nat) (A:bJ):Prop where
 hd:A.handled=none
 dp:A.depth+3*k+5<C9
 un:A.units+16*k+200<cT
theorem bC.mono {j k:Nat}{A:bJ}(r:bC k A) (h:j<=k:=by decide):bC j A:=⟨r.hd,by have:=r.dp;lia,by have:=r.un;lia⟩
theorem bC.deeper(r:bC (k+1) A) (env:Env):bC k (A.deeper env):=
 ⟨r.hd,by have:=r.dp;show A.depth+1+3*k+5<_;lia,by have:=r.un;show A.units+3+16*k+200<_;lia⟩
theorem IB{A:bJ}:(A.under (.builtin "type.__call__" ⟨.ref C::us,a⟩)).depth=A.depth+1:=by
 first|rfl|simp[xQ,Code.weight,Code.isCreation,Code.isGuard,Code.isCaller,Code.frames,Code.isFrame,guardIds]
theorem ID{A:bJ}:(A.under (.builtin "type.__call__" ⟨.ref C::us,a⟩)).units=A.units+1:=by
 first|rfl|simp[xQ,Code.cUnits,Code.frames,Code.isFrame]
theorem bC.make(r:bC (k+1) A) (C:WF) (us:List Tk) (a:List (Str×Tk)):bC k (A.under (.builtin "type.__call__" ⟨.ref C::us,a⟩)):=
 ⟨r.hd,by have:=r.dp;rw[IB];lia,by have:=r.un;rw[ID];lia⟩
theorem bC.depth(r:bC k A):A.depth<C9:=by have:=r.dp;lia
theorem bC.units(r:bC k A):A.units+64<cT:=by have:=r.un;lia
def j_:TA:=λ_ H Q=>Q [] H
def rr (ta:TE) (tr:TA):TA:=λZB H Q=>ta ZB H λx H1=>tr ZB H1 λxs H2=>Q (x::xs) H2
section
variable {X:Cx}{e:s5}{es:List s5}{te:TE}{t:TA}{pos:Pos}
theorem PP:PA X [] j_:=λ_ _ _ _ H Q XV h=>Et ⟨[],H,XV,.nil,h⟩
theorem UV (c:PE X e te) (d:PA X es t) (f:al (e::es) X.env=(false,eval e X.env)::al es X.env:=by rfl):PA X (e::es) (rr te t):=by
 intro pos WP s ZB H Q XV h;rw[f];show wpAny _ _ (spliced ((false,eval e X.env)::d9 pos (al es X.env))) _ _ s;refine xN (wP (c WP s ZB H _ XV h) λu l m=>Do m λx H1 a j g=>?_);exact wP (d pos WP l ZB H1 _ a g) λus o n=>Do n λxs H2 b k i=>⟨x::xs,H2,b,.cons j k,i⟩
def MQ (t:TA):TE:=λZB H Q=>t ZB H λxs H1=>xs.length<=Gc/\∀p,H1 p=none->Q (.ref p) (Uf H1 p (.tup xs))
def vN (t:TA):TE:=λZB H Q=>t ZB H λxs H1=>xs.length<=Gc/\∀p,H1 p=none->Q (.ref p) (Uf H1 p (.lst xs))
theorem bY {f} (h:PA X es t):PE X (.Tuple es f pos) (MQ t):=by
 intro WP s ZB H Q XV d;refine wpAny_Tuple_spliced (wP (h pos WP s ZB H _ XV d) λus a ⟨xs,H1,c,r,z,q⟩=>⟨by rw[<- r.length];exact z,?_⟩);have hf:H1 a.heap.objs.size=none:=c.ag.fresh (tz _);refine⟨.ref a.heap.objs.size,Uf H1 a.heap.objs.size (.tup xs),c.laid (t':=a.toks) (λb u e=>ln _ e) (tz _) ?_,O,q _ hf⟩;exact⟨z,us,r,⟨_,bc _ rfl,O,_,O⟩⟩
theorem db (h:PA X es t):PE X (.List es pos) (vN t):=by
 intro WP s ZB H Q XV d;refine wpAny_List_spliced (wP (h pos WP s ZB H _ XV d) λus a ⟨xs,H1,c,r,z,q⟩=>⟨by rw[<- r.length];exact z,?_⟩);have hf:H1 a.heap.objs.size=none:=c.ag.fresh (tz _);refine⟨.ref a.heap.objs.size,Uf H1 a.heap.objs.size (.lst xs),c.laid (t':=a.toks) (λb u e=>ln _ e) (tz _) ?_,O,q _ hf⟩;exact⟨z,us,0,r,bc _ rfl⟩
end
abbrev Sp:=List W1->Hp->VK->XK->Prop
abbrev kF:=List Env->Hp->Go->XK->Tk->Go->Prop
structure jr (P:fr) (w:kw) (K:wf) (mg:Str->Option Tk) (base:s2) (A:bJ) (outer:List Env) (s:Go) (H:Hp):Prop where
 frames:A.frames=some outer
 mod:Mod K mg base
 bs:∀b o,base.get? b=some o->s.heap.get? b=some o/\H b=none
 hG:base.objs.size<=s.heap.objs.size
 fC:s.heap.FunFrames base outer
 jL:∀b∈gg outer,H b=none
 ag:aV P w H s.heap
 bare:jg s.gens
def CE (outer:List Env) (P:fr) (w:kw) (H:Hp) (s:Go) (Q:VK) (u:Tk) (s':Go):Prop:=
 ∃v I,s'.os=s.os/\jg s'.gens/\Un (gg outer) [] H I s.heap s'.heap/\aV P w I s'.heap/\RelV v u/\Q v I
def CR (CX:kF) (outer:List Env) (P:fr) (w:kw) (H:Hp) (s:Go) (Q:VK) (E:XK) (r:Result) (s':Go):Prop:=
 match r with
 |.ok (.ret u)=>CE outer P w H s Q u s'
 |.ok _=>False
 |.error e=>CX outer H s E e s'
structure AC (P:fr) (w:kw) (K:wf) (mg:Str->Option Tk) (base:s2) (CX:kF) (k:Nat) (f:WF) (fd:lT) (ps:List Str) (sp:Sp):Prop where
 len:∀vs H Q E,sp vs H Q E->vs.length=ps.length
 run:∀(A:bJ) (outer:List Env) (s:Go) (H:Hp) (args:Args) (us:List Tk) (vs:List W1) (Q:VK) (E:XK),bC k A->jr P w K mg base A outer s H->nU s fd args (ps.zip us)->ww vs us->sp vs H Q E->
  codeAny (AT P w) A (.call (.ref f) args) (CR CX outer P w H s Q E) s
theorem jr.make{K:wf}(e:jr P w K mg base A outer s H) (C:WF) (us:List Tk) (a:List (Str×Tk)):
  jr P w K mg base (A.under (.builtin "type.__call__" ⟨.ref C::us,a⟩)) outer s H:=⟨by first|exact e.frames|(simpa [xQ,Code.envs,Code.isFrame,pushEnvs]using e.frames),e.mod,e.bs,e.hG,e.fC,e.jL,e.ag,e.bare⟩
section
variable {X:Cx}{WP:List (WF×Obj)}{ZB:St}{H:Hp}{s s':Go}
theorem Inv.y8 (XV:Inv X WP ZB H s):jr X.prog X.w X.K X.mg X.base X.A X.stack s H:=
 ⟨XV.ok.frames,XV.ok.mod,XV.bs,dz XV.ok.hG XV.sz,XV.stack,XV.Bx,XV.ag,XV.bare⟩
theorem Inv.after(XV:Inv X WP ZB H s) (h:CE X.stack X.prog X.w H s Q u s'):EP X WP ZB Q u s':=by
 obtain⟨v,I,os,bare,un,ag,r,q⟩:=h;obtain⟨a,g,d,t,c⟩:=s';obtain rfl:c=s.os:=os;exact⟨v,I,XV.call (h':=a) (g':=g) (d':=d) (t':=t) (ch:=[]) un ag bare (λb z=>absurd z (by simp)),r,q⟩
end
def MG (sp:Sp) (cg:List W1) (E:XK) (t:TA):TE:=λZB H Q=>t ZB H λvs H1=>sp (vs++cg) H1 Q E
def vO (C:WF) (m:Str) (sp:Sp) (cg:List W1) (E:XK) (ta:TE) (t:TA):TE:=λZB H Q=>ta ZB H λx H1=>∃a dx fs,x=.ref a/\H1 a=some (.ins C dx fs)/\fs.lookup m=none/\
 t ZB H1 λvs H2=>sp (x::(vs++cg)) H2 Q E
def BG (C:WF) (sp:Sp) (cg:List W1) (E:XK) (t:TA):TE:=λZB H Q=>t ZB H λvs H1=>∀x dx,H1 x=none->H1 dx=none->dx≠x->
 sp (.ref x::(vs++cg)) (Uf (Uf H1 dx (.own x)) x (.ins C dx [])) (λv H2=>v=.ak/\Q (.ref x) H2) E
def Binds (K:wf) (fd:lT) (ps:List Str) (ds:List Tk):Prop:=
 ∀(s:Go) (us:List Tk),K.In s.heap->(us++ds).length=ps.length->nU s fd ⟨us,[]⟩ (ps.zip (us++ds))
theorem Binds.all{K:wf}(h:∀us:List Tk,us.length=ps.length->wY fd ⟨us,[]⟩=pure (ps.zip us)):Binds K fd ps []:=λs us _ a=>by
 rw[fm]at a⊢;exact .of_eq (h us a)
def iA (CX:kF) (X:Cx) (E:XK):Prop:=∀(WP:List (WF×Obj)) (ZB:St) (H:Hp) (s:Go) (e:Tk) (s':Go),Inv X WP ZB H s->CX X.stack H s E e s'->X.xe e s'
section
variable {X:Cx}{CX:kF}{k:Nat}{f C:WF}{fd:lT}{ps:List Str}{sp:Sp}{cg:List W1}{ds:List Tk}{E:XK}{x m:Str}{p pos dA:Pos}{e o:s5}{es:List s5}{ta:TE}{t:TA}
theorem vb{ZB:St}(F:AC X.prog X.w X.K X.mg X.base CX k f fd ps sp) (g:bC k X.A) (c:Binds X.K fd ps ds) (hd:ww cg ds) (i:iA CX X E)
  (XV:Inv X WP ZB H s) (r:ww vs us) (h:sp (vs++cg) H Q E):wpAny (AT X.prog X.w) X.A (call (.ref f) us) (EP X WP ZB Q) X.xe s:=by(
have b:ww (vs++cg) (us++ds):=r.append hd;have d:(us++ds).length=ps.length:=by rw[<- b.length];exact F.len _ _ _ _ h
refine Dt (r8 (F.run X.A X.stack s H ⟨us,[]⟩ (us++ds) (vs++cg) Q E g XV.y8 (c s us XV.dY d) b h) λr s' a=>?_);cases r with
|error e=>exact i WP ZB H s e s' XV a
|ok fl=>
 cases fl with
 |ret u=>exact XV.after a
 |next=>exact ef a
 |brk=>exact ef a
 |cont=>exact ef a)
theorem ge (F:AC X.prog X.w X.K X.mg X.base CX k f fd ps sp) (l:bC k X.A) (hg:Gl X x) (hm:X.mg x=some (.ref f)) (i:cV X.K (.ref f)=true) (c:Binds X.K fd ps ds) (hd:ww cg ds) (n:iA CX X E)
  (b:PA X (e::es) t) (d:(x==("__debug__":Str))=false:=by decide) (g:al (e::es) X.env=(false,eval e X.env)::al es X.env:=by rfl) (j:(d9 pos (al es X.env)).any (·.1)=false:=by rfl):
  PE X (.Call (.Name x p) (e::es) [] pos) (MG sp cg E t):=by
 intro WP s ZB H Q XV h;refine nN (mU XV hg hm ?_ d);refine w_ (h₀:=X.base) XV.ok.mod.mS i (wP (b pos WP s ZB H _ XV h) λus y u=>Do u λvs H1 a r q=>⟨a.dY,?_⟩) g j;exact vb F l c hd n a r q
theorem aA {pl:Sem Bool}(n:PE X o ta) (c:cE X.K C) (hm:cf X.K C m f) (F:AC X.prog X.w X.K X.mg X.base CX k f fd ps sp) (z:bC k X.A) (j:Binds X.K fd ps ds) (hd:ww cg ds) (L:iA CX X E) (i:PA X (e::es) t)
  (D:al (e::es) X.env=(false,eval e X.env)::al es X.env:=by rfl) (y:(d9 pos (al es X.env)).any (·.1)=false:=by rfl)
  (J:eval (.Call (.Attribute o m dA) (e::es) [] pos) X.env=(do
   let ov <-eval o X.env
   sh dA.atName
   let (f,first) <-kl [ov] (sd ov m pl)
   callWith pos f first (d9 pos (al (e::es) X.env)) (sg pos (r_ [] X.env))):=by rfl):
  PE X (.Call (.Attribute o m dA) (e::es) [] pos) (vO C m sp cg E ta t):=by
 intro WP s ZB H Q XV h;refine DB (pl:=pl) (wP (n WP s ZB H _ XV h) λu U Y=>Do Y λx H1 b T ON=>?_) J;obtain⟨a,dx,fs,ex,g,l,q⟩:=ON;subst ex;obtain rfl:u=em a:=T;refine zq b g c hm l ?_;refine w_ (first:=[.ref a]) (h₀:=X.base) XV.ok.mod.mS hm.kp (wP (i pos WP U ZB H1 _ b q) λus OO OM=>Do OM λvs H2 d r N=>⟨d.dY,?_⟩) D y;exact vb (us:=.ref a::us) (vs:=.ref a::vs) F z j hd L d (.cons rfl r) N
theorem lp {pl:Sem Bool}(i:PE X o ta) (c:cE X.K C) (hm:cf X.K C m f) (F:AC X.prog X.w X.K X.mg X.base CX k f fd ps sp) (j:bC k X.A) (g:Binds X.K fd ps ds) (hd:ww cg ds) (r:iA CX X E)
  (n:eval (.Call (.Attribute o m dA) [] [] pos) X.env=(do
   let ov <-eval o X.env
   sh dA.atName
   let (f,first) <-kl [ov] (sd ov m pl)
   callWith pos f first (d9 pos (al [] X.env)) (sg pos (r_ [] X.env))):=by rfl):
  PE X (.Call (.Attribute o m dA) [] [] pos) (vO C m sp cg E ta j_):=by
 intro WP s ZB H Q XV h;refine DB (pl:=pl) (wP (i WP s ZB H _ XV h) λu J z=>Do z λx H1 b y D=>?_) n;obtain⟨a,dx,fs,ex,d,l,q⟩:=D;subst ex;obtain rfl:u=em a:=y;refine zq b d c hm l ?_;exact DC (first:=[.ref a]) b.dY hm.kp (vb (us:=[.ref a]) (vs:=[.ref a]) F j g hd r b (.cons rfl .nil) q)
structure Mk (K:wf) (C f:WF):Prop where
 makes:xc K C=true
 init:fS K (.ref C) "__init__"=some (some (.ref f))
 fn:nZ K (.ref f)=true
 kp:cV K (.ref C)=true
theorem A_{ZB:St}(TW:Mk X.K C f) (F:AC X.prog X.w X.K X.mg X.base CX k f fd ps sp) (n:bC (k+1) X.A) (j:Binds X.K fd ps ds) (hd:ww cg ds)
  (q:iA CX X E) (XV:Inv X WP ZB H s) (r:ww vs us)
  (h:∀x dx,H x=none->H dx=none->dx≠x->sp (.ref x::(vs++cg)) (Uf (Uf H dx (.own x)) x (.ins C dx [])) (λv H2=>v=.ak/\Q (.ref x) H2) E):
  wpAny (AT X.prog X.w) X.A (call (.ref C) us) (EP X WP ZB Q) X.xe s:=by(
have c:=h (s.heap.objs.size+1) s.heap.objs.size (XV.ag.fresh (ij _)) (XV.ag.fresh (tz _)) (cb (sr _));have b:=Inv.made (C:=C) XV;have d:ww (W1.ref (s.heap.objs.size+1)::(vs++cg)) (em (s.heap.objs.size+1)::(us++ds)):=.cons rfl (r.append hd);have l:(em (s.heap.objs.size+1)::us++ds).length=ps.length:=by
 have e:=d.length;rw[F.len _ _ _ _ c]at e;exact e.symm
refine Dt (IC (f:=f) XV.dY TW.makes TW.init (gu.mp TW.fn) (r8 (F.run _ X.stack _ _ ⟨em (s.heap.objs.size+1)::us,[]⟩ (em (s.heap.objs.size+1)::(us++ds)) _ _ E (n.make C us [])
 (b.y8.make C us []) (j _ (em (s.heap.objs.size+1)::us) b.dY l) d c) λr s' a=>?_))
cases r with
|error e=>exact q WP ZB _ _ e s' b a
|ok fl=>
 cases fl with
 |ret u=>
  obtain⟨v,I,g,z,i,y⟩:=b.after a;subst i;exact⟨z,⟨W1.ref (s.heap.objs.size+1),I,g,O,y⟩⟩
 |next=>exact ef a
 |brk=>exact ef a
 |cont=>exact ef a)
theorem hP (TW:Mk X.K C f) (F:AC X.prog X.w X.K X.mg X.base CX k f fd ps sp) (j:bC (k+1) X.A) (hg:Gl X x) (hm:X.mg x=some (.ref C)) (c:Binds X.K fd ps ds) (hd:ww cg ds) (l:iA CX X E)
  (b:PA X (e::es) t) (d:(x==("__debug__":Str))=false:=by decide) (g:al (e::es) X.env=(false,eval e X.env)::al es X.env:=by rfl) (i:(d9 pos (al es X.env)).any (·.1)=false:=by rfl):
  PE X (.Call (.Name x p) (e::es) [] pos) (BG C sp cg E t):=by
 intro WP s ZB H Q XV h;refine nN (mU XV hg hm ?_ d);refine w_ (h₀:=X.base) XV.ok.mod.mS TW.kp (wP (b pos WP s ZB H _ XV h) λus u n=>Do n λvs H1 a r q=>⟨a.dY,?_⟩) g i;exact A_ TW F j c hd l a r q
theorem KP (TW:Mk X.K C f) (F:AC X.prog X.w X.K X.mg X.base CX k f fd ps sp) (c:bC (k+1) X.A) (hg:Gl X x) (hm:X.mg x=some (.ref C)) (a:Binds X.K fd ps ds) (hd:ww cg ds) (d:iA CX X E)
  (b:(x==("__debug__":Str))=false:=by decide):PE X (.Call (.Name x p) [] [] pos) (BG C sp cg E j_):=by
 intro WP s ZB H Q XV h;refine nN (mU XV hg hm ?_ b);exact DC XV.dY TW.kp (A_ (us:=[]) TW F c a hd d XV .nil h)
end
structure pu (N P:List Str) (a:d_):Prop where
 kind:a.kind=.function
 co:a.isCoroutine=false
 gen:a.isGenerator=false
 nd:N.Nodup
 pre:N.take P.length=P
 par:∀x∈P,a.names.lookup x=some .local\/a.names.lookup x=some .cell
 Jd:∀y∈a.names,y.2≠.free
theorem yA{kindOf:Str->Option d8}:∀ {binds:List (Str×Tk)}{m:Str->Option Tk},(∀v,(x,v)∉binds)->i_ kindOf binds m x=m x
 |[],_,_=>rfl
 |(n,v)::r,m,h=>by
  unfold i_;rw[yA λw hw=>h w (o0 _ hw)];split
  ·have:x≠n:=by rintro rfl;exact h v kt
   simp[this]
  ·rfl
theorem yy{kindOf:Str->Option d8}:∀ {binds:List (Str×Tk)}{m:Str->Option Tk},(∀v,(x,v)∉binds)->i' kindOf binds m x=m x
 |[],_,_=>rfl
 |(n,v)::r,m,h=>by
  unfold i';rw[yy λw hw=>h w (o0 _ hw)];split
  ·rfl
  ·have:x≠n:=by rintro rfl;exact h v kt
   simp[this]
theorem yz{kindOf:Str->Option d8}:∀ {P:List Str}{vs:List Tk}{i:Nat}{m:Str->Option Tk},P.Nodup->P[i]?=some x->vs[i]?=some v->kindOf x=some .local->
  i_ kindOf (P.zip vs) m x=some v
 |[],_,_,_,_,h,_,_=>by simp at h
 |_::_,[],_,_,_,_,h,_=>by simp at h
 |p::P,w::vs,0,m,nd,h1,h2,a=>by
  simp at h1 h2;subst h1;subst h2;show i_ kindOf ((p,w)::P.zip vs) m p=_;unfold i_;rw[yA λv hv=>(iu.mp nd).1 (wu hv).1,No a];simp
 |p::P,w::vs,i+1,m,nd,h1,h2,a=>by
  show i_ kindOf ((p,w)::P.zip vs) m x=_;unfold i_;exact yz (i:=i) (iu.mp nd).2 (by simpa using h1) (by simpa using h2) a
theorem yx{kindOf:Str->Option d8}:∀ {P:List Str}{vs:List Tk}{i:Nat}{m:Str->Option Tk},P.Nodup->P[i]?=some x->vs[i]?=some v->kindOf x≠some .local->
  i' kindOf (P.zip vs) m x=some v
 |[],_,_,_,_,h,_,_=>by simp at h
 |_::_,[],_,_,_,_,h,_=>by simp at h
 |p::P,w::vs,0,m,nd,h1,h2,a=>by
  simp at h1 h2;subst h1;subst h2;show i' kindOf ((p,w)::P.zip vs) m p=_;unfold i';rw[yy λv hv=>(iu.mp nd).1 (wu hv).1,Ps a];simp
 |p::P,w::vs,i+1,m,nd,h1,h2,a=>by
  show i' kindOf ((p,w)::P.zip vs) m x=_;unfold i';exact yx (i:=i) (iu.mp nd).2 (by simpa using h1) (by simpa using h2) a
noncomputable def start (N:List Str) (vs:List W1):St:=vs.map some++f8 (N.length-vs.length) none
noncomputable def jH (CX:kF) (P:fr) (w:kw) (K:wf) (mg:Str->Option Tk) (base:s2) (N:List Str) (b:Str) (scope:d_) (f:WF) (a:Tk) (A:bJ) (outer:List Env) (s:Go) (H:Hp) (E:XK):Cx where
 prog:=P
 w:=w
 K:=K
 mg:=mg
 base:=base
 A:=A.deeper (hl b scope s.heap.objs.size f a)
 N:=N
 dt:=s
 js:=H
 env:=hl b scope s.heap.objs.size f a
 outer:=outer
 stack:=hl b scope s.heap.objs.size f a::outer
 ex:=[]
 calm:=true
 fn:=λ_=>true
 pn:=[]
 xe:=λe s'=>wpAny (AT P w) (A.deeper (hl b scope s.heap.objs.size f a)) (leaving (hl b scope s.heap.objs.size f a) e) (λ_ c=>CX outer H s E e c) (λd c=>CX outer H s E d c) s'
theorem yO{a:d_}(h:a.names.lookup x=some .cell):∃c,(cJ n a.names []).lookup x=some c:=by
 have q:=DA a.names n [] (.inl h);exact DQ.mp q
theorem Ht{K:wf}
  (S:pu N ps scope) (hd:A.handled=none) (d:jr P w K mg base A outer s H) (T:vs.length=ps.length) (r:ww vs us)
  (x:InCallC s s.heap.objs.size (i_ (hl o scope s.heap.objs.size f l).kindOf (ps.zip us) λ_=>none) (cJ (s.heap.objs.size+1) scope.names []) (i' (hl o scope s.heap.objs.size f l).kindOf (ps.zip us) λ_=>none) L):
  Inv (jH CX P w K mg base N o scope f l A outer s H E) [] (start N vs) H L:=by(
have U:ps.length<=N.length:=by have:=cM cC S.pre;rw[aP]at this;lia
obtain⟨h1,tk,rfl,t⟩:=x.done;have m:∀b:WF,b∉(jH CX P w K mg base N o scope f l A outer s H E).ex:=λb z=>absurd (show b∈([]:List WF) from z) (by simp);refine⟨⟨d.mod,S.kind,O,O,tz _,λy z c h1 h2=>?_,λy g=>?_,λy c _ h=>?_,λ_=>hd,Around.frames_deeper d.frames,.inr ⟨O,O⟩,λb z=>absurd z (m b),d.bs,d.hG,λb _ _=>m b,λb z=>absurd z (m b),d.fC,d.jL⟩,
 rfl,d.bare,Un.kept t,⟨_,x.toInCall.ns,λi y v h1 h2 Q=>?_⟩,λy c h=>⟨_,x.cell y c h⟩,d.ag.fresh (tz _),λy c h=>?_,λp j=>absurd (show p∈([]:List (WF×Obj)) from j) (by simp),d.ag.kept t,?_⟩
·exact name_of_addr x.apart (eA h1) (eA h2)
·have g:scope.names.lookup y=some .cell\/scope.names.lookup y=some .free:=g;rcases g with g|g
 ·exact yO g
 ·exact absurd rfl (S.Jd _ (eA g))
·exact ed (x.above y c (eA h))
·have hi:i<vs.length:=by
  unfold start at h2;by_cases hi:i<vs.length
  ·exact hi
  ·rw[ou (by simpa using hi)]at h2;rw[ox]at h2;split at h2<;>cases h2
 have D:vs[i]?=some v:=by
  unfold start at h2;rw[ow (by simpa using hi),pr]at h2;cases e:vs[i]? with
  |none=>rw[e]at h2;cases h2
  |some a=>rw[e]at h2;cases h2;rfl
 obtain⟨u,hu,J⟩:=r.get D;have j:ps[i]?=some y:=by
  rw[<- S.pre,Ci (by lia)];exact h1
 have C:ps.Nodup:=by rw[<- S.pre];exact S.nd.sublist (List.take_sublist _ _)
 refine⟨u,J,?_⟩;rcases S.par y (pi j)with k|k
 ·exact .inl ⟨k,yz C j hu k⟩
 ·obtain⟨c,e⟩:=yO (n:=s.heap.objs.size+1) k;refine .inr ⟨.inl k,c,e,?_⟩;have q:=x.cell y c e;rw[yx C j hu (by show scope.names.lookup y≠_;rw[k];decide)]at q;exact q
·exact d.ag.fresh (ed (x.above y c (eA h)))
·unfold start;show _=N.length;rw[ls,FM,List.length_replicate];lia)
theorem GV{K:wf}{kV:Tk}(lk:K.lookup f=some ⟨OT,OU,.func (fT name d params body scope C kV D OS z a ct),OV⟩) (U:lY K a d=true) (S:pu N ps scope)
  (len:∀vs H Q E,sp vs H Q E->vs.length=ps.length)
  (T:∀(A:bJ) (outer:List Env) (s:Go) (H:Hp) (vs:List W1) (Q:VK) (E:XK),bC k (A.deeper (hl d scope s.heap.objs.size f a))->sp vs H Q E->
   ∃t,eF (jH CX P w K mg base N d scope f a A outer s H E) body t/\t {nx:=λ_ I=>Q .ak I,rt:=Q} (start N vs) H):
  AC P w K mg base CX (k+1) f (fT name d params body scope C kV D OS z a ct) ps sp:=by(
refine⟨len,λA outer s H args us vs Q E i g L r m=>?_⟩;have ON:=len _ _ _ _ m;have l:K.In s.heap:=g.mod.mS.keeps λb o e=>(g.bs b o e).1;have OR:s.heap.NoLimit:=g.mod.nolimit.keeps λb o e=>(g.bs b o e).1;have OM:∀y∈ps.zip us,scope.names.lookup y.1=some .local\/(scope.names.lookup y.1=some .cell/\((cJ (s.heap.objs.size+1) scope.names []).lookup y.1).isSome=true):=λ⟨n,v⟩ OQ=>by
 rcases S.par n (wu OQ).1 with q|q
 ·exact .inl q
 ·exact .inr ⟨q,DA _ _ _ (.inl q)⟩
refine codeAny_call_function i.depth (l _ _ lk) rfl S.co S.gen rfl (NH l U) (L _ _ _ _ ?_);refine wpAny_newFunctionEnv_cells S.kind OM λenv Y p x=>?_;subst Y;refine⟨OR.keeps x.toInCall.keep,codeAny_func ?_⟩;obtain⟨t,OP,OO⟩:=T A outer s H vs Q E (i.deeper _) m;have XV:Inv (jH CX P w K mg base N d scope f a A outer s H E) [] (start N vs) H p:=Ht S i.hd g ON r x;refine eT (OP [] p (start N vs) H _ XV OO) (λfl s' c=>?_) λe s' c=>c;have fin:∀ {h:St}{I:Hp}{v:W1}{u:Tk},Inv (jH CX P w K mg base N d scope f a A outer s H E) [] h I s'->RelV v u->Q v I->CE outer P w H s Q u s':=
 λ{h I v u} J j q=>⟨v,I,J.os,J.bare,J.base,J.ag,j,q⟩
cases fl with
|ret u=>
 obtain⟨v,h,I,J,j,q⟩:=c;exact fin J j q
|next=>
 obtain⟨h,I,J,q⟩:=c;exact fin (v:=W1.ak) (u:=Value.none) J rfl q
|brk=>
 obtain⟨_,_,_,q⟩:=c;exact ef q
|cont=>
 obtain⟨_,_,_,q⟩:=c;exact ef q)
section
variable {X:Cx}{x:Str}{p pos:Pos}{e:s5}{es:List s5}{t:TA}{id T:String}{r:List W1->Hp->VK->Prop}
def BE (r:List W1->Hp->VK->Prop) (t:TA):TE:=λZB H Q=>t ZB H λvs H1=>r vs H1 Q
theorem a0 (c:hs X (.builtin id) r) (hg:Gl X x) (hm:X.mg x=none) (hv:lP x=some (.builtin id)) (b:PA X (e::es) t) (g:x≠ "__name__":=by decide) (d:(x==("__debug__":Str))=false:=by decide)
  (f:al (e::es) X.env=(false,eval e X.env)::al es X.env:=by rfl) (i:(d9 pos (al es X.env)).any (·.1)=false:=by rfl):PE X (.Call (.Name x p) (e::es) [] pos) (BE r t):=by
 intro WP s ZB H Q XV h;refine nN (k5 XV hg hm hv ?_ g d);exact Oe (wP (b pos WP s ZB H _ XV h) λus l m=>Do m λvs H1 a k j=>c WP l ZB H1 vs us Q a k j) f i
theorem p1 (c:hs X (.type T) r) (hg:Gl X x) (hm:X.mg x=none) (hv:lP x=some (.type T)) (b:PA X (e::es) t) (g:x≠ "__name__":=by decide) (d:(x==("__debug__":Str))=false:=by decide)
  (f:al (e::es) X.env=(false,eval e X.env)::al es X.env:=by rfl) (i:(d9 pos (al es X.env)).any (·.1)=false:=by rfl):PE X (.Call (.Name x p) (e::es) [] pos) (BE r t):=by
 intro WP s ZB H Q XV h;refine nN (k5 XV hg hm hv ?_ g d);exact oh (wP (b pos WP s ZB H _ XV h) λus l m=>Do m λvs H1 a k j=>c WP l ZB H1 vs us Q a k j) f i
end
end L2
namespace HT
open PySem PyProof.Rows
def lexLt:List Int->List Int->Bool
 |[],[]=>false
 |[],_::_=>true
 |_::_,[]=>false
 |x::xs,y::ys=>if x=y then lexLt xs ys else decide (x<y)
theorem k6 (x y:Int) (xs ys:List Int):lexLt (x::xs) (y::ys)=if x=y then lexLt xs ys else decide (x<y):=rfl
theorem z4:lexLt [] []=false:=rfl
theorem Iv (y:Int) (ys:List Int):lexLt [] (y::ys)=true:=rfl
theorem Iu (x:Int) (xs:List Int):lexLt (x::xs) []=false:=rfl
theorem Gb (A:bJ) (s:Go) (a:Int) (t:Tok) (c:Int) (u:Tok):∃e,SeqAt.EqAt A s (.int a t) (.int c u) e/\(e=true↔a=c):=
 ⟨(a==c),SeqAt.EqAt.int_int a t c u,by simp⟩
theorem Ls (A:bJ) (s:Go) (a:Int) (t:Tok) (c:Int) (u:Tok) (prog:fr) (w:kw) (E:Tk->Go->Prop) (Q:Tk->Go->Prop) (h:Q (.bool (decide (a<c))) s):
  wpAny (AT prog w) A (wJ .Lt (.int a t) (.int c u)) Q E s:=
 (Ed h:wpAny (AT prog w) A (dR .Lt (.int a t) (.int c u)) Q E s)
section
open PySem.SeqAt
open PySem.AutoSeq1 (wpAny_loadPart')
open PySem.MeetsSeq PySem.MeetsSeq2 PySem.MeetsSeq3
theorem MY (l b:WF) (i j:Array Tk) (n n2:Nat) (J L:Option WF) (OR OS:Array (Option Tk)) (ns ms:List Int) (hi:cD i.toList ns) (H:cD j.toList ms):
  Meets (h_.«tuple.__lt__» ⟨[.ref l,.ref b],[]⟩)
   (λ_ R s=>s.heap.get? l=some {cls:=.type "tuple",dict:=J,data:=.seq i n,slots:=OR}/\s.heap.get? b=some {cls:=.type "tuple",dict:=L,data:=.seq j n2,slots:=OS}/\
    R (.ok (.ret (.bool (lexLt ns ms)))) s):=
 .of_wp λprog w A R s h=>by
  obtain⟨p,g,d,tk,os⟩:=s;obtain⟨T,N,h⟩:=h;have OV:=AutoSeq1.sub_tuple_tuple;have OW:i.size=ns.length:=by rw[<- hi.length];simp
  have OX:j.size=ms.length:=by rw[<- H.length];simp
  wp_walk using wpAny_loadPart' T,wpAny_loadPart' N,wpAny_forIn_list _ (λd4 b s'=>b.1=none/\s'=⟨p,g,d,tk,os⟩/\∃(vs z:List Tk) (m k:List Int),d4=vs.zip z/\
   cD vs m/\cD z k/\m.length+j.size=k.length+i.size/\R (.ok (.ret (.bool (lexLt m k)))) ⟨p,g,d,tk,os⟩) _
  case turn=>
   rintro⟨y,x⟩ d4 b s' ⟨C,rfl,vs,z,m,k,hz,D,r,o,f⟩;cases D with
   |nil=>rw[List.zip_nil_left]at hz;cases hz
   |cons a t OM=>
    cases r with
    |nil=>rw[List.zip_nil_right]at hz;cases hz
    |cons c u ON=>
     rw[oE]at hz;injection hz with OQ U;injection OQ with OP OO;subst OP OO;rw[k6]at f;simp only[bt]at o;obtain⟨e,Q,E⟩:=Gb A.in1 ⟨p,g,d,tk,os⟩ a t c u;refine IR (Q prog w _ _ ?_);cases e with
     |true=>
      rw[No (E.mp rfl)]at f
      wp_walk
      exact⟨O,O,_,_,_,_,U,OM,ON,by lia,f⟩
     |false=>
      rw[Ps (λq=>absurd (E.mpr q) cc)]at f;have Y:=Ls A.in1 ⟨p,g,d,tk,os⟩ a t c u prog w
      wp_walk using Y
      exact⟨_,O,by simpa using f⟩
  case fin=>
   rintro⟨OT,OU⟩ s' ⟨C,rfl,vs,z,m,k,hz,D,r,o,f⟩;simp only at C;subst C;have hv:lexLt m k=decide (i.size<j.size):=by
    cases D with
    |nil=>
     cases r with
     |nil=>
      simp only[kC]at o;rw[z4];exact(sn (by lia)).symm
     |cons c u hw=>
      simp only[kC,bt]at o;rw[Iv];exact(sK (by lia)).symm
    |cons a t hv=>
     cases r with
     |nil=>
      simp only[kC,bt]at o;rw[Iu];exact(sn (by lia)).symm
     |cons c u hw=>
      rw[oE]at hz;cases hz
   rw[hv]at f
   wp_walk
   exact⟨_,O,by simpa [Builtin.Tuple.tupleCompareSizes]using f⟩
  case h=>
   exact⟨O,O,i.toList,j.toList,ns,ms,O,hi,H,by lia,h⟩
end
section
variable {prog:fr}{w:kw}{A:bJ}{E:Tk->Go->Prop}{s:Go}
theorem z_(p:ji s.heap l g) (m:ji s.heap b i) (hi:cD g.toList ns) (o:cD i.toList ms)
  (hu:A.units<cT) (h:Q (.bool (lexLt ns ms)) s):wpAny (AT prog w) A (dR .Lt (.ref l) (.ref b)) Q E s:=by(
obtain⟨⟨cls,j,data,q⟩,e,a,n,hd⟩:=id p;obtain⟨⟨t,k,data2,r⟩,f,c,n2,d⟩:=id m;simp only at a hd c d;subst a hd c d;exact richCompare_meets_room (op:=.Lt) ⟨_,e,O⟩ ⟨_,f,O⟩ N_ N9 (N8 _ _) (MY l b g i n n2 j k q r ns ms hi o)
 ⟨e,f,show sF (lexLt ns ms)≠Value.notImplemented/\Q (.bool (lexLt ns ms)) s from⟨(λx=>nomatch x),h⟩⟩ hu)
noncomputable def dM (n d:Nat):Option Int->Nat
 |none=>d
 |some v=>if v<0 then(v+(n:Int)).toNat else min v.toNat n
theorem Be (n d:Nat):dM n d none=d:=rfl
theorem qD (n d k:Nat):dM n d (some (k:Int))=min k n:=by
 show(if(k:Int)<0 then((k:Int)+(n:Int)).toNat else min (k:Int).toNat n)=min k n;rw[Ps (by lia),ee]
end
end HT
namespace L2
open PySem PySem.Spec PyProof.Rows
abbrev TO:=St->Hp->(Option Int->Hp->Prop)->Prop
def PO (X:Cx) (e:Option s5) (t:TO):Prop:=
 ∀(WP:List (WF×Obj)) (s:Go) (ZB:St) (H:Hp) (Q:Option Int->Hp->Prop),Inv X WP ZB H s->t ZB H Q->
  wpAny (AT X.prog X.w) X.A (evalPart e X.env) (λu s'=>∃o I,Inv X WP ZB I s'/\w4 u o/\Q o I) X.xe s
def rx:TO:=λ_ H Q=>Q none H
def ry (t:TE):TO:=λZB H Q=>t ZB H λx H1=>∃i,x=.int i/\Q (some i) H1
theorem intsAre_of:∀ {us:List Tk},ww (ns.map W1.int) us->cD us ns:=by(
induction ns with
|nil=>intro us r;rw[hr]at r;cases r;exact .nil
|cons n ns a=>
 intro us r;rw[m0]at r;cases r with
 |cons b c=>
  obtain⟨t,e⟩:=b;subst e;exact .cons n t (a c))
section
variable {X:Cx}{e:s5}{te:TE}{lo hi:Option s5}{tl th:TO}{pos p2:Pos}
theorem fI:PO X none rx:=by
 intro WP s ZB H Q XV h;rw[Dh];exact t3 ⟨none,H,XV,.none,h⟩
theorem d2 (h:PE X e te):PO X (some e) (ry te):=by
 intro WP s ZB H Q XV hw;rw[evalPart_some];refine wP (h WP s ZB H _ XV hw) λu f d=>Do d λx H1 a c b=>?_;obtain⟨i,rfl,q⟩:=b;obtain⟨t,rfl⟩:=c;exact⟨some i,H1,a,.int i t,q⟩
def yc (X:Cx) (r:W1->Option Int->Option Int->Hp->VK->Prop):Prop:=
 ∀(WP:List (WF×Obj)) (s:Go) (ZB:St) (H:Hp) (x:W1) (v b c:Tk) (lo hi:Option Int) (a:WF) (Q:VK),Inv X WP ZB H s->RelV x v->s.heap.IsSliceOf a b c .none->w4 b lo->w4 c hi->r x lo hi H Q->
  ∃T id,Du (.type T) "__getitem__"=pure (some (.builtin id))/\s.TypeIs v T/\wpAny (AT X.prog X.w) X.A (lU v (.ref a)) (EP X WP ZB Q) X.xe s
def BL (r:W1->Option Int->Option Int->Hp->VK->Prop) (te:TE) (tl th:TO):TE:=λZB H Q=>te ZB H λx H1=>tl ZB H1 λl H2=>th ZB H2 λu a=>r x l u a Q
theorem nj(o:yc X r) (m:PE X e te) (n:PO X lo tl) (hu:PO X hi th):PE X (.Subscript e (.Slice lo hi none p2) pos) (BL r te tl th):=by
 intro WP s ZB H Q XV h;refine sM (wP (m WP s ZB H _ XV h) λv E L=>Do L λx H1 g D y=>?_);refine Dp (wP (n WP E ZB H1 _ g y) λc J N=>Do N λl H2 i pl z=>wP (hu WP J ZB H2 _ i z) λd a U=>Do U λu f j t C=>?_);rw[Dh];refine t3 ?_;have k:Inv X WP ZB f {a with heap:=a.heap.push {cls:=.type "slice",data:=.fields #[c,d,.none]}}:=j.kept (t':=a.toks) λb ob q=>ln _ q;obtain⟨T,id,hT,p,hg⟩:=o WP {a with heap:=a.heap.push {cls:=.type "slice",data:=.fields #[c,d,.none]}} ZB f x v c d l u a.heap.objs.size Q k D (Heap.IsSliceOf.new ..) pl t C;show wpAny (AT X.prog X.w) X.A (sJ e (.Slice lo hi none p2) v (.ref a.heap.objs.size)) (EP X WP ZB Q) X.xe {a with heap:=a.heap.push {cls:=.type "slice",data:=.fields #[c,d,.none]}};exact tail_any (ops:=[.ref a.heap.objs.size,v]) p hT hg (by with_unfolding_all rfl)
def eI (xs:List W1) (lo hi:Option Int):List W1:=(xs.drop (HT.dM xs.length 0 lo)).take (HT.dM xs.length xs.length hi-HT.dM xs.length 0 lo)
theorem FT (xs:List W1) (lo hi:Option Int):(eI xs lo hi).length<=xs.length:=by
 unfold eI;rw[aP,jm];lia
end
noncomputable def e7 (n:Nat) (i:Int):Option Nat:=if 0<=i then(if i<n then some i.toNat else none)else if -(n:Int)<=i then some (i+n).toNat else none
def dW {a:Type}(xs:List a) (i:Int):Option a:=(e7 xs.length i).bind λj=>xs[j]?
theorem zH(h:e7 n i=some j):seqIndex? i n=some j/\j<n/\ -(n:Int)<=i/\i<n:=by(
unfold e7 at h;by_cases h0:0<=i
·rw[No h0]at h;by_cases h1:i<n
 ·rw[No h1]at h;have e:i.toNat=j:=b3 h;exact⟨by rw[wK h0 h1,e],by lia,by lia,h1⟩
 ·rw[Ps h1]at h;cases h
·rw[Ps h0]at h;by_cases h1: -(n:Int)<=i
 ·rw[No h1]at h;have e:(i+n).toNat=j:=b3 h;exact⟨by rw[seqIndex_neg (by lia) h1,e],by lia,h1,by lia⟩
 ·rw[Ps h1]at h;cases h)
theorem yn(h:dW xs i=some v):∃j,seqIndex? i xs.length=some j/\xs[j]?=some v/\j<xs.length/\ -(xs.length:Int)<=i/\i<xs.length:=by(
unfold dW at h;cases e:e7 xs.length i with
|none=>rw[e]at h;cases h
|some j=>
 rw[e]at h;obtain⟨h1,h2,a,b⟩:=zH e;exact⟨j,h1,h,h2,a,b⟩)
theorem lv{j:Nat}(h:xs[j]?=some v):dW xs (j:Int)=some v:=by(
have a:j<xs.length:=(aD.mp h).1;have e:e7 xs.length (j:Int)=some j:=by
 unfold e7;rw[No (by lia),No (by lia)];simp
unfold dW;rw[e];exact h)
theorem oU(xs:List b) (v:b):dW (xs++[v]) (-1)=some v:=by(
have a:(xs++[v]).length=xs.length+1:=by simp
have e:e7 (xs++[v]).length (-1)=some xs.length:=by
 unfold e7;rw[a,Ps (by decide),No (by lia)]
 congr 1
 lia
unfold dW;rw[e];show(xs++[v])[xs.length]?=some v;simp)
def EH (b:s5):Prop:=∀o i,r' b false o i=w3 [o,i] (lU o i)
def s7 (X:Cx) (r:R2):Prop:=
 ∀(d7 a:s5) (WP:List (WF×Obj)) (s:Go) (ZB:St) (H:Hp) (x y:W1) (v u:Tk) (Q:VK),Inv X WP ZB H s->RelV x v->RelV y u->r x y H Q->
  r' a false v u=w3 [v,u] (lU v u)->wpAny (AT X.prog X.w) X.A (sJ d7 a v u) (EP X WP ZB Q) X.xe s
def s8 (X:Cx) (id:String) (r:W1->List W1->Hp->VK->Prop):Prop:=
 ∀(WP:List (WF×Obj)) (s:Go) (ZB:St) (H:Hp) (x:W1) (xs:List W1) (v:Tk) (us:List Tk) (Q:VK),Inv X WP ZB H s->RelV x v->ww xs us->r x xs H Q->
  wpAny (AT X.prog X.w) X.A (call (.builtin id) (v::us)) (EP X WP ZB Q) X.xe s
section
variable {X:Cx}{a b:s5}{ta tb:TE}{pos:Pos}
theorem xz {r:R2}(f:s7 X r) (d:PE X a ta) (e:PE X b tb) (g:EH b:=by exact λ_ _=>rfl):PE X (.Subscript a b pos) (h4 r ta tb):=by
 intro WP s ZB H Q XV h;exact sM (tH d e XV h λv u k x y H2 c i j q=>f a b WP k ZB H2 x y v u Q c i j q (g _ _))
def AL (K:wf):R2:=λx y H Q=>∃p xs i v,x=.ref p/\y=.int i/\TD K H p xs/\dW xs i=some v/\Q v H
def AM (K:wf):R2:=λx y H Q=>∃p xs i v,x=.ref p/\y=.int i/\pm K H p xs/\dW xs i=some v/\Q v H
theorem wE:s7 X (AL X.K):=by(
intro d7 E WP s ZB H x y v u Q XV o A h e;obtain⟨p,xs,i,z,rfl,rfl,m,k,q⟩:=h;cases o;obtain⟨t,rfl⟩:=A;obtain⟨Op,r,pl,hz⟩:=XV.list m;obtain⟨j,h1,h2,C,f,g⟩:=yn k;obtain⟨w,d,n⟩:=r.get h2;have l:=r.length;have D:=pz;have fin:EP X WP ZB Q w s:=⟨z,H,XV,n,q⟩;by_cases h0:0<=i
·have c:i.toNat=j:=by
  rw[wK h0 g]at h1;exact b3 h1
 exact item_listR pl.isList h0 (by lia) (by rw[c];simpa using d) fin e
·have c:(i+(Op.toArray.size:Int)).toNat=j:=by
  rw[seqIndex_neg (by lia) f]at h1;rw[aU,<-l];exact b3 h1
 exact Eb (x:=w) pl.isList.typeIs wD.lookup
  (wpAny_getItem_list_neg (Q:=λr s'=>r=w/\EP X WP ZB Q r s') pl.isList (by lia) (by rw[aU]<;>lia) (by lia) (by rw[c];simpa using d) ⟨O,fin⟩) e)
theorem gN:s7 X (AM X.K):=by(
intro d7 D WP s ZB H x y v u Q XV l m h g;obtain⟨p,xs,i,z,rfl,rfl,f,d,q⟩:=h;cases l;obtain⟨t,rfl⟩:=m;obtain⟨Op,r,pl,hz⟩:=XV.tuple f;obtain⟨j,h1,h2,n,o,A⟩:=yn d;obtain⟨w,c,k⟩:=r.get h2;have e:=r.length;have C:=pz;have fin:EP X WP ZB Q w s:=⟨z,H,XV,k,q⟩;exact Eb (x:=w) pl.typeIs slot_tuple_getitem.lookup
 (getItem_tuple (j:=j) (Q:=λr s'=>r=w/\EP X WP ZB Q r s') pl (by lia) (by lia) (by rw[aU,<-e];exact h1) (by simpa using c) ⟨O,fin⟩) g)
theorem IE (Op:List Tk) (n j:Nat) (u:Tk):ho (·.setIfInBounds j u) {cls:=.type "list",data:=.seq Op.toArray n}= {cls:=.type "list",data:=.seq (Op.set j u).toArray n}:=by
 simp[ho]
theorem Inv.lst{ZB:St}(XV:Inv X WP ZB H s) (h:H p=some (.lst xs)):
  ∃(Op:List Tk) (n:Nat),ww xs Op/\s.heap.get? p=some {cls:=.type "list",data:=.seq Op.toArray n}/\xs.length<=Gc:=by
 obtain⟨z,Op,n,r,e⟩:=XV.ag p _ h;exact⟨Op,n,r,e,z⟩
theorem Inv.IA{ZB:St}{Op:List Tk}(XV:Inv X WP ZB H s) (h:H p=some (.lst xs))
  (g:s.heap.get? p=some {cls:=.type "list",data:=.seq Op.toArray n}) (hf:f {cls:=.type "list",data:=.seq Op.toArray n}= {cls:=.type "list",data:=.seq its'.toArray c}) (r:ww ys its') (hz:ys.length<=Gc) (t:Nat):
  Inv X WP ZB (Uf H p (.lst ys)) {s with heap:=s.heap.update p f,toks:=t}:=by(
have e:(s.heap.update p f).get? p=some {cls:=.type "list",data:=.seq its'.toArray c}:=by
 rw[kn f g (by rw[hf]<;>rfl),hf]
refine XV.write (x:=p) (e:=p) (by rw[h];trivial) (.inl rfl) (λb u d q=>(ic _ _ (Ne.symm d)).trans q) ⟨_,e⟩ ?_;exact⟨hz,its',c,r,e⟩)
def uZ:W1->W1->W1->Hp->(Hp->Prop)->Prop:=λo i v H Q=>∃p xs k j,o=.ref p/\i=.int k/\H p=some (.lst xs)/\e7 xs.length k=some j/\Q (Uf H p (.lst (xs.set j v)))
theorem lF:yb X uZ:=by(
intro WP s ZB H o i v ov C u Q XV y x z h;obtain⟨p,xs,k,j,rfl,rfl,m,w,q⟩:=h;cases y;obtain⟨t,rfl⟩:=x;obtain⟨Op,n,r,e,hz⟩:=XV.lst m;obtain⟨h1,h2,g,l⟩:=zH w;have d:=r.length;have A:=pz;have f:Inv X WP ZB (Uf H p (.lst (xs.set j v))) {s with heap:=s.heap.update p (ho (·.setIfInBounds j u))}:=
 XV.IA m e (IE Op n j u) (r.set z j) (by rw[CF];exact hz) s.toks
by_cases h0:0<=k
·have c:k.toNat=j:=by
  rw[wK h0 l]at h1;exact b3 h1
 exact NY e h0 (by lia) (by rw[aU,<-d];exact l) (by rw[c];exact⟨_,f,q⟩)
·have c:(k+(Op.toArray.size:Int)).toNat=j:=by
  rw[seqIndex_neg (by lia) g]at h1;rw[aU,<-d];exact b3 h1
 exact NI e (by lia) (by rw[aU,<-d];exact g) (by lia) (by rw[c];exact⟨_,f,q⟩))
theorem Mv (lo hi:Option Int) (n:Nat):(fR lo hi none n).1=((HT.dM n 0 lo:Nat):Int)/\(fR lo hi none n).2.1=((HT.dM n n hi:Nat):Int)/\(fR lo hi none n).2.2=1:=by(
refine⟨?_,?_,O⟩
·cases lo with
 |none=>simp[fR,HT.dM]
 |some i=>
  simp only[fR,HT.dM,DV,show(1:Int)>0 by decide,a9];by_cases h:i<0
  ·simp only[h,a9]<;>lia
  ·simp only[h,aK]<;>lia
·cases hi with
 |none=>simp[fR,HT.dM]
 |some i=>
  simp only[fR,HT.dM,DV,show(1:Int)>0 by decide,a9];by_cases h:i<0
  ·simp only[h,a9]<;>lia
  ·simp only[h,aK]<;>lia)
theorem Mu (Op:List Tk) (lo hi:Option Int):se Op.toArray lo hi none=((Op.drop (HT.dM Op.length 0 lo)).take (HT.dM Op.length Op.length hi-HT.dM Op.length 0 lo)).toArray:=by
 obtain⟨h1,h2,c⟩:=Mv lo hi Op.toArray.size;unfold se;rw[h1,h2,c];simp only[sliceRange_one,pick_run,aU]<;>rfl
def AO (K:wf):W1->Option Int->Option Int->Hp->VK->Prop:=λx lo hi H Q=>∃a xs,x=.ref a/\TD K H a xs/\∀p,H p=none->Q (.ref p) (Uf H p (.lst (eI xs lo hi)))
theorem nF:yc X (AO X.K):=by
 intro WP s ZB H x v k l lo hi j Q XV i e pl g h;obtain⟨a,xs,rfl,f,q⟩:=h;cases i;obtain⟨Op,r,c,hz⟩:=XV.list f;have d:=r.length;refine⟨"list",_,wD.lookup,c.isList.typeIs,?_⟩;refine CO c.isList e pl g .none (by simp) ?_ (by rw[aU]<;>lia);rw[Mu,<-d];refine⟨.ref s.heap.objs.size,_,XV.laid (t':=s.toks) (o:=.lst (eI xs lo hi)) (λb ob q=>ln _ q) (tz _) ?_,O,q _ (XV.ag.fresh (tz _))⟩;exact⟨dz (FT xs lo hi) hz,_,0,(r.drop (HT.dM xs.length 0 lo)).take (HT.dM xs.length xs.length hi-HT.dM xs.length 0 lo),bc _ rfl⟩
theorem b6:hs X (.builtin "len") (λxs H Q=>∃p ys,xs=[.ref p]/\(TD X.K H p ys\/pm X.K H p ys)/\Q (.int ys.length) H):=by(
intro WP s ZB H xs us Q XV r h;obtain⟨p,ys,rfl,c,q⟩:=h;obtain⟨u,rfl,f⟩:=vals1 r;cases f;have g:=pz;rcases c with c|c
·obtain⟨Op,e,pl,hz⟩:=XV.list c;have d:=e.length;exact Calls.call_len_list pl.isList (by simp only[aU]<;>lia) ⟨.int ys.length,H,XV.tok _,⟨s.toks+1,by rw[aU,d]⟩,q⟩
·obtain⟨Op,e,pl,hz⟩:=XV.tuple c;have d:=e.length;exact len_tuple pl (by simp only[aU]<;>lia) ⟨.int ys.length,H,XV.tok _,⟨s.toks+1,by rw[aU,d]⟩,q⟩)
theorem oY:hs X (.type "list") (λxs H Q=>∃p ys,xs=[.ref p]/\(TD X.K H p ys\/pm X.K H p ys)/\∀l,H l=none->Q (.ref l) (Uf H l (.lst ys))):=by(
intro WP s ZB H xs us Q XV r h;obtain⟨p,ys,rfl,f,q⟩:=h;obtain⟨u,rfl,k⟩:=vals1 r;cases k;have fin:∀(Op:List Tk),ww ys Op->ys.length<=Gc->∀(h':s2) (c:Nat),(∀b o',s.heap.get? b=some o'->h'.get? b=some o')->
  h'.get? s.heap.objs.size=some {cls:=.type "list",dict:=none,data:=.seq Op.toArray c,slots:= #[]}->EP X WP ZB Q (.ref s.heap.objs.size) {s with heap:=h'}:=λOp d hz h' c kp e=>
 ⟨.ref s.heap.objs.size,_,XV.laid (t':=s.toks) kp (tz _) (show bA X.prog X.w _ h' _ (.lst ys) from⟨hz,Op,c,d,e⟩),O,q _ (XV.ag.fresh (tz _))⟩
rcases f with f|f
·obtain⟨Op,d,pl,hz⟩:=XV.list f;have j:=d.length;obtain⟨o,i,g,n,hd⟩:=pl.isList;exact Di p (.inl rfl) i g hd (λh' c kp e=>fin Op d hz h' c kp e) (by simp only[aU]<;>lia)
·obtain⟨Op,d,pl,hz⟩:=XV.tuple f;have j:=d.length;obtain⟨o,i,g,n,hd⟩:=pl;exact Di p (.inr rfl) i g hd (λh' c kp e=>fin Op d hz h' c kp e) (by simp only[aU]<;>lia))
def vX (K:wf) (T:String) (x:W1) (H:Hp):Prop:=match x with
 |.str _=>T="str"
 |.int _=>T="int"
 |.ref p=>(T="list" /\∃xs,TD K H p xs)\/(T="tuple" /\∃o,K.lookup p=some o/\o.cls=.type "tuple" /\o.dict=none)\/
   (T="dict" /\((∃T0,H p=some (.dK T0))\/∃T0,H p=some (.dT T0)))\/(T="set" /\∃S n,H p=some (.set S n))
 |_=>False
theorem BW{ZB:St}(XV:Inv X WP ZB H s) (r:RelV x v) (ty:vX X.K T x H):
  s.TypeIs v T/\∀a,v=.ref a->∃ob,s.heap.get? a=some ob/\ob.dict=none:=by(
cases x with
|str z=>
 obtain⟨t,rfl⟩:=r;cases(show T="str" from ty);exact⟨typeIs_str s z t,λ_ e=>nomatch e⟩
|int i=>
 obtain⟨t,rfl⟩:=r;cases(show T="int" from ty);exact⟨wN s i t,λ_ e=>nomatch e⟩
|ref p=>
 cases r;rcases ty with⟨rfl,xs,h⟩|⟨rfl,o,d,g,hd⟩|⟨rfl,d⟩|⟨rfl,S,n,d⟩
 ·obtain⟨Op,_,pl,_⟩:=XV.list h;refine⟨pl.isList.typeIs,λa e=>?_⟩;cases e;obtain⟨o,n,e,c,hd,_⟩:=pl;exact⟨o,e,hd⟩
 ·refine⟨⟨o,XV.dY p o d,g⟩,λa e=>?_⟩;cases e;exact⟨o,XV.dY _ o d,hd⟩
 ·have z:∃o,s.heap.get? p=some o/\o.ExactDict:=by
   rcases d with⟨T0,d⟩|⟨T0,d⟩
   ·obtain⟨_,_,_,_,o,_,_,e,ex,_⟩:=XV.ag p _ d;exact⟨o,e,ex⟩
   ·obtain⟨_,_,_,_,o,_,_,e,ex,_⟩:=XV.ag p _ d;exact⟨o,e,ex⟩
  obtain⟨o,e,ex⟩:=z;refine⟨⟨o,e,ex.1⟩,λa f=>?_⟩;cases f;exact⟨o,e,ex.2.1⟩
 ·obtain⟨o,_,_,_,e,ex,_⟩:=XV.ag p _ d;refine⟨⟨o,e,ex.1⟩,λa f=>?_⟩;cases f;exact⟨o,e,ex.2.1⟩
|_=>exact ef ty)
def MF (K:wf) (T:String) (r:W1->List W1->Hp->VK->Prop) (to:TE):TE:=λZB H Q=>to ZB H λx H1=>vX K T x H1/\r x [] H1 Q
def ME (K:wf) (T:String) (r:W1->List W1->Hp->VK->Prop) (to:TE) (t:TA):TE:=λZB H Q=>to ZB H λx H1=>vX K T x H1/\t ZB H1 λxs H2=>r x xs H2 Q
variable {o e:s5}{es:List s5}{to:TE}{t:TA}{name:Str}{dA di:Pos}{T id:String}{r:W1->List W1->Hp->VK->Prop}
theorem ll (k:Dw T) (slot:Slot T name id) (j:typeOf (.builtin id)=pure (.type "method_descriptor")) (hm:s8 X id r) (i:PE X o to)
  (f:nS o name X.env (eval o X.env)=eval o X.env:=by rfl) (g:(dA.endLine==di.line)=true:=by rfl):PE X (.Call (.Attribute o name dA) [] [] di) (MF X.K T r to):=by
 intro WP s ZB H Q XV h;refine wpAny_Call_method0_late f g (wP (i WP s ZB H _ XV h) λv m n=>Do n λx H1 c d p=>?_);obtain⟨ty,l⟩:=p;obtain⟨h1,h2⟩:=BW c d ty;exact⟨T,id,k,slot,j,h1,h2,xM rfl (PySem.evalArgs_none (hm WP m ZB H1 x [] v [] Q c d .nil l))⟩
theorem cG (q:Dw T) (slot:Slot T name id) (p:typeOf (.builtin id)=pure (.type "method_descriptor")) (hm:s8 X id r) (l:PE X o to) (g:PA X (e::es) t)
  (i:nS o name X.env (eval o X.env)=eval o X.env:=by rfl)
  (j:((d9 di (al (e::es) X.env)).all (λx=>!x.1)&&(sg di (r_ [] X.env)).all (λx=>x.1.isSome)
   &&decide ((e::es).length+([]:List si).length+(if([]:List si).isEmpty then 0 else 1)<30))=true:=by rfl)
  (k:(dA.endLine==di.line)=true:=by rfl) (n:al (e::es) X.env=(false,eval e X.env)::al es X.env:=by rfl) (m:(d9 di (al es X.env)).any (·.1)=false:=by rfl):
  PE X (.Call (.Attribute o name dA) (e::es) [] di) (ME X.K T r to t):=by
 intro WP s ZB H Q XV h;refine wpAny_Call_method_late i j k rfl (wP (l WP s ZB H _ XV h) λv z C=>Do C λx H1 c d E=>?_);obtain⟨ty,u⟩:=E;obtain⟨h1,h2⟩:=BW c d ty;refine⟨T,id,q,slot,p,h1,h2,?_⟩;have hA:=g di WP z ZB H1 _ c u;rw[n]at hA⊢;refine xM (by show(false||(d9 di (al es X.env)).any (·.1))=false;rw[m]<;>rfl) (Es ?_);exact wP hA λus A D=>Do D λvs H2 f y w=>hm WP A ZB H2 x vs v us Q f d y w
end
def mu (X:Cx) (id:String) (r:W1->List W1->Hp->VK->Prop):Prop:=
 ∀(WP:List (WF×Obj)) (s:Go) (ZB:St) (H:Hp) (x:W1) (xs:List W1) (v:Tk) (us:List Tk) (Q:VK),Inv X WP ZB H s->RelV x v->ww xs us->r x xs H Q->
  wpAny (AT X.prog X.w) X.A (call (.builtin id) (v::us)) (EP X WP ZB Q) X.xe s
theorem ww.one(h:ww [x] us):∃u,us=[u]/\RelV x u:=by
 cases h with|cons r h=>cases h;exact⟨_,O,r⟩
theorem ww.zero:∀ {us:List Tk},ww [] us->us=[]
 |_,.nil=>rfl
theorem ww.dropLast(h:ww xs us):ww xs.dropLast us.dropLast:=by(
induction h with
|nil=>exact .nil
|cons r t a=>
 cases t with
 |nil=>exact .nil
 |cons q t'=>exact .cons r a)
theorem ww.reverse(h:ww xs us):ww xs.reverse us.reverse:=by(
induction h with
|nil=>exact .nil
|cons r t a=>rw[rM,rM];exact ww.append a (.cons r .nil))
theorem ww.rep(h:ww xs us):∀k:Nat,ww (f8 k xs).flatten (f8 k us).flatten
 |0=>.nil
 |k+1=>by
  rw[jk,jk,kA,kA];exact ww.append h (ww.rep h k)
theorem Gd {d:Type}(l:List d):l.eraseIdx (l.length-1)=l.dropLast:=by(
induction l with
|nil=>rfl
|cons a r c=>
 cases r with
 |nil=>rfl
 |cons b r=>
  have e:(a::b::r).length-1=((b::r).length-1)+1:=by
   have h1:(a::b::r).length=r.length+2:=rfl;have h2:(b::r).length=r.length+1:=rfl;lia
  rw[e,List.eraseIdx_cons_succ,c]
  all_goals rfl)
theorem foldl_rep (Op:List Tk):∀(k:Nat) (acc:List Tk),
  wB (λb c=>b++c) acc.toArray (f8 k Op.toArray)=(acc++(f8 k Op).flatten).toArray
 |0,acc=>by simp
 |k+1,acc=>by
  have e:acc.toArray++Op.toArray=(acc++Op).toArray:=by simp
  have a:(acc++Op)++(f8 k Op).flatten=acc++(f8 (k+1) Op).flatten:=by
   rw[jk,kA,dv]
  rw[<- a,<-foldl_rep Op k (acc++Op),<-e,jk,dS]
section
variable {X:Cx}{WP:List (WF×Obj)}{ZB:St}{H:Hp}{s:Go}{l b:WF}{xs ys zs:List W1}
theorem Inv.mZ{Op:List Tk}(XV:Inv X WP ZB H s) (a:H l=some (.lst xs))
  (e:s.heap.get? l=some {cls:=.type "list",data:=.seq Op.toArray n}) (hf:f Op.toArray=its'.toArray) (hv:ww ys its') (hz:ys.length<=Gc):
  Inv X WP ZB (Uf H l (.lst ys)) {s with heap:=s.heap.update l (ho f),toks:=t'}:=by
 have q:=PySem.IsL.update e f;rw[hf]at q;refine XV.write (x:=l) (e:=l) (by rw[a];exact trivial) (.inl rfl) (λd u c hu=>(ic s.heap (ho f) (Ne.symm c)).trans hu) ⟨_,q⟩ ?_;exact⟨hz,its',_,hv,q⟩
theorem Inv.z8(XV:Inv X WP ZB H s) (hv:ww ys Op) (hz:ys.length<=Gc):
  Inv X WP ZB (Uf H s.heap.objs.size (.lst ys)) {s with heap:=s.heap.push {cls:=.type "list",data:=.seq Op.toArray},toks:=t'}:=
 XV.laid (λ_ _ q=>ln _ q) (tz _) ⟨hz,Op,0,hv,bc _ rfl⟩
theorem Inv.fresh (XV:Inv X WP ZB H s):H s.heap.objs.size=none:=XV.ag.fresh (tz _)
theorem Inv.hL (XV:Inv X WP ZB H s) (a:H l=some (.lst xs)):xs.length<=Gc/\∃(Op:List Tk) (n:Nat),ww xs Op/\xs.length=Op.length/\s.heap.get? l=some {cls:=.type "list",data:=.seq Op.toArray n}:=by
 obtain⟨z,Op,n,r,e⟩:=XV.ag l _ a;exact⟨z,Op,n,r,r.length,e⟩
theorem uF(h:n<=Gc):l5 n=false:=by
 unfold l5;exact sn (by lia)
end
section
variable {X:Cx}
def Lh:W1->List W1->Hp->VK->Prop:=λx vs H Q=>∃l xs y,x=.ref l/\vs=[y]/\H l=some (.lst xs)/\xs.length<Gc/\Q .ak (Uf H l (.lst (xs++[y])))
theorem cZ:mu X "list.append" Lh:=by
 intro WP s ZB H x vs v us Q XV d c h;obtain⟨l,xs,y,rfl,rfl,a,hz,q⟩:=h;cases d;obtain⟨u,rfl,b⟩:=c.one;obtain⟨z,Op,n,r,f,e⟩:=XV.hL a;refine kk F.slot_list_append ⟨_,e,O⟩ F.entry_list_append (F.args_list_append_2 _ _) (PySem.list_append l Op.toArray n u (by rw[aU];lia)) ⟨e,?_⟩;refine⟨.ak,_,XV.mZ (its':=Op++[u]) a e (by simp) (r.append (.cons b .nil)) ?_,O,q⟩;rw[ls,bK];lia
def Ll:W1->List W1->Hp->VK->Prop:=λx vs H Q=>∃l b xs zs,x=.ref l/\vs=[.ref b]/\H l=some (.lst xs)/\H b=some (.lst zs)/\xs.length+zs.length<=Gc/\Q .ak (Uf H l (.lst (xs++zs)))
theorem IM:mu X "list.extend" Ll:=by(
intro WP s ZB H x vs v us Q XV k j h;obtain⟨l,b,xs,zs,rfl,rfl,c,hB,hz,q⟩:=h;cases k;obtain⟨u,rfl,i⟩:=j.one;cases i;obtain⟨z,Op,n,r,m,e⟩:=XV.hL c;obtain⟨p,a,n2,g,o,d⟩:=XV.hL hB;have hsz:Op.toArray.size+a.toArray.size<=Gc:=by rw[aU,aU];lia
have f:¬(!Op.toArray.isEmpty&&l5 (Op.toArray.size+a.toArray.size))=true:=by
 rw[uF hsz,oa];exact cc
refine kk F.slot_list_extend ⟨_,e,O⟩ F.entry_list_extend (F.args_list_extend_2 _ _)
 (AutoSeq1.list_extend_list_list_0 l Op.toArray n b a.toArray n2 f (by rw[aU];lia) (by lia)) ⟨e,d,?_⟩
refine⟨.ak,_,XV.mZ (its':=Op++a) c e (by simp) (r.append g) ?_,O,q⟩;rw[ls];lia)
def Lp:W1->List W1->Hp->VK->Prop:=λx vs H Q=>∃l xs y,x=.ref l/\vs=[]/\H l=some (.lst xs)/\xs[xs.length-1]?=some y/\Q y (Uf H l (.lst xs.dropLast))
theorem IQ:mu X "list.pop" Lp:=by(
intro WP s ZB H x vs v us Q XV j i h;obtain⟨l,xs,y,rfl,rfl,a,d,q⟩:=h;cases j;have c:=i.zero;subst c;obtain⟨z,Op,n,r,b,e⟩:=XV.hL a;obtain⟨u,hu,g⟩:=r.get d;have f:Op.toArray[Op.toArray.size-1]?=some u:=by
 show Op.toArray[Op.length-1]?=some u;rw[<- Array.getElem?_toList,<-b];exact hu
refine kk F.slot_list_pop ⟨_,e,O⟩ F.entry_list_pop (F.args_list_pop_1 _) (MeetsSeq.list_pop_last l Op.toArray n u f (by rw[aU];lia)) ⟨e,?_⟩;refine⟨y,_,XV.mZ (its':=Op.dropLast) a e ?_ r.dropLast ?_,g,q⟩
·show Op.toArray.eraseIdxIfInBounds (Op.toArray.size-1)=Op.dropLast.toArray;rw[aU,List.eraseIdxIfInBounds_toArray,Gd]
·rw[List.length_dropLast];lia)
def Lq:W1->List W1->Hp->VK->Prop:=λx vs H Q=>∃l xs,x=.ref l/\vs=[]/\H l=some (.lst xs)/\Q .ak (Uf H l (.lst xs.reverse))
theorem IS:mu X "list.reverse" Lq:=by
 intro WP s ZB H x vs v us Q XV d c h;obtain⟨l,xs,rfl,rfl,a,q⟩:=h;cases d;have b:=c.zero;subst b;obtain⟨z,Op,n,r,f,e⟩:=XV.hL a;refine kk F.slot_list_reverse ⟨_,e,O⟩ F.entry_list_reverse (F.args_list_reverse_1 _) (AutoSeq1.list_reverse_list_0 l Op.toArray n (by rw[aU];lia)) ⟨e,?_⟩;refine⟨.ak,_,XV.mZ (its':=Op.reverse) a e (by simp) r.reverse ?_,O,q⟩;rw[fh];lia
def Li:R2:=λx y H Q=>∃l b xs zs,x=.ref l/\y=.ref b/\H l=some (.lst xs)/\H b=some (.lst zs)/\xs.length+zs.length<=Gc/\∀p,H p=none->Q (.ref p) (Uf H p (.lst (xs++zs)))
theorem Ke:bP X (ha .Add) Li:=by(
intro WP s ZB H x y v u Q XV i j h;obtain⟨l,b,xs,zs,rfl,rfl,f,hB,hz,q⟩:=h;cases i;cases j;obtain⟨z,Op,n,r,k,e⟩:=XV.hL f;obtain⟨o,a,n2,g,m,c⟩:=XV.hL hB;refine PySem.P.add_list e c ?_ (by rw[aU,aU];lia);have d:Op.toArray++a.toArray=(Op++a).toArray:=by simp
rw[d];exact⟨.ref _,_,XV.z8 (t':=s.toks) (r.append g) (by rw[ls];lia),O,q _ XV.fresh⟩)
def AN:R2:=λx y H Q=>∃l k xs,x=.ref l/\y=.int k/\H l=some (.lst xs)/\ -(2^63)<=k/\k<2^63/\xs.length*k.toNat<=Gc/\
 ∀p,H p=none->Q (.ref p) (Uf H p (.lst (f8 k.toNat xs).flatten))
theorem Iq {b:Type}(xs:List b) (k:Nat):(f8 k xs).flatten.length=k*xs.length:=by(
induction k with
|zero=>simp
|succ k a=>rw[jk,kA,ls,a,Nat.succ_mul,Nat.add_comm])
theorem pP:bP X (ha .Mult) AN:=by(
intro WP s ZB H x y v u Q XV A C h;obtain⟨l,k,xs,rfl,rfl,f,h1,h2,hz,q⟩:=h;cases A;obtain⟨t,rfl⟩:=C;obtain⟨z,Op,n,r,j,e⟩:=XV.hL f;have o:Op.toArray.size*k.toNat<=Gc:=by rw[aU,<-j];exact hz
have g:¬Op.toArray.size*k.toNat>(2^63-1)/8:=by
 have:(Gc:Nat)<=(2^63-1)/8:=by decide
 lia
have i:¬(!Od k)=true:=by
 rw[fitsIndex_both h1 h2];exact cc
have p:¬l5 (Op.toArray.size*k.toNat)=true:=by
 rw[uF o];exact cc
have w:wB (λb c=>b++c) #[] (f8 (if Op.toArray.isEmpty=true then 0 else k.toNat) Op.toArray)=(f8 k.toNat Op).flatten.toArray:=by
 have d:∀m:Nat,wB (λb c=>b++c) #[] (f8 m Op.toArray)=(f8 m Op).flatten.toArray:=λm=>by
  have:=foldl_rep Op m [];rw[me]at this;exact this
 rw[d];cases Op with
 |nil=>simp
 |cons a D=>rw[Ps (by simp)]
refine wpAny_binaryOp_repeat_ref (T:="list") (U:="int") (by decide) ⟨_,e,O⟩ (λs'=>wN s' k t) noFill_list_mul F.fills_int_mul F.slot_int_rmul repeat_list F.slot_int_index.lookup
 (kk F.slot_int_rmul (wN s k t) F.entry_int_rmul (F.args_int_rmul_2 _ _) (int___rmul___int_list k t l Op.toArray n)
  ⟨e,O,⟨_,e,O⟩,kk F.slot_list_mul ⟨_,e,O⟩ F.entry_list_mul (F.args_list_mul_2 _ _) (AutoListH.list___mul___list_int_3 l Op.toArray n k t i g p) ⟨e,?_⟩⟩)
rw[w];exact⟨.ref _,_,XV.z8 (t':=s.toks) (r.rep k.toNat) (by rw[Iq,Nat.mul_comm];exact hz),O,q _ XV.fresh⟩)
end
theorem ww.ints:∀ {ns:List Int}{us:List Tk},ww (ns.map W1.int) us->cD us ns
 |[],us,h=>by
  rw[hr]at h;cases h;exact IntsAre.nil
 |n::ns,us,h=>by
  rw[m0]at h;cases h with
  |cons r t=>
   obtain⟨k,rfl⟩:=r;exact IntsAre.cons n k (ww.ints t)
theorem ww.u5(r:ww [W1.ref a] us):us=[em a]:=by(
cases r with
|cons r t=>
 cases t;cases r;rfl)
abbrev x5 (h:s2) (c:WF) (v:Option Tk):Prop:=h.IsCell c v
noncomputable def Lz (scope a:d_):d_:=
 {scope with names:=scope.names.map λ(n,k)=>if(k== .free&&a.kind== .function&&a.names.lookup n==some .cell)then(n,.cell)else(n,k)}
noncomputable def cF (cells:List (Str×WF)):List (Str×d8)->List (Str×WF)->List (Str×WF)
 |[],acc=>acc
 |(n,k)::r,acc=>if k== .free then cF cells r ((n,(cells.lookup n).getD 0)::acc)else cF cells r acc
theorem yU (env:Env) (f:Str×d8->List (Str×WF)->Sem (ForInStep (List (Str×WF))))
  (hf:∀n k c,f (n,k) c=if k== .free then(do let a <-w5 env n;pure (.yield ((n,a)::c)))else pure (.yield c)):
  ∀(names:List (Str×d8)) (acc:List (Str×WF)),(∀y∈names,y.2=.free->∃c,env.cells.lookup y.1=some c)->forIn names acc f=pure (cF env.cells names acc)
 |[],acc,_=>by rw[nL];rfl
 |(n,k)::r,acc,h=>by
  rw[rQ,hf];have g:=λacc=>yU env f hf r acc λy j=>h y (o0 _ j);unfold cF;by_cases b:(k==l9)=true
  ·rw[No b,No b];obtain⟨c,d⟩:=h (n,k) kt (by simpa using b);have e:w5 env n=pure c:=by unfold w5;rw[d]
   rw[e];have i:(env.cells.lookup n).getD 0=c:=by rw[d];rfl
   rw[i];exact g _
  ·rw[Ps b,Ps b];exact g _
theorem FJ(h:∀y∈scope.names,y.2=.free->∃c,env.cells.lookup y.1=some c):Dx scope env=pure (cF env.cells scope.names []):=by
 simp only[Dx];rw[yU env _ (λn k c=>rfl) scope.names [] h];rfl
theorem mem_lookup {a:Type}:∀ {l:List (Str×a)}{n:Str}{c:a},(n,c)∈l->∃b,l.lookup n=some b
 |(k,v)::r,n,c,h=>by
  rw[jn];cases d:n==k with
  |true=>exact⟨_,O⟩
  |false=>
   rcases rs.mp h with e|h
   ·cases e;simp at d
   ·exact mem_lookup h
theorem o1:∀ {names:List (Str×d8)}{acc:List (Str×WF)}{n:Str}{c:WF},(n,c)∈cF cells names acc->(n,c)∈acc\/((n,.free)∈names/\c=(cells.lookup n).getD 0)
 |[],_,_,_,h=>.inl h
 |(m,k)::r,acc,n,c,h=>by
  unfold cF at h;split at h
  ·rename_i a;have a:k=.free:=by simpa using a
   rcases o1 h with h|⟨h1,h2⟩
   ·rcases rs.mp h with e|h
    ·cases e;exact .inr ⟨a▸kt,O⟩
    ·exact .inl h
   ·exact .inr ⟨o0 _ h1,h2⟩
  ·rcases o1 h with h|⟨h1,h2⟩
   ·exact .inl h
   ·exact .inr ⟨o0 _ h1,h2⟩
theorem tU:∀ {names:List (Str×d8)}{acc:List (Str×WF)}{p:Str×WF},p∈acc->p∈cF cells names acc
 |[],_,_,h=>h
 |(m,k)::r,acc,p,h=>by
  unfold cF;split
  ·exact tU (o0 _ h)
  ·exact tU h
theorem tV:∀ {names:List (Str×d8)}{acc:List (Str×WF)}{n:Str},(n,.free)∈names->(n,(cells.lookup n).getD 0)∈cF cells names acc
 |(m,k)::r,acc,n,h=>by
  unfold cF;rcases rs.mp h with e|h
  ·cases e;exact tU kt
  ·split
   ·exact tV h
   ·exact tV h
theorem mD:∀ {names:List (Str×d8)}{h:s2}{acc:List (Str×WF)}{x:Str}{c:WF},(x,c)∈cJ h.objs.size names acc->
  (x,c)∈acc\/((x,.cell)∈names/\h.objs.size<=c/\x5 (i9 h names) c none)
 |[],_,_,_,_,h=>.inl h
 |(n,k)::r,h,acc,x,c,hm=>by
  unfold cJ at hm;unfold i9;split at hm
  ·rename_i a;rw[No a];have a:k=.cell:=by simpa using a
   rw[<- cU h {cls:=.type "cell",data:=.cell none}]at hm;rcases mD hm with hm|⟨h1,h2,b⟩
   ·rcases rs.mp hm with e|hm
    ·cases e;exact .inr ⟨a▸kt,tz _,_,r3 r _ _ _ (bc _ rfl),O⟩
    ·exact .inl hm
   ·rw[cU]at h2;exact .inr ⟨o0 _ h1,sq h2,b⟩
  ·rename_i a;rw[Ps a];rcases mD hm with hm|⟨h1,h2,b⟩
   ·exact .inl hm
   ·exact .inr ⟨o0 _ h1,h2,b⟩
theorem oZ:∀ {names:List (Str×d8)}{n:Nat}{acc:List (Str×WF)}{p:Str×WF},p∈acc->p∈cJ n names acc
 |[],_,_,_,h=>h
 |(m,k)::r,n,acc,p,h=>by
  unfold cJ;split
  ·exact oZ (o0 _ h)
  ·exact oZ h
theorem tS:∀ {names:List (Str×d8)}{n:Nat}{acc:List (Str×WF)}{x:Str},(x,.cell)∈names->∃c,(x,c)∈cJ n names acc
 |(m,k)::r,n,acc,x,h=>by
  unfold cJ;rcases rs.mp h with e|h
  ·cases e;exact⟨n,oZ kt⟩
  ·split
   ·exact tS h
   ·exact tS h
theorem tT:∀ {names:List (Str×d8)}{h:s2}{acc:List (Str×WF)}{x y:Str}{c:WF},(∀p∈acc,p.2<h.objs.size)->(∀x y c,(x,c)∈acc->(y,c)∈acc->x=y)->
  (x,c)∈cJ h.objs.size names acc->(y,c)∈cJ h.objs.size names acc->x=y
 |[],_,_,_,_,_,_,hi,h1,h2=>hi _ _ _ h1 h2
 |(n,k)::r,h,acc,x,y,c,d,hi,h1,h2=>by
  unfold cJ at h1 h2;split at h1
  ·rename_i f;rw[No f]at h2;rw[<- cU h {cls:=.type "cell",data:=.cell none}]at h1 h2;refine tT (h:=h.push _) (λp g=>?_) (λx y c a b=>?_) h1 h2
   ·rw[cU];rcases rs.mp g with rfl|g
    ·exact sr _
    ·exact l3 (d p g)
   ·rcases rs.mp a with e|a<;>rcases rs.mp b with i|b
    ·cases e;cases i;rfl
    ·cases e;exact absurd (d _ b) (hh _)
    ·cases i;exact absurd (d _ a) (hh _)
    ·exact hi _ _ _ a b
  ·rename_i f;rw[Ps f]at h2;exact tT d hi h1 h2
theorem I3{xO:WF}{code:Tk}
  (h:Q (newEnv scope s.heap.objs.size xO (cJ (s.heap.objs.size+1) scope.names a) d func code (some b) builtins)
   {s with heap:=i9 (s.heap.push {cls:=.type "dict",data:=.dict #[]}) scope.names}):
  wpAny TW A (C_ scope xO a [] d func code (some b) builtins) Q E s:=by
 simp only[C_,DT,a9];refine IR (wpAny_alloc ?_);refine IR (wpAny_layCells _ (λn k c=>rfl) scope.names a _ _ ?_);rw[show({s with heap:=s.heap.push {cls:=.type "dict",data:=.dict #[]}}:Go).heap.objs.size=s.heap.objs.size+1 from cU ..];rw[nL];exact IR (t3 (t3 h))
theorem ux {a:d_}:∀ {names:List (Str×d8)}{x:Str}{k:d8},
  (names.map λ(n,k)=>if(k==l9&&a.kind== .function&&a.names.lookup n==some .cell)then(n,xJ)else(n,k)).lookup x=some k->
  ∃e,names.lookup x=some e/\(k=e\/(e=.free/\k=.cell))
 |[],_,_,h=>by simp at h
 |(n,d)::r,x,k,h=>by
  have f:=@ux a r x k;have h':jo x ((if(d==l9&&a.kind== .function&&a.names.lookup n==some .cell)=true then(n,xJ)else(n,d))::(r.map _))=some k:=h;cases c:x==n with
  |true=>
   simp only[jn,c];by_cases b:(d==l9&&a.kind== .function&&a.names.lookup n==some .cell)=true
   ·rw[No b]at h';simp only[jn,c]at h';cases h';simp only[ev,gu]at b;exact⟨d,O,.inr ⟨b.1.1,O⟩⟩
   ·rw[Ps b]at h';simp only[jn,c]at h';cases h';exact⟨_,O,.inl rfl⟩
  |false=>
   simp only[jn,c];by_cases b:(d==l9&&a.kind== .function&&a.names.lookup n==some .cell)=true
   ·rw[No b]at h';simp only[jn,c]at h';exact f h'
   ·rw[Ps b]at h';simp only[jn,c]at h';exact f h'
structure mh (N:List Str) (a scope:d_) (own:List (Str×Nat)):Prop where
 kind:scope.kind=.function
 uniq:∀y∈scope.names,scope.names.lookup y.1=some y.2
 ix:∀p∈own,N[p.2]?=some p.1
 free:∀y∈scope.names,y.2=.free->a.names.lookup y.1=some .cell\/a.names.lookup y.1=some .free
 own:∀y∈scope.names,y.2=.local\/y.2=.cell->y.1∈own.map (·.1)\/y.1∉N
def nm (ZB:St):List Nat->St
 |[]=>ZB
 |v::vs=>(nm ZB vs).set v none
theorem v9 (ZB:St):∀vs:List Nat,(nm ZB vs).length=ZB.length
 |[]=>rfl
 |v::vs=>by unfold nm;rw[CF,v9 ZB vs]
theorem v_:∀ {vs:List Nat},(nm ZB vs)[i]?=some (some x)->ZB[i]?=some (some x)/\i∉vs
 |[],h=>⟨h,by simp⟩
 |v::vs,h=>by
  unfold nm at h;by_cases hi:v=i
  ·subst hi;by_cases hv:v<(nm ZB vs).length
   ·rw[wa hv]at h;cases h
   ·rw[ip (by simpa using hv)]at h;cases h
  ·rw[sW hi]at h;obtain⟨h1,h2⟩:=v_ h;exact⟨h1,by simp only[rs,not_or];exact⟨λe=>hi e.symm,h2⟩⟩
noncomputable abbrev Cx.cW (X:Cx) (s:Go) (H:Hp) (scope:d_) (a:Env) (fp:List WF):Cx:= {X with dt:=s,js:=H,env:=a,outer:=X.stack,ex:=fp,fn:=λx=>scope.names.lookup x==some .cell,pn:=[],xe:=λ_ _=>False}
section
variable {X:Cx}{WP:List (WF×Obj)}{ZB:St}{H:Hp}{s:Go}
theorem Ft(XV:Inv X WP ZB H s) (ok:mh X.N X.env.scope scope own) (OR:X.N.Nodup) (C:∀b∈fp,fo X WP H b/\b<s.heap.objs.size):
  Inv (X.cW s H scope (ff scope (cJ (s.heap.objs.size+1) scope.names (cF X.env.cells scope.names [])) s.heap.objs.size X.env) fp) [] (nm ZB (own.map (·.2))) H {s with heap:=i9 (s.heap.push {cls:=.type "dict",data:=.dict #[]}) scope.names}:=by(
have OS:∀y∈scope.names,y.2=.free->∃c,X.env.cells.lookup y.1=some c:=λy h e=>by
 rcases ok.free y h e with k|k
 ·exact XV.ok.has _ (.inl k)
 ·exact XV.ok.has _ (.inr k)
generalize J:ff scope (cJ (s.heap.objs.size+1) scope.names (cF X.env.cells scope.names [])) s.heap.objs.size X.env=d;have kp:∀b o,s.heap.get? b=some o->(i9 (s.heap.push {cls:=.type "dict",data:=.dict #[]}) scope.names).get? b=some o:=λb o e=>r3 _ _ _ _ (ln _ e);have Q:d.locals=s.heap.objs.size:=by rw[<- J];rfl
have x:d.cells=cJ (s.heap.objs.size+1) scope.names (cF X.env.cells scope.names []):=by rw[<- J];rfl
have OM:d.scope=Lz scope X.env.scope:=by rw[<- J];rfl
rw[<- cU s.heap {cls:=.type "dict",data:=.dict #[]}]at x;have E:∀ {y c},(y,c)∈cF X.env.cells scope.names []->X.env.cells.lookup y=some c/\c<s.heap.objs.size:=λ{y c} hm=>by
 rcases o1 hm with hm|⟨h1,rfl⟩
 ·cases hm
 ·obtain⟨c,ON⟩:=OS _ h1 rfl;rw[ON];obtain⟨w,z⟩:=XV.cell _ _ ON;exact⟨O,z.lt⟩
have mem:∀ {y c},d.cells.lookup y=some c->(X.env.cells.lookup y=some c/\c<s.heap.objs.size)\/(s.heap.objs.size+1<=c/\x5 (i9 (s.heap.push {cls:=.type "dict",data:=.dict #[]}) scope.names) c none):=λ{y c} e=>by
 rw[x]at e;rcases mD (eA e)with hm|⟨_,h2,OQ⟩
 ·exact .inl (E hm)
 ·rw[cU]at h2;exact .inr ⟨h2,OQ⟩
have look:∀ {y},scope.names.lookup y=some .free->∃c,d.cells.lookup y=some c/\X.env.cells.lookup y=some c:=λ{y} U=>by
 have h:(y,l9)∈scope.names:=eA U;obtain⟨L,f⟩:=mem_lookup (oZ (names:=scope.names) (n:=(s.heap.push {cls:=.type "dict",data:=.dict #[]}).objs.size) (tV (cells:=X.env.cells) (acc:=[]) h));rw[<- x]at f;refine⟨L,f,?_⟩;rw[x]at f;rcases mD (eA f)with hm|⟨h1,_,_⟩
 ·exact(E hm).1
 ·have:=ok.uniq _ h1;rw[U]at this;cases this
have OX:(X.cW s H scope d fp).Ok:=by
 refine⟨XV.ok.mod,by show d.scope.kind=_;rw[OM];exact ok.kind,by show d.globals=_;rw[<- J];exact XV.ok.glob,by show d.builtins=_;rw[<- J];exact XV.ok.blt,by show s.heap.objs.size<=d.locals;rw[Q];exact tz _,
  λy z c j l=>?_,λy h=>?_,λy c z e=>?_,XV.ok.hd,XV.ok.frames,.inl rfl,λb t=>⟨?_,λy c e z=>?_⟩,XV.bs,dz XV.ok.hG XV.sz,λb o e t=>?_,λb t z=>?_,XV.stack,XV.Bx⟩
 ·have j:d.cells.lookup y=some c:=j;have l:d.cells.lookup z=some c:=l;rw[x]at j l;refine tT (λp D=>?_) (λy z c a b=>XV.ok.inj y z c (E a).1 (E b).1) (eA j) (eA l);rw[cU];exact l3 (E (y:=p.1) (c:=p.2) D).2
 ·show ∃c,d.cells.lookup y=some c;have key:∀k,d.kindOf y=some k->(k=.cell\/k=.free)->∃c,d.cells.lookup y=some c:=λk A Y=>by
   unfold Env.kindOf at A;rw[OM]at A;obtain⟨u,e,r⟩:=ux A;have:u=.cell\/u=.free:=by
    rcases r with rfl|⟨rfl,_⟩
    ·exact Y
    ·exact .inr rfl
   rcases this with rfl|rfl
   ·obtain⟨c,hm⟩:=tS (n:=(s.heap.push {cls:=.type "dict",data:=.dict #[]}).objs.size) (acc:=cF X.env.cells scope.names []) (eA e);obtain⟨L,f⟩:=mem_lookup hm;exact⟨L,by rw[x];exact f⟩
   ·obtain⟨c,h1,_⟩:=look e;exact⟨c,h1⟩
  rcases h with h|h
  ·exact key _ h (.inl rfl)
  ·exact key _ h (.inr rfl)
 ·have z:(scope.names.lookup y==some xJ)=true:=z;have z:scope.names.lookup y=some .cell:=by simpa using z
  have e:d.cells.lookup y=some c:=e;rw[x]at e;rcases mD (eA e)with hm|⟨_,h2,_⟩
  ·rcases o1 hm with hm|⟨h1,_⟩
   ·cases hm
   ·have q:=ok.uniq _ h1;rw[z]at q;cases q
  ·rw[cU]at h2;exact sq h2
 ·show b≠d.locals;rw[Q];exact cb (C b t).2
 ·have e:d.cells.lookup y=some c:=e;rcases mem e with⟨h1,_⟩|⟨h1,_⟩
  ·exact(C b t).1.2.2.2.2.1 y c h1 z
  ·have h2:s.heap.objs.size+1<=b:=by rw[<- z];exact h1
   exact absurd (c_ (C b t).2 (sq h2)) (hh _)
 ·rcases(C b t).1.2.2.2.1 with z|z
  ·exact XV.ok.m7 b o e z
  ·exact absurd (c_ (cr e) (dz XV.ok.hG z)) (hh _)
 ·rcases rs.mp (XV.vK b z)with z|z
  ·exact(C b t).1.2.1 z
  ·exact(C b t).1.2.2.1 z
refine⟨OX,O,XV.bare,Un.kept kp,⟨λ_=>none,?_,λi y OP j l g=>?_⟩,λy c e=>?_,?_,λy c e=>?_,λp D=>?_,XV.ag.kept kp,by rw[v9];exact XV.len⟩
·show Heap.Ns _ d.locals _;rw[Q];exact Heap.Ns.keeps (Heap.Ns.new ..) λb o e=>r3 _ _ _ _ e
·obtain⟨l,OU⟩:=v_ l;have T:scope.names.lookup y=some .free/\(d.kindOf y=some .cell\/d.kindOf y=some .free):=by
  have key:∀k,d.scope.names.lookup y=some k->k=.local\/k=.cell\/k=.free->scope.names.lookup y=some .free/\(d.kindOf y=some .cell\/d.kindOf y=some .free):=λk A Y=>by
   have OO:=A;rw[OM]at A;obtain⟨u,e,r⟩:=ux A;have no:¬(u=.local\/u=.cell):=λOT=>by
    rcases ok.own _ (eA e) OT with f|f
    ·obtain⟨p,D,OV⟩:=mo.mp f;have g:=ok.ix p D;have:p.1=y:=OV;rw[this]at g;exact OU (mo.mpr ⟨p,D,uE OR g j⟩)
    ·exact f (pi j)
   rcases r with rfl|⟨rfl,rfl⟩
   ·rcases Y with rfl|rfl|rfl
    ·exact absurd (.inl rfl) no
    ·exact absurd (.inr rfl) no
    ·exact⟨e,.inr OO⟩
   ·exact⟨e,.inl OO⟩
  have g:kL d.scope y:=g;rcases g with g|g|g
  ·exact key _ g (.inl rfl)
  ·exact key _ g (.inr (.inl rfl))
  ·exact key _ g (.inr (.inr rfl))
 obtain⟨m,OY,U⟩:=XV.loc;have OW:kL X.env.scope y:=(ok.free _ (eA T.1) rfl).elim (λk=>.inr (.inl k)) (λk=>.inr (.inr k));obtain⟨w,r,q⟩:=U i y OP j l OW;refine⟨w,r,.inr ⟨T.2,?_⟩⟩;obtain⟨c,h1,h2⟩:=look T.1;rcases q with⟨k,_⟩|⟨_,L,f,z⟩
 ·have k:X.env.scope.names.lookup y=some .local:=k;rcases ok.free _ (eA T.1) rfl with u|u<;>rw[show X.env.scope.names.lookup y=_ from u]at k<;>cases k
 ·rw[h2]at f;cases f;exact⟨c,h1,z.keeps kp⟩
·have e:d.cells.lookup y=some c:=e;rcases mem e with⟨h1,_⟩|⟨_,z⟩
 ·obtain⟨w,z⟩:=XV.cell y c h1;exact⟨w,z.keeps kp⟩
 ·exact⟨_,z⟩
·show H d.locals=none;rw[Q];exact XV.ag.fresh (tz _)
·have e:d.cells.lookup y=some c:=e;rcases mem e with⟨h1,_⟩|⟨h1,_⟩
 ·exact XV.e4 y c h1
 ·exact XV.ag.fresh (sq h1)
·exact absurd (show p∈([]:List (WF×Obj))++[] from D) (by simp))
theorem Fi(XV:Inv X WP ZB H s) (a:H D=some (.lst xs)) (hz:xs.length<Gc) (r:RelV y v)
  (h:∀s',Inv X WP ZB (Uf H D (.lst (xs++[y]))) s'->Q .none s'):wpAny (AT X.prog X.w) X.A (call (.builtin "list.append") [.ref D,v]) Q E s:=by
 obtain⟨j,Op,n,d,e⟩:=XV.ag D _ a;have i:=d.length;refine append_at (hsz:=by rw[aU];lia) e λh' g c=>?_;refine h {s with heap:=h'} (XV.write (t':=s.toks) (by rw[a];trivial) (.inl rfl) (λb u f q=>(g.2 b f).trans q) ⟨_,c⟩ ⟨by rw[ls];exact hz,Op++[v],n+1,d.append (.cons r .nil),?_⟩);rw[c];simp
def mv (X:Cx) (a:List s5) (t:TT):Prop:=
 ∀(WP:List (WF×Obj)) (s:Go) (ZB:St) (H:Hp) (Q:Bool->Hp->Prop),Inv X WP ZB H s->t ZB H Q->
  wpAny (AT X.prog X.w) X.A (forIn a true λc r=>if r=true then do let ok <-isTrue c X.env (eval c X.env);pure (om ok)else pure (om r)) (TP X WP ZB Q) X.xe s
def iZ:TT:=λ_ H Q=>Q true H
theorem gn:mv X [] iZ:=λ_ _ _ H _ XV h=>wpAny_tests_nil ⟨H,XV,h⟩
theorem K7(h:PT X c t):mv X [c] t:=λWP s ZB H Q XV hw=>wpAny_tests_one (h WP s ZB H Q XV hw)
end
theorem lK(h:wpAny TW A t Q (λ_ _=>False) s) (c:∀a s,Q a s->b a s):wpAny TW A t b E s:=eT h c λ_ _ z=>ef z
theorem FL{bx:s5}(XV:Nat->Go->Prop)
  (turn:∀n s,XV n s->wpAny (AT prog w) A (eU a) (λr b=>match r with
   |none=>R (.ok .next) b
   |some v=>wpAny (AT prog w) A (r2 f a v) (λ_ l=>wpAny (AT prog w) A (km f env v) (λ_ o=>
     wpAny (AT prog w) A (forIn k true λc r=>if r=true then do let ok <-isTrue c env (eval c env);pure (om ok)else pure (om r)) (λok d=>
      if ok=true then wpAny (AT prog w) A (eval g env) (λx p=>
       wpAny (AT prog w) A (call (.builtin "list.append") [acc,x]) (λ_ q=>∃m,m<n/\XV m q) (lV (AT prog w) A env λe s'=>R (.error e) s') p) (lV (AT prog w) A env λe s'=>R (.error e) s') d
      else ∃m,m<n/\XV m d) (lV (AT prog w) A env λe s'=>R (.error e) s') o) (lV (AT prog w) A env λe s'=>R (.error e) s') l) (lV (AT prog w) A env λe s'=>R (.error e) s') b) (lV (AT prog w) A env λe s'=>R (.error e) s') s)
  (n:Nat) (h:XV n s):
  codeAny (AT prog w) A (.compLoop (.ListComp g [⟨f,bx,k,0⟩] scope pos) 0 a acc env) R s:=by
 refine codeAny_loop rfl XV (λn s t=>?_) n h;show wpAny _ A ((compTurn (.ListComp g [⟨f,bx,k,0⟩] scope pos) 0 a acc env).onRaise (λx=>do noteFrame x env;theTreesLotGoes x)) _ _ s;refine wpAny_noted ?_;rw[compTurn_list];refine IR (wH (IR (eT (turn n s t) (λr b i=>?_) λ_ _ h'=>h')));cases r with
 |none=>exact t3 i
 |some v=>
  refine IR (eT i (λ_ l u=>?_) λ_ _ h'=>h');refine IR (eT u (λ_ o y=>IR (eT y (λok d j=>?_) λ_ _ h'=>h')) λ_ _ h'=>h');cases ok with
  |false=>exact t3 ⟨O,j⟩
  |true=>
   exact IR (IR (eT j (λx p z=>IR (eT z (λ_ q C=>t3 (t3 ⟨O,C⟩)) λ_ _ h'=>h')) λ_ _ h'=>h'))
section
variable {X:Cx}
def lH (j:TI) (g:TG) (h:TT) (te:TE) (vs:List Nat):TE:=λZB H Q=>j ZB H λJ H1=>∀D,H1 D=none->∃W:Nat->Nat->Hp->Prop,(∃m,W 0 m (Uf H1 D (.lst [])))/\∀i m H,W i m H->
 (J.stop i H/\Q (.ref D) H)\/(J.go i H/\∃a:Hp->Prop,(∀I,a I->∃f,f<m/\W (i+1) f I)/\∀x I,J.eQ i H x I->g x (nm ZB vs) I λc H2=>nm c vs=nm ZB vs/\h c H2 λb d=>
  if b=true then te c d λy e=>∃acc,e D=some (.lst acc)/\acc.length<Gc/\a (Uf e D (.lst (acc++[y])))else a d)
theorem zU{ZB:St}{bx:s5}
  (O9:X.calm=true) (PB:X.N.Nodup) (XV:Inv X WP ZB H s) (hi:PI X tg bx Qb) (ok:mh X.N X.env.scope scope own)
  (hg:∀(s:Go) (H:Hp) (C:WF) (cl:List (Str×WF)) (fp:List WF),PG (X.cW s H scope (ff scope cl C X.env) fp) tg g) (PR:∀(s:Go) (H:Hp) (C:WF) (cl:List (Str×WF)) (fp:List WF),mv (X.cW s H scope (ff scope cl C X.env) fp) OY P9)
  (PJ:∀(s:Go) (H:Hp) (C:WF) (cl:List (Str×WF)) (fp:List WF),PE (X.cW s H scope (ff scope cl C X.env) fp) OV te) (PN:∀x,rZ bx X.env x=pure x)
  (h:lH Qb g P9 te (own.map (·.2)) ZB H Q)
  (PF:∀D C s' m I,Inv X WP ZB I s'->Q (.ref D) I->s'.heap.Ns C m->fo X WP I C->wZ (AT X.prog X.w) X.A X.xe use Qf (.ref D) C (.ok .next) s'):
  wpAny (AT X.prog X.w) X.A (Dj (.ListComp OV [⟨tg,bx,OY,0⟩] scope pos) scope X.env eN (newList []) false (eval bx X.env) use) Qf X.xe s:=by(
have PK:∀y∈scope.names,y.2=.free->∃c,X.env.cells.lookup y.1=some c:=λy OX e=>by
 rcases ok.free y OX e with k|k
 ·exact XV.ok.has _ (.inl k)
 ·exact XV.ok.has _ (.inr k)
refine wpAny_comprehension_free (use:=use) rfl PN (FJ PK) ok.kind (λy OX e=>by rw[ok.uniq y OX,e])
 (wP (hi WP s ZB H _ XV h) λB Qr PU=>wP PU λQq J h2=>?_)
obtain⟨Pc,fp,OT,Qo,H2,e,O4,T,Pj,O7,q⟩:=h2;subst e;refine nQ (I3 ?_) (by show 0<=Gc;decide);generalize OQ:J.heap.objs.size=D;have Pz:H2 D=none:=O4.ag.fresh (ku OQ);obtain⟨W,⟨PY,Pm⟩,turn⟩:=q D Pz;generalize Pa:({J with heap:=J.heap.push {cls:=.type "list",data:=.seq ([]:List Tk).toArray}}:Go)=a;have OM:Inv X WP ZB (Uf H2 D (.lst [])) a:=by
 rw[<- Pa];refine O4.laid (t':=J.toks) (λb o e=>ln _ e) (ku OQ) ⟨f4 _,[],0,.nil,?_⟩;rw[<- OQ];exact bc _ rfl
have O8:a.heap=J.heap.push {cls:=.type "list",data:=.seq ([]:List Tk).toArray}:=by rw[<- Pa]
have sz:∀b∈fp,b<J.heap.objs.size:=λb d=>by
 obtain⟨o,e,_⟩:=T.obj _ _ Pj b d;exact cr e
have E:∀b∈fp,fo X WP (Uf H2 D (.lst [])) b/\b<a.heap.objs.size:=λb d=>by
 have O_:=sz b d;refine⟨⟨?_,(O7 b d).2⟩,by rw[O8,cU];exact l3 O_⟩;rw[UF (by rw[<- OQ];exact cb O_)];exact(O7 b d).1
have P7:OT 0 a.heap:=T.keep _ _ _ Pj λb _ o e=>by rw[O8];exact ln _ e
have ON:=Ft OM ok PB E;have pg:=hg a (Uf H2 D (.lst [])) a.heap.objs.size (cJ (a.heap.objs.size+1) scope.names (cF X.env.cells scope.names [])) fp;have pt:=PR a (Uf H2 D (.lst [])) a.heap.objs.size (cJ (a.heap.objs.size+1) scope.names (cF X.env.cells scope.names [])) fp;have OZ:=PJ a (Uf H2 D (.lst [])) a.heap.objs.size (cJ (a.heap.objs.size+1) scope.names (cF X.env.cells scope.names [])) fp;show codeAny _ _ (.compStart (.ListComp OV [⟨tg,bx,OY,0⟩] scope pos) 0 (.ref Pc) (.ref D) (ff scope (cJ (a.heap.objs.size+1) scope.names (cF X.env.cells scope.names [])) a.heap.objs.size X.env)) (wZ (AT X.prog X.w) X.A X.xe use Qf (.ref D) a.heap.objs.size) {a with heap:=i9 (a.heap.push {cls:=.type "dict",data:=.dict #[]}) scope.names};have Pe:∀b∈fp,(Uf H2 D (.lst [])) b=none:=λb d=>(E b d).1.1;generalize PH:ff scope (cJ (a.heap.objs.size+1) scope.names (cF X.env.cells scope.names [])) a.heap.objs.size X.env=f at ON pg pt OZ⊢;have O6:f.locals=a.heap.objs.size:=by subst PH;rfl
generalize Qp:Uf H2 D (.lst [])=l at OM ON pg pt OZ Pm Pe E;generalize PQ:({a with heap:=i9 (a.heap.push {cls:=.type "dict",data:=.dict #[]}) scope.names}:Go)=Pg at ON⊢;have Pk:OT 0 Pg.heap:=T.keep _ _ _ P7 λb _ o e=>by rw[<- PQ];exact r3 _ _ _ _ (ln _ e)
have O2:∀ {Pn:St}{I:Hp}{s':Go},Inv (X.cW a l scope f fp) [] Pn I s'->(∀b∈fp,I b=none)->∀b∈fp,fo (X.cW a l scope f fp) [] I b:=λ{Pn I s'} L Y b d=>
 ⟨Y b d,(L.ok.o5 b d).1,L.ok.mJ b d,.inl d,λx c e=>(L.ok.o5 b d).2 x c e,λp PM=>absurd (show p∈([]:List (WF×Obj))++[] from PM) (by simp)⟩
have Pd:codeAny (AT X.prog X.w) X.A (.compLoop (.ListComp OV [⟨tg,bx,OY,0⟩] scope pos) 0 (.ref Pc) (.ref D) f) (wZ (AT X.prog X.w) X.A X.xe use Qf (.ref D) a.heap.objs.size) Pg:=by
 refine FL (λn s'=>∃i I,Inv (X.cW a l scope f fp) [] (nm ZB (own.map (·.2))) I s'/\OT i s'.heap/\(∀b∈fp,I b=none)/\W i n I) ?_ PY ⟨0,l,ON,Pk,Pe,Pm⟩;rintro n Ph ⟨i,t,OO,Pl,n5,Qa⟩;rcases turn i n t Qa with⟨stop,P1⟩|⟨go,Pw,PD,step⟩
 ·have td:=T.done (X.cW a l scope f fp) rfl rfl rfl O9 i [] Ph _ t (λ_ _=>False) OO (O2 OO n5) Pl stop;refine lK td λr OS Qd=>?_;obtain⟨OW,U⟩:=Qd;subst OW;have OP:Inv X WP ZB t OS:=OM.FE (ch:=fp) U.os U.base U.ag U.bare λb d=>⟨(E b d).1.2.2.2.1,(E b d).1.2.1,(E b d).1.2.2.2.2.1,(E b d).1.2.2.2.2.2⟩;have PZ:t a.heap.objs.size=none:=by
   have z:t f.locals=none:=U.free;rw[O6]at z;exact z
  obtain⟨m,Y,_⟩:=U.loc;have Y:OS.heap.Ns f.locals m:=Y;rw[O6]at Y;exact PF D a.heap.objs.size OS m t OP P1 Y (OM.kZ (tz _) PZ)
 ·have P8:=T.item (X.cW a l scope f fp) rfl rfl rfl O9 i [] Ph _ t (λ_ _=>False) OO (O2 OO n5) Pl go;refine lK P8 λr OS Qe=>?_;obtain⟨u,OW,Px⟩:=Qe;subst OW;refine lK Px λ_ O0 Qg=>Do Qg λx O3 OP P4 Qk=>?_;obtain⟨Qc,O1,n7⟩:=Qk;have Pt:=OP.pinned (O2 OP n7) (T.obj _ _ O1);refine lK (pg _ O0 _ O3 x u _ Pt P4 (step x O3 Qc)) λ_ P5 Qh=>uM Qh λOU Po Pu Ql=>?_;obtain⟨Pb,P0⟩:=Ql;refine lK (pt _ P5 OU Po _ Pu P0) λb P6 Qi=>jY Qi λPp O5 OR=>?_;have fin:∀ {s':Go}{I:Hp},Inv (X.cW a l scope f fp) ([]++nq fp O0.heap) OU I s'->Pw I->∃m,m<n/\∃i I,Inv (X.cW a l scope f fp) [] (nm ZB (own.map (·.2))) I s'/\OT i s'.heap/\(∀b∈fp,I b=none)/\W i m I:=λ{s' I} L nx=>by
   obtain⟨PX,hm,P_⟩:=PD I nx;have Pf:∀b∈fp,∀o,O0.heap.get? b=some o->s'.heap.get? b=some o/\I b=none:=λb d o e=>
    let z:=L.pin (b,o) (fY _ (fY _ (uB d e)))
    ⟨z.1,z.2.1⟩
   have PL:(nm ZB (own.map (·.2))).length=OU.length:=by rw[<- Pb,v9]
   refine⟨PX,hm,i+1,I,(L.rD (WP:=[])).weak PL (λj v e=>?_),T.keep _ _ _ O1 λb d o e=>(Pf b d o e).1,λb d=>?_,P_⟩
   ·rw[<- Pb]at e;exact(v_ e).1
   ·obtain⟨o,e,_⟩:=T.obj _ _ O1 b d;exact(Pf b d o e).2
  cases b with
  |false=>
   simp only[fX,aK]at OR⊢;exact fin O5 OR
  |true=>
   simp only[a9]at OR⊢;refine lK (OZ _ P6 OU Pp _ O5 OR) λz Qs Qj=>Do Qj λQu Qn Pq P2 Qm=>?_;obtain⟨acc,Py,PV,nx⟩:=Qm;exact Fi (X:=X.cW a l scope f fp) Pq Py PV P2 λQt Pr=>fin Pr nx
exact codeAny_compStart_list Pd (T.self X.A 0 _ _ _ Pk Pd))
theorem iV {a tg bx:s5}{c:List s5}{scope:d_}{own:List (Str×Nat)}{pos:Pos}{i:TI}{g:TG}{d:TT}{te:TE}(w:X.calm=true) (t:X.N.Nodup) (hi:PI X tg bx i) (ok:mh X.N X.env.scope scope own)
  (hg:∀(s:Go) (H:Hp) (C:WF) (cl:List (Str×WF)) (fp:List WF),PG (X.cW s H scope (ff scope cl C X.env) fp) tg g) (E:∀(s:Go) (H:Hp) (C:WF) (cl:List (Str×WF)) (fp:List WF),mv (X.cW s H scope (ff scope cl C X.env) fp) c d)
  (y:∀(s:Go) (H:Hp) (C:WF) (cl:List (Str×WF)) (fp:List WF),PE (X.cW s H scope (ff scope cl C X.env) fp) a te) (A:∀x,rZ bx X.env x=pure x:=by intro _;rfl):
  PE X (.ListComp a [⟨tg,bx,c,0⟩] scope pos) (lH i g d te (own.map (·.2))):=by
 intro WP s ZB H Q XV h;rw[eval_ListComp];refine zU w t XV hi ok hg E y A h λD C s' m I j q z f=>⟨m,z,λT J=>?_⟩;obtain⟨k,l,L,n,p,r⟩:=f;exact⟨.ref D,I,j.turned (t':=s'.toks) (λb o u e=>(J.2 b u).trans e) k l n p r,O,q⟩
theorem p6 {i:Nat}{y:Str}{j:Pos}{d tg bx:s5}{c:List s5}{scope:d_}{own:List (Str×Nat)}{pos u:Pos}{l:TI}{g:TG}{k:TT}{te:TE}(ON:X.calm=true) (r:X.N.Nodup) (OU:X.N[i]?=some y) (t:X.env.scope.names.lookup y=some .local)
  (OS:lS (.ListComp d [⟨tg,bx,c,0⟩] scope pos) (some (.Name y j)) u.line X.env=pure true) (hi:PI X tg bx l) (ok:mh X.N X.env.scope scope own)
  (hg:∀(s:Go) (H:Hp) (C:WF) (cl:List (Str×WF)) (fp:List WF),PG (X.cW s H scope (ff scope cl C X.env) fp) tg g) (OT:∀(s:Go) (H:Hp) (C:WF) (cl:List (Str×WF)) (fp:List WF),mv (X.cW s H scope (ff scope cl C X.env) fp) c k)
  (OO:∀(s:Go) (H:Hp) (C:WF) (cl:List (Str×WF)) (fp:List WF),PE (X.cW s H scope (ff scope cl C X.env) fp) d te) (OR:∀x,rZ bx X.env x=pure x:=by intro _;rfl):
  PS X (.Assign [.Name y j] (.ListComp d [⟨tg,bx,c,0⟩] scope pos) u) (h3 (lH l g k te (own.map (·.2))) (bh i)):=by(
intro WP s ZB H D XV h;rw[exec_Assign_Name_used _ _ _ _ OS];refine IR (wH (IR ?_));show wpAny _ X.A (do let _ <-Dj (.ListComp d [⟨tg,bx,c,0⟩] scope pos) scope X.env (firstIterPos [⟨tg,bx,c,0⟩] pos) (newList []) false (eval bx X.env) (some (km (.Name y j) X.env))) _ _ s;have h:lH l g k te (own.map (·.2)) ZB H (λx H1=>bh i x ZB H1 D.nx):=h;refine IR (wP (zU (Qf:=λ_ s'=>SP X WP D .next s') ON r XV hi ok hg OT OO OR h λL C s' m I w q OP f=>?_) λ_ s' OQ=>t3 (t3 OQ));show wpAny _ _ (km (.Name y j) X.env (.ref L)) _ _ _;refine C1 (BA (v:=W1.ref L) w r OU (.inl t) rfl (λOV E OY=>?_) (.inr t));obtain⟨a,OW,U⟩:=OY;obtain⟨J,n,OZ,Q,p,T⟩:=f;have Y:C≠a:=by
 rcases U with z|z
 ·rw[z];exact n
 ·exact λe=>p y a z e.symm
refine⟨m,OP.sameBut OW Y,λO0 OX=>?_⟩;exact⟨_,I,E.turned (t':=OV.toks) (λb o OM e=>(OX.2 b OM).trans e) J n Q p T,q⟩)
end
theorem mT{K:wf}{g:TG}{n:TT}{te:TE}{j:Hp->Prop}(Pv:Nat->Hp->Prop) (h0:Pv 0 (Uf H1 D (.lst []))) (o:∀i H,i<=xs.length->Pv i H->TD K H a xs)
  (r:∀i x H,xs[i]?=some x->Pv i H->g x (nm ZB vs) H λc H2=>nm c vs=nm ZB vs/\n c H2 λb d=>
   if b=true then te c d λy f=>∃acc,f D=some (.lst acc)/\acc.length<Gc/\Pv (i+1) (Uf f D (.lst (acc++[y])))else Pv (i+1) d) (hd:∀H,Pv xs.length H->j H):
  ∃W:Nat->Nat->Hp->Prop,(∃m,W 0 m (Uf H1 D (.lst [])))/\∀i m H,W i m H->
   ((cO K a).stop i H/\j H)\/((cO K a).go i H/\∃h:Hp->Prop,(∀I,h I->∃l,l<m/\W (i+1) l I)/\∀x I,(cO K a).eQ i H x I->g x (nm ZB vs) I λc H2=>nm c vs=nm ZB vs/\n c H2 λb d=>
    if b=true then te c d λy f=>∃acc,f D=some (.lst acc)/\acc.length<Gc/\h (Uf f D (.lst (acc++[y])))else h d):=by(
refine⟨λi m H=>m=xs.length-i/\i<=xs.length/\Pv i H,⟨xs.length,by simp,f4 _,h0⟩,?_⟩;rintro i m H ⟨rfl,hi,p⟩;have q:=o i H hi p;by_cases k:i<xs.length
·refine .inr ⟨⟨xs,xs[i],q,by simp[k]⟩,Pv (i+1),λI s=>⟨xs.length-(i+1),by lia,O,k,s⟩,λx I y=>?_⟩;obtain⟨e,y⟩:=y;subst e;exact r i x _ (y xs q) p
·have e:i=xs.length:=by lia
 subst e;exact .inl ⟨⟨xs,q,tz _⟩,hd H p⟩)
noncomputable def yB (N:List Str) (a scope:d_) (own:List (Str×Nat)):Bool:=
 (match scope.kind with|.function=>true|_=>false)&&(scope.names.all λy=>decide (scope.names.lookup y.1=some y.2))&&(own.all λp=>decide (N[p.2]?=some p.1))&&
  (scope.names.all λy=>match y.2 with
   |.free=>(match a.names.lookup y.1 with|some .cell=>true|some .free=>true|_=>false)
   |.local=>decide (y.1∈own.map (·.1))||decide (y.1∉N)
   |.cell=>decide (y.1∈own.map (·.1))||decide (y.1∉N)
   |_=>true)
theorem fx(h:yB N d scope own=true):mh N d scope own:=by(
unfold yB at h;simp only[ev,hp,dL]at h;obtain⟨⟨⟨h1,h2⟩,c⟩,b⟩:=h;refine⟨?_,h2,c,λy a e=>?_,λy a e=>?_⟩
·split at h1
 ·assumption
 ·cases h1
·have q:=b y a;simp only[e]at q;split at q<;>first|exact .inl (by assumption)|exact .inr (by assumption)|cases q
·have q:=b y a;rcases e with e|e<;>(simp only[e,hj,dL]at q;exact q))
section
variable {κ:Type} [DecidableEq κ]
noncomputable def io (T0:List (κ×W1)) (k:κ):Option W1:=(T0.find? λa=>decide (a.1=k)).map (·.2)
noncomputable def aC (T0:List (κ×W1)) (k:κ) (v:W1):List (κ×W1):=
 if(T0.any λa=>decide (a.1=k))=true then T0.map (λa=>if a.1=k then(a.1,v)else a)else T0++[(k,v)]
theorem Nc:io ([]:List (κ×W1)) k=none:=rfl
theorem fO{k:κ}(e:p.1=k):io (p::r) k=some p.2:=by simp[io,kD,e]
theorem fN{k:κ}(e:¬p.1=k):io (p::r) k=io r k:=by simp[io,kD,e]
theorem ke (k:κ):∀T0:List (κ×W1),(T0.any λa=>decide (a.1=k))=(io T0 k).isSome
 |[]=>rfl
 |p::r=>by
  rw[rS];by_cases e:p.1=k
  ·simp only[fO e,sK e,Bool.true_or,DT]
  ·rw[fN e,sn e,DK];exact ke k r
theorem BX (k j:κ) (y:W1):∀T0:List (κ×W1),io (T0.map λa=>if a.1=k then(a.1,y)else a) j=(io T0 j).map λx=>if j=k then y else x
 |[]=>rfl
 |p::r=>by
  have b:=BX k j y r;rw[m0];by_cases h:p.1=k
  ·rw[No h];by_cases e:p.1=j
   ·rw[fO (p:=(p.1,y)) e,fO e,ik,No (e.symm.trans h)]
   ·rw[fN (p:=(p.1,y)) e,fN e,b]
  ·rw[Ps h];by_cases e:p.1=j
   ·rw[fO (p:=p) e,fO e,ik,Ps (λz=>h (e.trans z))]
   ·rw[fN (p:=p) e,fN e,b]
theorem BZ (k j:κ) (y:W1):∀T0:List (κ×W1),io T0 k=none->io (T0++[(k,y)]) j=if j=k then some y else io T0 j
 |[],_=>by
  by_cases e:k=j
  ·rw[No e.symm];exact fO (p:=(k,y)) e
  ·rw[Ps (λz=>e z.symm)];exact fN (p:=(k,y)) e
 |p::r,a=>by
  rw[mc];have b:¬p.1=k:=λz=>by rw[fO z]at a;cases a
  rw[fN b]at a;have c:=BZ k j y r a;by_cases e:p.1=j
  ·rw[fO e,fO e,Ps (λz=>b (e.trans z))]
  ·rw[fN e,fN e,c]
theorem kf (T0:List (κ×W1)) (k j:κ) (y:W1):io (aC T0 k y) j=if j=k then some y else io T0 j:=by(
unfold aC;by_cases a:(T0.any λc=>decide (c.1=k))=true
·rw[No a,BX];rw[ke]at a;by_cases e:j=k
 ·obtain⟨x,b⟩:=DQ.mp a;rw[No e,e,b,ik,No rfl]
 ·rw[Ps e];cases io T0 j with
  |none=>rfl
  |some x=>rw[ik,Ps e]
·rw[Ps a];refine BZ k j y T0 ?_;rw[ke]at a;cases q:io T0 k with
 |none=>rfl
 |some x=>rw[q]at a;exact(a rfl).elim)
theorem uv (T0:List (κ×W1)) (k:κ) (v:W1):(aC T0 k v).length<=T0.length+1:=by(
unfold aC;split
·rw[FM];lia
·rw[ls,bt,kC];lia)
theorem dg.uo(r:dg o u):o.isSome=u.isSome:=by(
cases o with
|none=>cases u with
 |none=>rfl
 |some _=>exact(show False from r).elim
|some _=>cases u with
 |none=>exact(show False from r).elim
 |some _=>rfl)
theorem dg.getD(r:dg o u) (a:RelV d d'):RelV (o.getD d) (u.getD d'):=by(
cases o with
|none=>cases u with
 |none=>exact a
 |some _=>exact(show False from r).elim
|some _=>cases u with
 |none=>exact(show False from r).elim
 |some _=>exact r)
theorem KV.val(r:KV T0 vs) (k:κ):dg (io T0 k) (ia vs k):=by(
unfold KV at r
induction r with
|nil=>exact True.intro
|@cons p q ps c h t d=>
 obtain⟨h1,h2⟩:=h;by_cases e:p.1=k
 ·have a:q.1=k:=h1.symm.trans e;have b:ia (q::c) k=some q.2:=by simp[ia,kD,a]
  rw[fO e,b];exact h2
 ·have a:¬q.1=k:=λz=>e (h1.trans z);have b:ia (q::c) k=ia c k:=by simp[ia,kD,a]
  rw[fN e,b];exact d)
theorem KV.any(r:KV T0 vs) (k:κ):(T0.any λa=>decide (a.1=k))=vs.any λa=>decide (a.1=k):=by(
unfold KV at r
induction r with
|nil=>rfl
|cons h t b=>rw[rS,rS,b,h.1])
theorem KV.u6(r:KV T0 vs) (k:κ) (c:RelV y u):
  KV (T0.map λa=>if a.1=k then(a.1,y)else a) (vs.map λa=>if a.1=k then(a.1,u)else a):=by(
unfold KV at r⊢
induction r with
|nil=>exact .nil
|@cons p q ps d h t b=>
 rw[m0,m0];refine .cons ?_ b;obtain⟨h1,h2⟩:=h;by_cases e:p.1=k
 ·rw[No e,No (h1.symm.trans e)];exact⟨h1,c⟩
 ·rw[Ps e,Ps (λz=>e (h1.trans z))];exact⟨h1,h2⟩)
theorem KV.put(r:KV T0 vs) (k:κ) (a:RelV y u):KV (aC T0 k y) (w6 vs k u):=by(
unfold aC w6;rw[r.any k];by_cases e:(vs.any λb=>decide (b.1=k))=true
·rw[No e,No e];exact r.u6 k a
·rw[Ps e,Ps e];exact Paired.snoc r ⟨O,a⟩)
theorem KV.length{vs:List (κ×Tk)}(r:KV T0 vs):T0.length=vs.length:=Paired.length r
end
theorem iQ(r:RelV (kV k) u):(cj P w).is k u=true:=by(
cases k with
|inl i=>obtain⟨t,e⟩:=(show ∃t,u=il i t from r);subst e;exact IJ P w i t
|inr x=>obtain⟨t,e⟩:=(show ∃t,u=Value.str x t from r);subst e;exact IK P w x t)
theorem zB:∀ {ks:List sw}{us:List Tk},ww (ks.map kV) us->ItemsAre (cj P w) ks us
 |[],_,r=>by rw[hr]at r;cases r;exact .nil
 |k::ks,_,r=>by
  rw[m0]at r;cases r with
  |cons h t=>exact .cons (iQ h) (zB t)
abbrev KT (H:Hp):List (List sw×W1)->List (List sw×WF×Tk)->Prop:=Paired λp q=>p.1=q.1/\H q.2.1=some (.tup (p.1.map kV))/\RelV p.2 q.2.2
theorem KT.val(r:KT H T0 xs) (k:List sw):dg (io T0 k) ((ib xs k).map (·.2)):=by(
induction r with
|nil=>exact True.intro
|@cons p q ps c h t d=>
 obtain⟨h1,_,h2⟩:=h;by_cases e:p.1=k
 ·have a:q.1=k:=h1.symm.trans e;have b:ib (q::c) k=some q.2:=by simp[ib,kD,a]
  rw[fO e,b];exact h2
 ·have a:¬q.1=k:=λz=>e (h1.trans z);have b:ib (q::c) k=ib c k:=by simp[ib,kD,a]
  rw[fN e,b];exact d)
theorem KT.u6(r:KT H T0 xs) (k:List sw) (d:RelV y u):
  KT H (T0.map λa=>if a.1=k then(a.1,y)else a) (xs.map (putAt k u)):=by(
induction r with
|nil=>exact .nil
|@cons p q ps f h t c=>
 rw[m0,m0];refine .cons ?_ c;obtain⟨h1,h2,b⟩:=h;unfold putAt;by_cases e:p.1=k
 ·rw[No e,No (h1.symm.trans e)];exact⟨h1,h2,d⟩
 ·rw[Ps e,Ps (λz=>e (h1.trans z))];exact⟨h1,h2,b⟩)
theorem KT.put(r:KT H T0 xs) (k:List sw) (c:H b=some (.tup (k.map kV))) (a:RelV y u):
  KT H (aC T0 k y) (storedH xs k b u):=by(
have e:(T0.any λd=>decide (d.1=k))=(ib xs k).isSome:=by
 rw[ke,(r.val k).uo,DU]
unfold aC storedH;rw[e];by_cases q:(ib xs k).isSome=true
·rw[No q,No q];exact r.u6 k a
·rw[Ps q,Ps q];exact Paired.snoc r ⟨O,c,a⟩)
theorem KT.keeps(r:KT H T0 xs) (a:∀b ys,H b=some (.tup ys)->I b=some (.tup ys)):KT I T0 xs:=
 Paired.Ab r λ_ _ z=>⟨z.1,a _ _ z.2.1,z.2.2⟩
section
variable {P:fr}{w:kw}{H:Hp}{h:s2}{a:WF}
theorem AU(ok:aV P w H h) (e:Rd H a u):bA P w H h a u:=e.ok ok
theorem kR(ok:aV P w H h) (e:Rd H a (.dK T0)):T0.length<=Gc/\(a==eS)=false/\∃vs,KV T0 vs/\h.DictOf (cj P w) a vs:=
 show bA P w H h a (.dK T0) from AU ok e
theorem y3(ok:aV P w H h) (e:H a=some (.dK T0)):T0.length<=Gc/\(a==eS)=false/\∃vs,KV T0 vs/\h.DictOf (cj P w) a vs:=kR ok (.inl e)
theorem mR(ok:aV P w H h) (e:H a=some (.tup (ks.map kV))):(lR (cj P w)).is h ks a:=by
 obtain⟨_,Op,r,o,h1,h2,n,b⟩:=(show bA P w H h a (.tup (ks.map kV)) from ok a _ e);exact⟨o,Op.toArray,n,h1,h2,b,by simpa using zB r⟩
theorem kS(ok:aV P w H h) (e:Rd H a (.dT T0)):T0.length<=Gc/\(a==eS)=false/\
  ∃xs,KT H T0 xs/\h.DictOfH (lR (cj P w)) a xs:=by(
obtain⟨z,y,xs,r,o,es,ep,h1,h2,d,f,g⟩:=(show bA P w H h a (.dT T0) from AU ok e);refine⟨z,y,xs,r,o,es,ep,h1,h2,d,f,λx b=>?_,g⟩;have all:∀ {l:List (List sw×W1)}{m:List (List sw×WF×Tk)},KT H l m->∀x∈m,(lR (cj P w)).is h x.1 x.2.1:=by
 intro l m q
 induction q with
 |nil=>intro x b;exact nomatch b
 |@cons p q ps j c t i=>
  intro x b;rcases rs.mp b with e|b
  ·subst e;exact mR ok (by rw[<- c.1];exact c.2.1)
  ·exact i x b
exact all r x b)
theorem y6(ok:aV P w H h) (e:H a=some (.dT T0)):T0.length<=Gc/\(a==eS)=false/\
  ∃xs,KT H T0 xs/\h.DictOfH (lR (cj P w)) a xs:=kS ok (.inl e)
end
def cN (H:Hp) (a:WF) (y:W1) (r:Option W1):Prop:=
 (∃T0 k,Rd H a (.dK T0)/\y=kV k/\r=io T0 k)\/∃T0 k b,Rd H a (.dT T0)/\y=.ref b/\H b=some (.tup (k.map kV))/\r=io T0 k
def f7 (H:Hp) (a:WF) (y v:W1) (I:Hp):Prop:=
 (∃T0 k,H a=some (.dK T0)/\y=kV k/\T0.length<Gc/\I=Uf H a (.dK (aC T0 k v)))\/
 ∃T0 k b,H a=some (.dT T0)/\y=.ref b/\H b=some (.tup (k.map kV))/\T0.length<Gc/\I=Uf H a (.dT (aC T0 k v))
theorem cN.k{k:sw}(e:H a=some (.dK T0)):cN H a (kV k) (io T0 k):=.inl ⟨T0,k,.inl e,O,O⟩
theorem cN.t{k:List sw}(e:H a=some (.dT T0)) (c:H b=some (.tup (k.map kV))):cN H a (.ref b) (io T0 k):=.inr ⟨T0,k,b,.inl e,O,c,O⟩
theorem f7.k{k:sw}(e:H a=some (.dK T0)) (b:T0.length<Gc):f7 H a (kV k) v (Uf H a (.dK (aC T0 k v))):=.inl ⟨T0,k,e,O,b,O⟩
theorem f7.t{k:List sw}(e:H a=some (.dT T0)) (c:H b=some (.tup (k.map kV))) (d:T0.length<Gc):
  f7 H a (.ref b) v (Uf H a (.dT (aC T0 k v))):=.inr ⟨T0,k,b,e,O,c,d,O⟩
section
variable {X:Cx}{WP:List (WF×Obj)}{ZB:St}{H:Hp}{s:Go}{a:WF}{y v:W1}{u r:Tk}{o:Option W1}{A:bJ}{E:Tk->Go->Prop}
theorem Inv.big (XV:Inv X WP ZB H s):eS<s.heap.objs.size:=by
 have h:cS<s.heap.objs.size:=(XV.mod.glob.keeps XV.bk).lt;exact jd (by decide) h
theorem FX(hu:A.units+1<cT) (XV:Inv X WP ZB H s) (g:cN H a y (some v)) (m:RelV y u) (h:∀c s',Inv X WP ZB H s'->RelV v c->Q c s'):
  wpAny (AT X.prog X.w) A (lU (.ref a) u) Q E s:=by(
rcases g with⟨T0,k,e,f,l⟩|⟨T0,k,b,e,f,n,l⟩
·subst f;obtain⟨z,hd,vs,i,d⟩:=kR XV.ag e;obtain⟨c,hw,j⟩:=dg.some_of (v:=v) (o:=ia vs k) (by rw[l];exact i.val k);exact C5 (iQ m) d.mapOf hw (h c _ (XV.tok _) j)
·subst f;cases(show u=em b from m);obtain⟨z,hd,xs,i,d⟩:=kS XV.ag e;obtain⟨c,hw,j⟩:=dg.some_of (v:=v) (o:=(ib xs k).map (·.2)) (by rw[l];exact i.val k);obtain⟨p,q,t⟩:=DS.mp hw;refine wpAny_getItem_heap (rY hu) (mR XV.ag n) d q ?_;rw[t];exact h c _ (XV.tok _) j)
theorem FY(hu:A.units+1<cT) (XV:Inv X WP ZB H s) (g:cN H a y o) (i:RelV y u) (h:∀s',Inv X WP ZB H s'->Q (.bool (!o.isSome)) s'):
  wpAny (AT X.prog X.w) A (dR .NotIn u (.ref a)) Q E s:=by(
rcases g with⟨T0,k,e,d,l⟩|⟨T0,k,b,e,d,j,l⟩
·subst d;obtain⟨z,hd,vs,f,c⟩:=kR XV.ag e;refine wpAny_notIn_of (iQ i) hd c.mapOf ?_;rw[<- (f.val k).uo,<-l];exact h _ (XV.tok _)
·subst d;cases(show u=em b from i);obtain⟨z,hd,xs,f,c⟩:=kS XV.ag e;refine wpAny_notIn_heap (rY hu) (mR XV.ag j) hd c ?_;have q:=(f.val k).uo;rw[DU]at q;rw[<- q,<-l];exact h _ (XV.tok _))
theorem o2(XV:Inv X WP ZB H s) (g:iz (H a)) (f:lX a s.heap h') (d:∃q,h'.get? a=some q) (new:bA X.prog X.w (Uf H a ob) h' a ob):
  Inv X WP ZB (Uf H a ob) {s with heap:=h',toks:=t'}:=
 XV.write (x:=a) (e:=a) g (.inl rfl) (λb q c z=>(f.2 b c).trans z) d new
theorem y2(z:T0.length<=Gc) (hd:(a==eS)=false) (c:KV T0 vs) (b:h'.DictOf (cj P w) a vs):
  bA P w I h' a (.dK T0):=⟨z,hd,vs,c,b⟩
theorem FZ(hu:A.units+1<cT) (XV:Inv X WP ZB H s) (g:f7 H a y v I) (J:RelV y u) (D:RelV v r) (h:∀s',Inv X WP ZB I s'->Q () s'):
  wpAny (AT X.prog X.w) A (w1 (.ref a) u r) Q E s:=by(
rcases g with⟨T0,k,e,n,l,m⟩|⟨T0,k,b,e,n,x,l,m⟩
·subst n m;obtain⟨z,hd,vs,d,j⟩:=y3 XV.ag e;have hz:vs.length<=Gc:=by rw[<- d.length];exact z
 have p:(aC T0 k v).length<=Gc:=by have:=uv T0 k v;lia
 refine wpAny_setItem_pairs (hsz:=hz) (iQ J) j λh' f t=>h _ ?_;have U:∃q,h'.get? a=some q:=let ⟨q,_,_,i,_⟩:=f;⟨q,i⟩;exact o2 XV (by rw[e];exact True.intro) t U (y2 p hd (d.put k D) f)
·subst n m;cases(show u=em b from J);obtain⟨z,hd,xs,d,j⟩:=y6 XV.ag e;have hz:xs.length<=Gc:=by rw[<- Paired.length d];exact z
 have p:(aC T0 k v).length<=Gc:=by have:=uv T0 k v;lia
 refine wpAny_setItem_heap (hsz:=hz) (rY hu) (mR XV.ag x) j λh' f t=>h _ ?_;obtain⟨q,es,ep,i,h2,L,N,_,T⟩:=f;refine o2 XV (by rw[e];exact True.intro) t ⟨q,i⟩ ⟨p,hd,_,(d.put k x D).keeps λc ys C=>?_,q,es,ep,i,h2,L,N,T⟩;rw[UF (Ae C e (λz=>nomatch z))];exact C)
end
def s9 (i:s5):Prop:=∀ov a,r' i false ov a=w3 [ov,a] (lU ov a)
theorem BB{id:String}
  (f:Du (.type T) "__getitem__"=pure (some (.builtin id))) (g:s9 c)
  (h:wpAny (AT prog w) A (eval d7 env) (λo d=>wpAny (AT prog w) A (eval c env) (λi a=>a.TypeIs o T/\wpAny (AT prog w) A (lU o i) Q E a) E d) E s):
  wpAny (AT prog w) A (eval (.Subscript d7 c pos) env) Q E s:=by(
refine sM (eT h (λo d j=>eT j (λi a b=>?_) λ_ _ x=>x) λ_ _ x=>x);obtain⟨hT,b⟩:=b;unfold sJ;refine IR ?_;rw[getitemInPython_of_ne hT.not_modules];refine IR (wpAny_specialOf hT f ?_);have fin:wpAny (AT prog w) A (r' c false o i) (λr e=>wpAny (AT prog w) A (letTemporaryGo d7 o r >>= λ_=>pure r) Q E e) E a:=by
 rw[g o i];exact wpAny_operating (eT b (λr e k=>IR (wpAny_letTemporaryGo (t3 k))) λ_ _ x=>x)
first
 |exact t3 (IR fin)
 |exact IR (t3 (IR fin))
 |exact IR fin)
theorem F6{ZB:St}(XV:Inv X WP ZB H s) (g:cN H a y o):s.TypeIs (.ref a) "dict":=by(
rcases g with⟨T0,k,e,_,_⟩|⟨T0,k,b,e,_,_,_⟩
·obtain⟨_,_,vs,_,c⟩:=kR XV.ag e;exact c.typeIs
·obtain⟨_,_,xs,_,c⟩:=kS XV.ag e;exact c.typeIs)
def MH (td ty:TE):TE:=λZB H Q=>td ZB H λx H1=>ty ZB H1 λy H2=>∃a v,x=.ref a/\cN H2 a y (some v)/\Q v H2
def ML (ty td:TE):TE:=λZB H Q=>ty ZB H λy H1=>td ZB H1 λx H2=>∃a o,x=.ref a/\cN H2 a y o/\Q (.bl (!o.isSome)) H2
def LR (td ty tv:TE):TS:=λD ZB H=>tv ZB H λv H1=>td ZB H1 λx H2=>ty ZB H2 λy c=>∃a b,x=.ref a/\f7 c a y v b/\D.nx ZB b
section
variable {X:Cx}{o i e d7:s5}{pos eN lM:Pos}{td ty tv:TE}
theorem uS (hu:X.A.units+1<cT) (f:PE X o td) (hi:PE X i ty) (j:s9 i):PE X (.Subscript o i pos) (MH td ty):=by
 intro WP s ZB H Q XV h;refine BB DL.lookup j (wP (f WP s ZB H _ XV h) λu q r=>Do r λx H1 c n k=>wP (hi WP q ZB H1 _ c k) λz C t=>Do t λy H2 b p w=>?_);obtain⟨a,v,ex,g,l⟩:=w;subst ex;obtain rfl:u=em a:=n;exact⟨F6 b g,FX hu b g p λE D d m=>⟨v,H2,d,m,l⟩⟩
theorem AB (hu:X.A.units+1<cT) (hi:PE X i ty) (f:PE X o td):PC X .NotIn i o (ML ty td):=by
 intro WP s ZB H Q XV h;refine wP (hi WP s ZB H _ XV h) λt n p=>Do p λy H1 b m j=>wP (f WP n ZB H1 _ b j) λu w q=>Do q λx H2 c l r=>?_;obtain⟨a,ov,ex,g,k⟩:=r;subst ex;obtain rfl:u=em a:=l;exact FY hu c g m λz d=>⟨.bl (!ov.isSome),H2,d,O,k⟩
theorem nr (hu:X.A.units+1<cT) (k:PE X o td) (hi:PE X i ty) (hv:PE X d7 tv) (l:lS d7 (some (.Subscript o i eN)) pos.line X.env=pure false):
  PS X (.Assign [.Subscript o i eN] d7 pos) (LR td ty tv):=by
 intro WP s ZB H D XV h;refine wpAny_Assign_Subscript (wP (hv WP s ZB H _ XV h) λr z E=>Do E λv H1 c q m=>wP (k WP z ZB H1 _ c m) λu C J=>Do J λx H2 d t n=>wP (hi WP C ZB H2 _ d n) λT U L=>Do L λy Q f w N=>?_) l;obtain⟨a,b,ex,g,p⟩:=N;subst ex;obtain rfl:u=em a:=t;exact FZ hu f g w q λY j=>⟨ZB,b,j,p⟩
end
theorem y1(h:s2) (a:eS<h.objs.size):bA P w H (h.push {cls:=.type "dict",data:=.dict #[]}) h.objs.size (.dK []):=
 ⟨f4 _,lO.mpr (Ne.symm (cb a)),[],.nil,Heap.DictOf.new h⟩
theorem F8(h:s2) (a:eS<h.objs.size):bA P w H (h.push {cls:=.type "dict",data:=.dict #[]}) h.objs.size (.dT []):=
 ⟨f4 _,lO.mpr (Ne.symm (cb a)),[],.nil,_,#[],0,bc _ rfl,⟨O,O,O⟩,O,O,rR⟩
def MJ:TE:=λ_ H Q=>∀p,H p=none->Q (.ref p) (Uf H p (.dK []))
def MK:TE:=λ_ H Q=>∀p,H p=none->Q (.ref p) (Uf H p (.dT []))
section
variable {X:Cx}{pos:Pos}
theorem KL:PE X (.Dict [] [] pos) MJ:=λWP s ZB H Q XV h=>
 C6 ⟨.ref s.heap.objs.size,_,XV.laid (a:=s.heap.objs.size) (o:=.dK []) (t':=s.toks) (λ_ _ q=>ln _ q) (tz _) (y1 s.heap XV.big),O,h _ (XV.ag.fresh (tz _))⟩
theorem AD:PE X (.Dict [] [] pos) MK:=λWP s ZB H Q XV h=>
 C6 ⟨.ref s.heap.objs.size,_,XV.laid (a:=s.heap.objs.size) (o:=.dT []) (t':=s.toks) (λ_ _ q=>ln _ q) (tz _) (F8 s.heap XV.big),O,h _ (XV.ag.fresh (tz _))⟩
end
def vP:List (TE×TE)->St->Hp->(List (W1×W1)->Hp->Prop)->Prop
 |[],_,H,Q=>Q [] H
 |(tk,tv)::r,ZB,H,Q=>tk ZB H λx H1=>tv ZB H1 λy H2=>vP r ZB H2 λps a=>Q ((x,y)::ps) a
abbrev VV:List (W1×W1)->List (Tk×Tk)->Prop:=Paired λp q=>RelV p.1 q.1/\RelV p.2 q.2
def oM (X:Cx) (pos:Pos) (keys:List (Option s5)) (b:List s5) (a:List (TE×TE)):Prop:=
 ∀(WP:List (WF×Obj)) (s:Go) (ZB:St) (H:Hp) (Q:List (W1×W1)->Hp->Prop),Inv X WP ZB H s->vP a ZB H Q->
  wpAny (AT X.prog X.w) X.A (evalPairs (pairTrees keys b X.env pos)) (λvs s'=>∃ps I,Inv X WP ZB I s'/\VV ps vs/\Q ps I) X.xe s
theorem K2:oM X pos [] [] []:=λWP s ZB H Q XV h=>pairTrees_nil_walk ⟨[],H,XV,.nil,h⟩
theorem K1(e:PE X k tk) (hv:PE X v tv) (f:oM X pos ks vs q):
  oM X pos (some k::ks) (v::vs) ((tk,tv)::q):=λWP s ZB H Q XV h=>
 pairTrees_cons_walk (wP (e WP s ZB H _ XV h) λu o r=>Do r λx H1 b m g=>wP (hv WP o ZB H1 _ b g) λA p t=>Do t λy H2 c n i=>
  wP (f WP p ZB H2 _ c i) λC z w=>Do w λps a d l j=>⟨(x,y)::ps,a,d,.cons ⟨m,n⟩ l,j⟩)
noncomputable def k9 (T0 more:List (sw×W1)):List (sw×W1):=more.foldl (λacc a=>aC acc a.1 a.2) T0
theorem KV.merge:∀ {more:List (sw×W1)}{a:List (sw×Tk)}{T0:List (sw×W1)}{vs:List (sw×Tk)},KV more a->KV T0 vs->KV (k9 T0 more) (merged vs a):=by(
intro more a T0 vs r;unfold KV at r
induction r generalizing T0 vs with
|nil=>intro q;exact q
|@cons p q ps d h t b=>
 intro c;have e:KV (aC T0 p.1 p.2) (w6 vs q.1 q.2):=by
  have:=c.put p.1 h.2;rw[<- h.1];exact this
 exact b e)
theorem z1:∀(more T0:List (sw×W1)),(k9 T0 more).length<=T0.length+more.length
 |[],T0=>by show T0.length<=T0.length+0;lia
 |p::r,T0=>by
  have h1:=z1 r (aC T0 p.1 p.2);have h2:=uv T0 p.1 p.2;show(k9 (aC T0 p.1 p.2) r).length<=_;rw[bt];lia
theorem yN:∀ {T0:List (sw×W1)}{f:List (Tk×Tk)},VV (T0.map λe=>(kV e.1,e.2)) f->∃d,Carries (cj P w) f d/\KV T0 d
 |[],_,r=>by rw[hr]at r;cases r;exact⟨[],True.intro,.nil⟩
 |p::T0,_,r=>by
  rw[m0]at r;cases r with
  |@cons a b as bs h t=>
   obtain⟨d,c,q⟩:=yN (P:=P) (w:=w) t;obtain⟨i,g⟩:=b;exact⟨(p.1,g)::d,⟨iQ h.1,O,c⟩,.cons ⟨O,h.2⟩ q⟩
def MM (b:List (TE×TE)):TE:=λZB H Q=>∀p,H p=none->vP b ZB (Uf H p (.dK [])) λps H2=>H2 p=some (.dK [])/\∃T0:List (sw×W1),ps=T0.map (λa=>(kV a.1,a.2))/\T0.length<=15/\Q (.ref p) (Uf H2 p (.dK (k9 [] T0)))
theorem KJ(h:oM X pos keys f C) (k:keys.all (·.isSome)=true) (m:keys.length=f.length) (h0:keys≠[])
  (j:keys.length<=15):PE X (.Dict keys f pos) (MM C):=by(
intro WP s ZB H Q XV q;have n:=XV.ag.fresh (tz s.heap.objs.size);have g:=XV.laid (a:=s.heap.objs.size) (o:=.dK []) (h':=s.heap.push {cls:=.type "dict",data:=.dict #[]}) (t':=s.toks) (λ_ _ q=>ln _ q) (tz _) (y1 s.heap XV.big);refine wpAny_Dict_walk (knd:=cj X.prog X.w) k m h0 j (wP (h WP _ ZB _ _ g (q _ n)) λN J D=>Do D λps H2 b x E=>?_);obtain⟨e,T0,ep,lk,t⟩:=E;subst ep;obtain⟨A,c,y⟩:=yN (P:=X.prog) (w:=X.w) x;obtain⟨z,hd,L,u,i⟩:=y3 b.ag e;cases u;refine⟨A,c,i,λh' d r=>⟨.ref s.heap.objs.size,_,?_,O,t⟩⟩;have hz:(k9 [] T0).length<=Gc:=by
 have h1:=z1 T0 [];rw[kC]at h1;rw[h9];lia
have l:∃q,h'.get? s.heap.objs.size=some q:=let ⟨q,_,_,p,_⟩:=d;⟨q,p⟩;exact o2 b (by rw[e];exact True.intro) r l (y2 hz hd (y.merge .nil) d))
structure M2 (X:Cx) (o:s5) (m:Str) (dA:Pos) (e f:s5) (di:Pos):Prop where
 base:nS o m X.env (eval o X.env)=eval o X.env
 dC:((d9 di (al [e,f] X.env)).all (λx=>!x.1)&&(sg di (r_ [] X.env)).all (λx=>x.1.isSome)
  &&decide (([e,f]:List s5).length+([]:List si).length+(if([]:List si).isEmpty then 0 else 1)<30))=true
 line:(dA.endLine==di.line)=true
 trees:d9 di (al [e,f] X.env)=[(false,eval e X.env),(false,eval f X.env)]
def x' (H:Hp) (a:WF):Prop:=(∃T0,Rd H a (.dK T0))\/∃T0,Rd H a (.dT T0)
theorem Hv{ZB:St}(XV:Inv X WP ZB H s) (d:x' H a):
  s.TypeIs (.ref a) "dict" /\(∀b,em a=.ref b->∃ob,s.heap.get? b=some ob/\ob.dict=none)/\(a==eS)=false:=by(
rcases d with⟨T0,e⟩|⟨T0,e⟩
·obtain⟨_,hd,vs,_,c⟩:=kR XV.ag e;refine⟨c.typeIs,λb q=>?_,hd⟩;cases q;obtain⟨ob,_,_,h1,h2,_⟩:=c;exact⟨ob,h1,h2.2.1⟩
·obtain⟨_,hd,xs,_,c⟩:=kS XV.ag e;refine⟨c.typeIs,λb q=>?_,hd⟩;cases q;obtain⟨ob,_,_,h1,h2,_⟩:=c;exact⟨ob,h1,h2.2.1⟩)
section
variable {X:Cx}{WP:List (WF×Obj)}{ZB:St}{H:Hp}{s:Go}{a:WF}{y d:W1}{u r:Tk}{o:Option W1}{A:bJ}{E:Tk->Go->Prop}
theorem FW(hu:A.units+1<cT) (XV:Inv X WP ZB H s) (g:cN H a y o) (m:RelV y u) (j:RelV d r) (h:∀n s',Inv X WP ZB H s'->RelV (o.getD d) n->Q n s'):
  wpAny (AT X.prog X.w) A (call (.builtin "dict.get") [.ref a,u,r]) Q E s:=by(
rcases g with⟨T0,k,e,f,l⟩|⟨T0,k,b,e,f,p,l⟩
·subst f;obtain⟨z,hd,vs,i,c⟩:=kR XV.ag e;refine Dm xr c.typeIs DP (DO _ _ _) (meets_dict_get_default (cj X.prog X.w) a (iQ m) hd r) ⟨_,c.mapOf,h _ _ (XV.tok _) ?_⟩;rw[l];exact(i.val k).getD j
·subst f;cases(show u=em b from m);obtain⟨z,hd,xs,i,c⟩:=kS XV.ag e;refine Dm xr c.typeIs DP (DO _ _ _) (meetsH_dict_get_default (lR (cj X.prog X.w)) a b hd r) ⟨rY hu,k,xs,mR XV.ag p,c,h _ _ (XV.tok _) ?_⟩;rw[l];exact(i.val k).getD j)
end
def MI (td ty tx:TE):TE:=λZB H Q=>td ZB H λx H1=>∃a,x=.ref a/\x' H1 a/\ty ZB H1 λy H2=>tx ZB H2 λz b=>∃o,cN b a y o/\Q (o.getD z) b
section
variable {X:Cx}{o e f:s5}{dA di:Pos}{td ty tx:TE}
theorem uT (hu:X.A.units+1<cT) (n:PE X o td) (l:PE X e ty) (hf:PE X f tx) (m:M2 X o "get" dA e f di):PE X (.Call (.Attribute o "get" dA) [e,f] [] di) (MI td ty tx):=by(
intro WP s ZB H Q XV h;refine wpAny_Call_method m.base m.dC m.line od xr N' (wP (n WP s ZB H _ XV h) λu E T=>Do T λx H1 b w Y=>?_);obtain⟨a,ex,d,p⟩:=Y;subst ex;obtain rfl:u=em a:=w;obtain⟨L,N,_⟩:=Hv b d;refine⟨L,N,?_⟩;rw[m.trees];refine xM rfl (Es (xN (wP (l WP E ZB H1 _ b p) λOM J U=>Do U λy H2 i C q=>
 xN (wP (hf WP J ZB H2 _ i q) λfv ON ⟨z,c,j,D,ov,g,r⟩=>Et ?_))))
exact FW hu j g C D λOP OO k t=>⟨_,c,k,t,r⟩)
end
section
variable {X:Cx}{WP:List (WF×Obj)}{ZB:St}{H:Hp}{s:Go}{h':s2}
theorem Inv.M7{ch:List WF}(XV:Inv X WP ZB H s) (k:∀b o,b∉ch->s.heap.get? b=some o->h'.get? b=some o) (hf:∀b∈ch,fo X WP H b):Inv X WP ZB H {s with heap:=h',toks:=t'}:=by(
have f:∀b u,H b=some u->b∉ch:=λb u e z=>by
 have q:=(hf b z).1;rw[q]at e;cases e
refine XV.step (g':=s.gens) (d':=s.drawn) (ch:=ch) (λb d=>⟨(hf b d).2.2.2.1,(hf b d).2.1,(hf b d).2.2.2.2.1,(hf b d).2.2.2.2.2⟩) (λb o _ _ a e _=>k b o a e) (λb o _ _ a e _=>⟨o.slots,k b o a e⟩)
 (λ_ _ _ _ n=>n) (λb o a e=>⟨o,k b o a e⟩) (λ_ _ e=>e) (λ_ _ _ e=>e) (λb ps e=>⟨#[],by rw[e];simp⟩) (λm hm=>?_) (λb u e=>?_) XV.bare
·obtain⟨o,es,ep,g,r⟩:=hm;exact⟨o,es,ep,k _ o (λz=>(hf _ z).2.1 rfl) g,r⟩
·refine(XV.ag b u e).gX (λc v a q=>k c v ?_ q) (λ_ q=>q) λ_ _ q=>q;rcases a with z|z
 ·rw[z];exact f b u e
 ·exact f c _ z)
theorem Inv.M8{ch:List WF}{T:WF}(XV:Inv X WP ZB H s) (k:∀b o,b∉ch->s.heap.get? b=some o->h'.get? b=some o) (hf:∀b∈ch,fo X WP H b) (hT:s.heap.objs.size<=T)
  (new:bA X.prog X.w (Uf H T ob) h' T ob):Inv X WP ZB (Uf H T ob) {s with heap:=h',toks:=t'}:=by(
have f:H T=none:=XV.ag.fresh hT;have g:∀b u,H b=some u->b∉ch:=λb u e z=>by
 have q:=(hf b z).1;rw[q]at e;cases e
refine XV.step (g':=s.gens) (d':=s.drawn) (ch:=ch) (λb a=>⟨(hf b a).2.2.2.1,(hf b a).2.1,(hf b a).2.2.2.2.1,(hf b a).2.2.2.2.2⟩) (λb o _ _ d e _=>k b o d e) (λb o _ _ d e _=>⟨o.slots,k b o d e⟩)
 (λb o _ e n=>?_) (λb o d e=>⟨o,k b o d e⟩) (λb xs e=>?_) (λb o u e=>?_) (λb ps e=>⟨#[],?_⟩) (λm hm=>?_) (λb u e=>?_) XV.bare
·rw[UF (cb (c_ (cr e) hT))];exact n
·rw[UF (v0 e f)];exact e
·rw[UF (v0 e f)];exact e
·rw[UF (v0 e f),e];simp
·obtain⟨o,es,ep,h,r⟩:=hm;exact⟨o,es,ep,k _ o (λz=>(hf _ z).2.1 rfl) h,r⟩
·by_cases a:b=T
 ·subst a;rw[KE]at e;cases e;exact new
 ·rw[UF a]at e;refine(XV.ag b u e).gX (λc v d q=>k c v ?_ q) (λc q=>by rw[UF (v0 q f)];exact q) λc xs q=>by rw[UF (v0 q f)];exact q
  rcases d with z|z
  ·rw[z];exact g b u e
  ·exact g c _ z)
theorem Inv.lock(XV:Inv X WP ZB H s) (h:H d=some u) (c:iz (some u)):∃a,Inv X WP ZB (Uf H d (.aw a u)) s:=by(
have x:=XV.ag d u h;have ex:∃a,s.heap.get? d=some a:=by
 cases u with
 |lst xs=>obtain⟨_,_,_,_,e⟩:=x;exact⟨_,e⟩
 |dK T0=>obtain⟨_,_,_,_,o,_,_,e,_⟩:=x;exact⟨o,e⟩
 |dT T0=>obtain⟨_,_,_,_,o,_,_,e,_⟩:=x;exact⟨o,e⟩
 |set S n=>obtain⟨o,_,_,_,e,_⟩:=x;exact⟨o,e⟩
 |ins C dx fs=>obtain⟨_,_,_,e,_⟩:=x;exact⟨_,e⟩
 |ext f=>obtain⟨_,⟨_,e⟩,_⟩:=x;exact⟨_,e⟩
 |_=>exact ef c
obtain⟨a,e⟩:=ex;have new:bA X.prog X.w (Uf H d (.aw a u)) s.heap d (.aw a u):=by
 refine⟨e,x.gX (λb v _ q=>q) (λb q=>?_) λb xs q=>?_⟩
 ·rw[UF (λz=>by rw[z,h]at q;cases q;exact c)];exact q
 ·rw[UF (λz=>by rw[z,h]at q;cases q;exact c)];exact q
exact⟨a,XV.write (x:=d) (e:=d) (t':=s.toks) (h':=s.heap) (by rw[h];exact c) (.inl rfl) (λb v _ q=>q) ⟨a,e⟩ new⟩)
theorem Inv.pL(XV:Inv X WP ZB H s) (h:H d=some u) (b:iz (some u)):∀o' a,X.js d≠some (.aw o' a):=λo' a e=>by
 have q:=XV.base.gh d o' a e;rw[h]at q;cases q;exact b
theorem Inv.unlock(XV:Inv X WP ZB H s) (h:H d=some (.aw t u)) (j:∀o' g,X.js d≠some (.aw o' g)):Inv X WP ZB (Uf H d u) s:=by(
have a:∀b o,H b=some o->(∀o' g,o≠.aw o' g)->b≠d:=λb o e k z=>by
 rw[z,h]at e;cases e;exact k _ _ rfl
have neN:∀b,H b=none->b≠d:=λb e z=>by rw[z,h]at e;cases e
refine⟨XV.ok,XV.os,XV.bare,⟨XV.base.keep,XV.base.slot,λb o e n i=>?_,XV.base.there,λb xs e=>?_,λb o x e=>?_,λb ps e=>?_⟩,XV.loc,XV.cell,?_,λx c e=>?_,λp l=>?_,λb o e=>?_,XV.len⟩
·rw[UF (neN b (XV.base.free b o e n i))];exact XV.base.free b o e n i
·have q:=XV.base.fb b xs e;rw[UF (a b _ q (λ_ _ z=>nomatch z))];exact q
·have q:=XV.base.gh b o x e;rw[UF (λz=>by rw[z]at e;exact j _ _ e)];exact q
·obtain⟨m,q⟩:=XV.base.h5 b ps e;exact⟨m,by rw[UF (a b _ q (λ_ _ z=>nomatch z))];exact q⟩
·rw[UF (neN _ XV.free)];exact XV.free
·rw[UF (neN c (XV.e4 x c e))];exact XV.e4 x c e
·obtain⟨e,n,r⟩:=XV.pin p l;exact⟨e,by rw[UF (neN _ n)];exact n,r⟩
·by_cases f:b=d
 ·rw[f,KE]at e;cases e;rw[f];obtain⟨_,x⟩:=XV.ag d _ h;exact x.gX (λc v _ q=>q) (λc q=>by rw[UF (a c _ q (λ_ _ z=>nomatch z))];exact q) λc xs q=>by rw[UF (a c _ q (λ_ _ z=>nomatch z))];exact q
 ·rw[UF f]at e;exact(XV.ag b o e).gX (λc v _ q=>q) (λc q=>by rw[UF (a c _ q (λ_ _ z=>nomatch z))];exact q) λc xs q=>by rw[UF (a c _ q (λ_ _ z=>nomatch z))];exact q)
end
def MP (t:TS):TS:=λD ZB H=>∃d u,H d=some u/\iz (some u)/\∀a,t ⟨λb I=>I d=some (.aw a u)/\D.nx b (Uf I d u),λv I=>I d=some (.aw a u)/\D.rt v (Uf I d u),λb I=>I d=some (.aw a u)/\D.bk b (Uf I d u),λb I=>I d=some (.aw a u)/\D.ct b (Uf I d u)⟩ ZB (Uf H d (.aw a u))
section
variable {X:Cx}
theorem uX{st:v2}(h:PS X st t):PS X st (MP t):=by(
intro WP s ZB H D XV hw;obtain⟨d,u,hd,c,hw⟩:=hw;obtain⟨i,g⟩:=XV.lock hd c;refine wP (h WP s ZB _ _ g (hw i)) λf j q=>?_;cases f with
|next=>obtain⟨b,I,a,e,q⟩:=q;exact⟨b,_,a.unlock e (XV.pL hd c),q⟩
|brk=>obtain⟨b,I,a,e,q⟩:=q;exact⟨b,_,a.unlock e (XV.pL hd c),q⟩
|cont=>obtain⟨b,I,a,e,q⟩:=q;exact⟨b,_,a.unlock e (XV.pL hd c),q⟩
|ret v=>obtain⟨x,b,I,a,r,e,q⟩:=q;exact⟨x,b,_,a.unlock e (XV.pL hd c),r,q⟩)
theorem uV{ZB:St}(XV:Inv X WP ZB H s) (o:Obj)
  (T:hE X.prog X.w X.K tg J [s.heap.objs.size] s.heap.objs.size a) (st:a 0 (s.heap.push o)) (q:R J H):tf X WP ZB tg R (.ref s.heap.objs.size) {s with heap:=s.heap.push o,toks:=tk}:=by(
refine⟨s.heap.objs.size,[s.heap.objs.size],a,J,H,O,XV.kept λb ob e=>ln _ e,T,st,λb c=>?_,q⟩;have e:b=s.heap.objs.size:=by simpa using c
subst e;exact XV.kZ (tz _) (XV.ag.fresh (tz _)))
end
def mm (lo c:Int) (n:Nat):It:=⟨λi _=>i<n,λi H x I=>I=H/\x=.int (lo+(i:Nat)*c),λi _=>n<=i⟩
theorem M4 {P:fr}{w:kw}{K:wf}{tg:s5}(a:WF) (lo c:Int) (n:Nat):hE P w K tg (mm lo c n) [a] a (λi h=>r9 h a (lo+(i:Nat)*c) ((n:Int)-(i:Nat)) c) where
 mem:=by simp
 obj:=λi h st b d=>by
  have e:b=a:=by simpa using d
  subst e;exact⟨_,st,λv z=>nomatch z⟩
 keep:=λi h h' st k=>k a (by simp) _ st
 item:=by
  intro X q hw p r i WP s ZB H E XV hf st hg;subst q hw p;obtain⟨f,g,C,j,l,m⟩:=hf a (by simp);have W:=Walks.range (prog:=X.prog) (w:=X.w) (XV.ok.hd r) a lo c n;refine W.item i s _ _ hg st λv h' tk hv u D=>?_;obtain⟨t,rfl⟩:=hv;have x:Inv X WP ZB H {s with heap:=h',toks:=tk}:=XV.turned (λb o d e=>D b o (by simpa using d) e) f g j l m;exact⟨_,O,k3 (s:= {s with heap:=h',toks:=tk}) (n:="range_iterator") u rfl rfl (by decide) ⟨.int (lo+(i:Nat)*c),H,x,⟨t,O⟩,⟨O,O⟩,u,λb d=>(hf b d).1⟩⟩
 done:=by
  intro X q hw p r i WP s ZB H E XV hf st hg;subst q hw p;obtain⟨f,g,C,j,l,m⟩:=hf a (by simp);exact CQ (XV.ok.hd r) st (by have:n<=i:=hg;lia) λh' y=>⟨O,XV.turned (t':=s.toks) (λb o d e=>y b o d e) f g j l m⟩
 self:=λA i s Q E st h=>CT st h
def oN (i j c:Int) (n:Nat):Prop:=c≠0/\c.natAbs<1073741824/\Og i j c=true/\xK i j c=n
theorem oN.neg(a: -(2^62)<=i) (b:i<2^62) (c: -(2^62)<=j) (d:j<2^62):oN i j (-1) (i-j).toNat:=
 ⟨by decide,by decide,NK a b c d,Nw i j⟩
def Hj (ta:TA):TI:=λZB H R=>ta ZB H λvs H1=>∃(i j c:Int) (n:Nat),vs=[.int i,.int j,.int c]/\oN i j c n/\R (mm i c n) H1
section
variable {X:Cx}{tg:s5}
theorem KX {a b c:s5}{ta:TA}{p pos:Pos}(hg:Gl X "range") (hm:X.mg "range"=none) (x:PA X [a,b,c] ta)
  (z:al [a,b,c] X.env=(false,eval a X.env)::al [b,c] X.env:=by rfl) (y:(d9 pos (al [b,c] X.env)).any (·.1)=false:=by rfl):
  PI X tg (.Call (.Name "range" p) [a,b,c] [] pos) (Hj ta):=by(
intro WP s ZB H R XV h;refine sP (k5 XV hg hm xB (oh (wP (x pos WP s ZB H _ XV h) λus f L=>Do L λvs H1 g E A=>?_) z y));obtain⟨i,j,k,n,e,⟨m,c1,c2,c3⟩,q⟩:=A;subst e;cases E with
|cons r d=>
 cases d with
 |cons C d=>
  cases d with
  |cons D d=>
   cases d;obtain⟨t,rfl⟩:=r;obtain⟨t',rfl⟩:=C;obtain⟨J,rfl⟩:=D;refine call_range_3 m ?_ (.inl (PyProof.noPylong_small c1));refine C0 (IsRange.new ..) c2 ?_;have l:Inv X WP ZB H1 {f with heap:=f.heap.push {cls:=.type "range",data:=.fields #[.int i t,.int j t',.int k J]}}:=g.kept (t':=f.toks) λb o e=>ln _ e;refine uV (tk:=f.toks) l _ (M4 _ i k n) ?_ q;have u:i+((0:Nat):Int)*k=i:=by simp
   have w:(n:Int)-((0:Nat):Int)=xK i j k:=by rw[c3];simp
   show r9 _ _ (i+((0:Nat):Int)*k) ((n:Int)-((0:Nat):Int)) k;rw[u,w];exact bc _ rfl)
end
theorem GY{lo:Int}{g:TG}{tb:TS}{D:Ends}(Pv:Nat->St->Hp->Prop) (h0:Pv 0 ZB H)
  (h:∀i ZB H,i<n->Pv i ZB H->g (.int (lo+(i:Nat)*c)) ZB H λd H2=>tb {D with nx:=Pv (i+1),ct:=Pv (i+1),bk:=D.nx} d H2) (hd:∀ZB H,Pv n ZB H->D.nx ZB H):
  ∃W:Nat->Nat->St->Hp->Prop,(∃m,W 0 m ZB H)/\∀i m ZB H,W i m ZB H->
   ((mm lo c n).stop i H/\D.nx ZB H)\/((mm lo c n).go i H/\∃N:St->Hp->Prop,(∀b I,N b I->∃f,f<m/\W (i+1) f b I)/\∀x I,(mm lo c n).eQ i H x I->g x ZB I λd H2=>tb {D with nx:=N,ct:=N,bk:=D.nx} d H2):=by(
refine⟨λi m ZB H=>m=n-i/\i<=n/\Pv i ZB H,⟨n,by simp,f4 _,h0⟩,?_⟩;rintro i m ZB H ⟨rfl,hi,p⟩;by_cases a:i<n
·refine .inr ⟨a,Pv (i+1),λb I j=>⟨n-(i+1),by lia,O,a,j⟩,λx I y=>?_⟩;obtain⟨e,y⟩:=y;subst e y;exact h i ZB _ a p
·have e:i=n:=by lia
 subst e;exact .inl ⟨tz _,hd ZB H p⟩)
section
variable {prog:fr}{w:kw}{A:bJ}{E:Tk->Go->Prop}{s:Go}
theorem zD(hd:(d==eS)=false) (a:s.heap.get? d=some o) (e:o.ExactDict) (b:o.data=.dict es ep)
  (c:Q (.ref s.heap.objs.size) {s with heap:=s.heap.push {cls:=.type "dict_keyiterator",data:=.fields #[.ref d,.int 0 0,.int es.size 0,.int ep 0]}}):
  wpAny (AT prog w) A (sj (.ref d)) Q E s:=by
 have hT:s.TypeIs (.ref d) "dict":=⟨o,a,e.1⟩;refine C2 hT F.slot_dict_iter (i5 F.slot_dict_iter hT F.entry_dict_iter ?_ (F.args_dict_iter_1 _));unfold h_.«dict.__iter__»;refine IR ?_;unfold Oh;refine IR (CV hT ?_);show wpAny _ _ (pure (em d)) _ _ s;refine t3 ?_;show wpAny _ _ (Ex d >>= _) _ _ s;unfold Ex;rw[Ps (by rw[hd];exact cc)];refine IR (t3 ?_);refine IR (r0 a b ?_);refine IR (wF a b ?_);refine IR (nQ (t3 ⟨_,O,"dict_keyiterator",_,⟨_,bc _ rfl,O⟩,F.slot_dict_keyiterator_next.lookup,?_⟩));simpa [hb]using c
theorem I7(a:s.heap.IsKeyIter b d i n ep) (g:s.heap.get? d=some q) (e:q.data=.dict es ep)
  (hsz:es.size=n) (p:es[i]?=some en) (h:∀h',h'.IsKeyIter b d (i+1) n ep->lX b s.heap h'->Q (some en.key) {s with heap:=h'}):wpAny (AT prog w) A (eU (.ref b)) Q E s:=by(
obtain⟨o,c,j,hd⟩:=id a;unfold eU;refine IR (r5 (rX (name:=bO "__next__") a.typeIs F.slot_dict_keyiterator_next
 (i5 F.slot_dict_keyiterator_next a.typeIs F.entry_dict_keyiterator_next ?_ (F.args_dict_keyiterator_next_1 _))))
refine IR (t3 ?_);refine IR ?_;refine IR ?_
first|refine IR (rV a.typeIs (t3 ?_))|refine IR (rW a.typeIs (t3 ?_))
refine IR (C' c hd ?_);have m:Builtin.Dict_items.ownsTuple "dict_keyiterator"=false:=by decide
simp only[m,fX,aK];show wpAny _ _ (if(em d==Value.none)=true then _ else _) _ _ s;rw[Ps (show ¬((em d==Value.none)=true) from cc)];refine IR (t3 ?_);refine IR (r0 g e ?_);rw[Ps (by rw[hsz];simp)];refine IR (t3 ?_);refine IR (wF g e ?_);rw[Ps (by simp)];refine t3 ?_;obtain⟨l,k⟩:=Array.getElem?_eq_some_iff.mp p;simp only[show ¬((i:Int)<0) from by lia,aK,ee,xH l];refine IR ?_
first|refine IR (rV a.typeIs (t3 ?_))|refine IR (rW a.typeIs (t3 ?_))
refine IR (CW a.typeIs ?_);show wpAny _ _ (setField (.ref b) 1 (hb ((i:Int)+1)) >>= _) _ _ s;refine IR (Dc c hd (by simp) ?_);have f:(s.heap.update b (Ep (·.setIfInBounds 1 (hb ((i:Int)+1))))).IsKeyIter b d (i+1) n ep:=
 ⟨_,kn _ c (Obj.isFreed_of_fields (En hd _)),(Obj.cls_mapFields ..).trans j,by rw[En hd];simp[hb]⟩
refine IR (i6 ?_);refine IR (CW (s:= {s with heap:=s.heap.update b (Ep (·.setIfInBounds 1 (hb ((i:Int)+1))))}) f.typeIs ?_);show wpAny _ _ (pure es[i].key) _ _ _;rw[k];exact t3 (t3 ⟨_,O,t3 (h _ f (sS ..))⟩))
theorem Ag(p:A.handled=none) (c:s.heap.IsKeyIter e d i n ep) (h:s.heap.get? d=some r) (f:r.data=.dict es ep)
  (hsz:es.size=n) (k:n<=i) (j:∀h',Heap.ExtBut e s.heap h'->Q none {s with heap:=h'}):wpAny (AT prog w) A (eU (.ref e)) Q E s:=by(
obtain⟨o,g,t,hd⟩:=id c;unfold eU;refine IR (r5 (rX (name:=bO "__next__") c.typeIs F.slot_dict_keyiterator_next
 (i5 F.slot_dict_keyiterator_next c.typeIs F.entry_dict_keyiterator_next ?_ (F.args_dict_keyiterator_next_1 _))))
refine IR (t3 ?_);refine IR ?_;refine IR ?_
first|refine IR (rV c.typeIs (t3 ?_))|refine IR (rW c.typeIs (t3 ?_))
refine IR (C' g hd ?_);have q:Builtin.Dict_items.ownsTuple "dict_keyiterator"=false:=by decide
simp only[q,fX,aK];show wpAny _ _ (if(em d==Value.none)=true then _ else _) _ _ s;rw[Ps (show ¬((em d==Value.none)=true) from cc)];refine IR (t3 ?_);refine IR (r0 h f ?_);rw[Ps (by rw[hsz];simp)];refine IR (t3 ?_);refine IR (wF h f ?_);rw[Ps (by simp)];refine t3 ?_;have l:es.size<=i:=by rw[hsz];exact k
simp only[show ¬((i:Int)<0) from by lia,aK,ee,Array.getElem?_eq_none l];refine IR ?_
first|refine IR (rV c.typeIs (t3 ?_))|refine IR (rW c.typeIs (t3 ?_))
show wpAny _ _ (setField (.ref e) 0 .none >>= _) _ _ s;refine IR (Dc g hd (by simp) ?_);show wpAny _ _ (newExc (.type "StopIteration") [] >>= _) _ _ _;refine IR ?_;simp only[newExc,newTuple];refine IR (nQ ?_ (by size_fits));refine IR (m:=Dd _ _) (Dq (a:=Value.none) (by first|rfl|(simp only[Dd];rfl)) ?_);refine nQ ?_ (by size_fits);simp only[raiseNew];refine IR (wpAny_handled ?_);rw[show A.in1.handled=none from p];refine IR (t3 (wpAny_throw ?_));refine IR (C7 (T:="StopIteration") (b:=true) ⟨_,bc _ rfl,O⟩ De ?_);exact t3 (j _ (((sS ..).extBut.push _).push _)))
end
theorem Ic{vs:List (κ×Tk)}(h:KV T0 vs):∀ {i:Nat}{k:κ}{v:W1},T0[i]?=some (k,v)->∃u,vs[i]?=some (k,u)/\RelV v u:=by(
unfold KV at h
induction h with
|nil=>intro i k v e;simp at e
|@cons a b d l₂ r t c=>
 intro i k v e;cases i with
 |zero=>
  simp only[oy,hk]at e;subst e;refine⟨b.2,?_,r.2⟩;simp only[oy];exact cM some (Prod.ext r.1.symm rfl)
 |succ j=>
  simp only[x3]at e⊢;exact c e)
theorem c5{c:List f}{l₂:List k}(h:Paired G c l₂):∀ {i:Nat}{a:f},c[i]?=some a->∃b,l₂[i]?=some b/\G a b:=by(
induction h with
|nil=>intro i a e;simp at e
|@cons a b c l₂ r t d=>
 intro i g e;cases i with
 |zero=>
  simp only[oy,hk]at e;subst e;exact⟨b,O,r⟩
 |succ j=>
  simp only[x3]at e⊢;exact d e)
theorem LA(h:iR k u=true):RelV (kV k) u:=by(
rcases gO h with⟨i,t,rfl,rfl⟩|⟨x,t,rfl,rfl⟩
·exact⟨t,O⟩
·exact⟨t,O⟩)
section
variable {X:Cx}{WP:List (WF×Obj)}{ZB:St}{H:Hp}{s:Go}{d:WF}{o:Obj}
theorem Inv.t8(XV:Inv X WP ZB H s) (h:H d=some (.aw o (.dK T0))):
  (d==eS)=false/\s.heap.get? d=some o/\o.ExactDict/\∃(es:Array g_) (ep:Nat) (vs:List (sw×Tk)),o.data=.dict es ep/\es.size=T0.length/\KV T0 vs/\s.heap.DictAt (cj X.prog X.w) d vs ep:=by
 obtain⟨hd,z,f,vs,e,o',es,ep,b,c,a,r⟩:=XV.ag d _ h;rw[hd]at b;cases b;refine⟨f,hd,c,es,ep,vs,a,?_,e,o,es,hd,c,a,r⟩;have g:=r.2.1.length;have i:T0.length=vs.length:=Paired.length e;rw[sR]at g;lia
theorem Inv.t9(XV:Inv X WP ZB H s) (h:H d=some (.aw o (.dT T0))):
  (d==eS)=false/\s.heap.get? d=some o/\o.ExactDict/\∃(es:Array g_) (ep:Nat),o.data=.dict es ep/\es.size=T0.length/\
   ∀(i:Nat) (k:List sw) (v:W1),T0[i]?=some (k,v)->∃(en:g_) (q:WF),es[i]?=some en/\en.key=.ref q/\H q=some (.tup (k.map kV)):=by(
obtain⟨hd,z,m,xs,f,o',es,ep,c,n,l,a,_⟩:=XV.ag d _ h;rw[hd]at c;cases c;refine⟨m,hd,n,es,ep,l,?_,λi k v e=>?_⟩
·have r:es.size=xs.length:=size_of_entries a;have t:T0.length=xs.length:=Paired.length f;lia
·obtain⟨b,j,p,g,_⟩:=c5 f e;have q:=entry_at a i;rw[j]at q;exact⟨_,b.2.1,q,O,g⟩)
end
def mn (d:WF) (o:Obj) (T0:List (sw×W1)):It:=
 ⟨λi H=>H d=some (.aw o (.dK T0))/\i<T0.length,λi H x I=>I=H/\∃k v,T0[i]?=some (k,v)/\x=kV k,λi H=>H d=some (.aw o (.dK T0))/\T0.length<=i⟩
def ya (d:WF) (o:Obj) (T0:List (List sw×W1)):It:=
 ⟨λi H=>H d=some (.aw o (.dT T0))/\i<T0.length,λi H x I=>I=H/\∃(k:List sw) (v:W1) (q:WF),T0[i]?=some (k,v)/\x=.ref q/\H q=some (.tup (k.map kV)),λi H=>H d=some (.aw o (.dT T0))/\T0.length<=i⟩
theorem o4{o:Obj}(h:o.data=.dict es ep) (h':o.data=.dict b a):b=es/\a=ep:=by
 rw[h]at h';cases h';exact⟨O,O⟩
section
variable {P:fr}{w:kw}{K:wf}{tg:s5}{d:WF}{o:Obj}{es:Array g_}{ep:Nat}
theorem MZ {T0:List (sw×W1)}(a:WF) (T:o.data=.dict es ep):hE P w K tg (mn d o T0) [a] a (λi h=>h.IsKeyIter a d i T0.length ep) where
 mem:=by simp
 obj:=λi h st b f=>by
  have e:b=a:=by simpa using f
  subst e;obtain⟨j,e,c,l⟩:=st;exact⟨j,e,λv z=>by rw[l]at z;cases z⟩
 keep:=λi h h' st k=>st.at λj e=>k a (by simp) j e
 item:=by
  intro X y hw x D i WP s ZB H E XV hf st hg;subst y hw x;obtain⟨hd,hi⟩:=hg;obtain⟨m,n,OP,q,r,t⟩:=hf a (by simp);obtain⟨OR,J,OS,OO,ON,vs,g,hsz,C,hm⟩:=XV.t8 hd;obtain⟨rfl,rfl⟩:=o4 T g;obtain⟨⟨k,v⟩,L⟩:∃p,T0[i]?=some p:=⟨T0[i],g1 hi⟩;obtain⟨u,hu,OU⟩:=Ic C L;have N:T0.length=vs.length:=Paired.length C;rw[N]at st;refine wpAny_pyNext_dict_item st hm hu λkey h' OQ U OT=>?_;have Y:Inv X WP ZB H {s with heap:=h'}:=XV.turned (t':=s.toks) (λb ob f e=>(OT.2 b f).trans e) m n q r t;obtain⟨j,e,c,l⟩:=id U;refine⟨key,O,k3 (s:= {s with heap:=h'}) e c l (by decide) ⟨kV k,H,Y,LA (show iR k key=true from OQ),⟨O,k,v,L,O⟩,?_,λb f=>(hf b f).1⟩⟩;show h'.IsKeyIter a d (i+1) T0.length _;rw[N];exact U
 done:=by
  intro X y hw x D i WP s ZB H E XV hf st hg;subst y hw x;obtain⟨hd,hi⟩:=hg;obtain⟨m,n,OP,q,r,t⟩:=hf a (by simp);obtain⟨OR,J,OS,OO,ON,vs,g,hsz,C,hm⟩:=XV.t8 hd;obtain⟨rfl,rfl⟩:=o4 T g;exact Ag (XV.ok.hd D) st J g hsz hi λh' OM=>⟨O,XV.turned (t':=s.toks) (λb ob f e=>OM b ob f e) m n q r t⟩
 self:=λA i s Q E st h=>wpAny_pyIter_keyiter st h
theorem M0 {T0:List (List sw×W1)}(a:WF) (N:o.data=.dict es ep):hE P w K tg (ya d o T0) [a] a (λi h=>h.IsKeyIter a d i T0.length ep) where
 mem:=by simp
 obj:=λi h st b f=>by
  have e:b=a:=by simpa using f
  subst e;obtain⟨j,e,c,l⟩:=st;exact⟨j,e,λv z=>by rw[l]at z;cases z⟩
 keep:=λi h h' st k=>st.at λj e=>k a (by simp) j e
 item:=by
  intro X y hw x J i WP s ZB H E XV hf st hg;subst y hw x;obtain⟨hd,hi⟩:=hg;obtain⟨m,n,OO,r,t,u⟩:=hf a (by simp);obtain⟨OS,C,OT,ON,OM,g,hsz,D⟩:=XV.t9 hd;obtain⟨rfl,rfl⟩:=o4 N g;obtain⟨⟨k,v⟩,L⟩:∃p,T0[i]?=some p:=⟨T0[i],g1 hi⟩;obtain⟨en,q,OP,OQ,OR⟩:=D i k v L;refine I7 st C g hsz OP λh' T OU=>?_;have U:Inv X WP ZB H {s with heap:=h'}:=XV.turned (t':=s.toks) (λb ob f e=>(OU.2 b f).trans e) m n r t u;obtain⟨j,e,c,l⟩:=id T;exact⟨en.key,O,k3 (s:= {s with heap:=h'}) e c l (by decide) ⟨.ref q,H,U,OQ,⟨O,k,v,q,L,O,OR⟩,T,λb f=>(hf b f).1⟩⟩
 done:=by
  intro X y hw x J i WP s ZB H E XV hf st hg;subst y hw x;obtain⟨hd,hi⟩:=hg;obtain⟨m,n,OO,r,t,u⟩:=hf a (by simp);obtain⟨OS,C,OT,ON,OM,g,hsz,D⟩:=XV.t9 hd;obtain⟨rfl,rfl⟩:=o4 N g;exact Ag (XV.ok.hd J) st C g hsz hi λh' Y=>⟨O,XV.turned (t':=s.toks) (λb ob f e=>Y b ob f e) m n r t u⟩
 self:=λA i s Q E st h=>by
  refine C2 st.typeIs F.slot_dict_keyiterator_iter (i5 F.slot_dict_keyiterator_iter st.typeIs F.entry_dict_keyiterator_iter ?_ (F.args_dict_keyiterator_iter_1 _));show wpAny _ _ (ret (.ref a)) _ _ s;exact t3 ⟨_,O,"dict_keyiterator",_,st.typeIs,F.slot_dict_keyiterator_next.lookup,h⟩
end
def Hg (td:TE):TI:=λZB H R=>td ZB H λx H1=>∃d o,x=.ref d/\((∃T0,H1 d=some (.aw o (.dK T0))/\R (mn d o T0) H1)\/∃T0,H1 d=some (.aw o (.dT T0))/\R (ya d o T0) H1)
section
variable {X:Cx}{tg e:s5}{td:TE}{dA di:Pos}
theorem AF (j:PE X e td):PI X tg e (Hg td):=by(
intro WP s ZB H R XV h;refine wP (j WP s ZB H _ XV h) λu i l=>Do l λx H1 b k m=>?_;obtain⟨d,o,ex,q⟩:=m;subst ex;obtain rfl:u=em d:=k;rcases q with⟨T0,hd,q⟩|⟨T0,hd,q⟩
·obtain⟨f,c,g,es,ep,vs,a,hsz,p,hm⟩:=b.t8 hd;refine zD f c g a (uV (tk:=i.toks) b _ (MZ _ a) ⟨_,bc _ rfl,O,?_⟩ q);rw[hsz]<;>rfl
·obtain⟨f,c,g,es,ep,a,hsz,n⟩:=b.t9 hd;refine zD f c g a (uV (tk:=i.toks) b _ (M0 _ a) ⟨_,bc _ rfl,O,?_⟩ q);rw[hsz]<;>rfl)
end
theorem Fw:lP "zip"=some (.type "zip"):=by decide +kernel
end L2
namespace TL
open PySem PySem.Builtin PySem.Builtin.Str PySem.StrLaws
def pre (S l:List Nat):Bool:=l.take S.length==S
def par (S:List Nat):List Nat->List Nat->Option (List Nat×List Nat)
 |_,[]=>none
 |acc,c::r=>if pre S (c::r)=true then some (acc,(c::r).drop S.length)else par S (acc++[c]) r
end TL
namespace x4
open PySem PySem.W PySem.Calls PyProof.Rows
theorem Hq:∀(ns:List Int) (vs:List Tk),xf P h vs (ns.map WData.int)->cD vs ns:=by(
intro ns
induction ns with
|nil=>
 intro vs w;rw[hr]at w;cases w;exact .nil
|cons n ns c=>
 intro vs w;rw[m0]at w;cases w with
 |cons a b=>
  cases a;exact .cons _ _ (c _ b))
end x4
namespace L2
open PySem PySem.Spec PyProof.Rows
theorem B0:∀ {vs:List Tk}{ns:List Int},cD vs ns->ww (ns.map W1.int) vs
 |_,_,.nil=>.nil
 |_,_,.cons n t h=>.cons ⟨t,O⟩ (B0 h)
def s_ (H:Hp):Prop:=∀b,H b=none\/∃o xs,H b=some (.aw o (.lst xs))
abbrev xL:kF:=λ_ _ _ _ _ _=>False
abbrev E0:XK:=λ_ _ _=>False
theorem ws:iA xL X E0:=λ_ _ _ _ _ _ _ h=>h.elim
structure sB (K:wf) (x b:Str) (st:v2) (f:WF) (fd:lT):Prop where
 ex:∃(e:Tk) (g:Option WF) (kV d i:Tk) (c:Option WF) (a ct:Tk) (h:Array (Option Tk)),
  fd=fT x b (gG st) (fA st) (s1 st) .none kV d i c a ct/\K.lookup f=some ⟨e,g,.func fd,h⟩/\lY K a b=true
 kp:cV K (.ref f)=true
section
variable {P:fr}{w:kw}{K:wf}{mg:Str->Option Tk}{base:s2}
theorem sB.ok{st:v2}(F:sB K x b st f fd) (S:pu N ps (s1 st)) (len:∀vs H Q E,sp vs H Q E->vs.length=ps.length)
  (c:∀(a:Tk) (A:bJ) (outer:List Env) (s:Go) (H:Hp) (vs:List W1) (Q:VK) (E:XK),bC k (A.deeper (hl b (s1 st) s.heap.objs.size f a))->sp vs H Q E->
   ∃t,eF (jH xL P w K mg base N b (s1 st) f a A outer s H E).m9 (fA st) t/\t {nx:=λ_ I=>Q .ak I,rt:=Q} (start N vs) H):AC P w K mg base xL (k+1) f fd ps sp:=by
 obtain⟨l,m,kV,j,o,i,a,ct,n,rfl,lk,d⟩:=F.ex;refine GV lk d S len λA outer s H vs Q E e g=>?_;obtain⟨t,h,q⟩:=c a A outer s H vs Q E e g;exact⟨t,h.m9,q⟩
theorem sB.binds{st:v2}(F:sB K x e st f fd)
  (h:∀(kV c d:Tk) (a:Option WF) (b ct:Tk) (us:List Tk),us.length=ps.length->wY (fT x e (gG st) (fA st) (s1 st) .none kV c d a b ct) ⟨us,[]⟩=pure (ps.zip us)):Binds K fd ps []:=by
 obtain⟨i,j,kV,c,d,a,b,ct,k,rfl,lk,g⟩:=F.ex;exact .all (h kV c d a b ct)
theorem mN{st:v2}{kV:Tk}(l:K.lookup f=some ⟨h,i,.func (fT x b (gG st) (fA st) (s1 st) .none kV e g d a ct),j⟩)
  (c:lY K a b=true) (k:cV K (.ref f)=true):sB K x b st f (fT x b (gG st) (fA st) (s1 st) .none kV e g d a ct):=⟨⟨h,i,kV,e,g,d,a,ct,j,O,l,c⟩,k⟩
end
theorem hK(a:bC k A):A.units+1<cT:=xl (Nat.add_le_add_left (by decide:1<=64) _) a.units
theorem Br(h:n<=1000):n<Gc:=xl h (by decide)
section
variable {X:Cx}
theorem V (i:Nat) {x:Str}{pos:Pos}(a:X.N[i]?=some x:=by rfl) (hv:kL X.env.scope x:=by first|exact Or.inl rfl|exact Or.inr (Or.inl rfl)|exact Or.inr (Or.inr rfl)) (hd:(x==("__debug__":Str))=false:=by decide)
  (b:(x==("__classdict__":Str))=false:=by decide):PE X (.Name x pos) (bZ i):=KR a hv hd b
end
theorem v6{Wp:Prop}(h:Wp):if false=true then A else Wp:=by
 rw[Ps cc];exact h
theorem wn{Wp:Prop}(h:A):if true=true then A else Wp:=by
 rw[No rfl];exact h
def Tl (H I:Hp):Prop:=∀b o,H b=some o->I b=some o
theorem Tl.free(e:Tl H I) (h:I l=Option.none):H l=Option.none:=by(
cases q:H l with
|none=>rfl
|some o=>
 rw[e l o q]at h;cases h)
section
variable {κ:Type} [DecidableEq κ]
theorem BY{k:κ}(h:io T0 k=none):¬k∈T0.map (·.1):=by
 intro m;obtain⟨p,a,e⟩:=mo.mp m;have q:(T0.any λb=>decide (b.1=k))=true:=CA.mpr ⟨p,a,sK e⟩;rw[ke,h]at q;exact absurd q (by simp)
theorem Nb{k:κ}(h:io T0 k=some v):k∈T0.map (·.1):=by(
have q:(T0.any λb=>decide (b.1=k))=true:=by
 rw[ke,h]
 all_goals rfl
obtain⟨p,a,e⟩:=CA.mp q;exact mo.mpr ⟨p,a,gB e⟩)
end
theorem sum_set:∀ {l:List Int}{j:Nat}{z y:Int},l[j]?=some z->(l.set j y).sum=l.sum-z+y
 |[],j,z,y,h=>by simp at h
 |a::r,0,z,y,h=>by
  have e:a=z:=b3 h;subst e;show(y::r).sum=(a::r).sum-a+y;rw[dV,dV];lia
 |a::r,j+1,z,y,h=>by
  have b:=sum_set (l:=r) (j:=j) (z:=z) (y:=y) h;show(a::r.set j y).sum=(a::r).sum-z+y;rw[dV,dV,b];lia
theorem rm:∀ {l:List Int}{i:Nat}{z:Int},l[i]?=some z->(l.take (i+1)).sum=(l.take i).sum+z
 |[],i,z,h=>by simp at h
 |a::r,0,z,h=>by
  have e:a=z:=b3 h;subst e;show([a]:List Int).sum=([]:List Int).sum+a;rw[dV];exact Int.add_comm _ _
 |a::r,i+1,z,h=>by
  have b:=rm (l:=r) (i:=i) (z:=z) h;show(a::r.take (i+1)).sum=(a::r.take i).sum+z;rw[dV,dV,b];lia
end L2
namespace Z3
open PySem
open Sem (wp)
abbrev b4 (h:s2) (T:WF) (a b c:Tk):Prop:=h.get? T=some {cls:=.type "tuple",data:=.seq #[a,b,c]}
theorem M_ (a b c:Tk):checkTypeCall "zip" ⟨[a,b,c],[]⟩=pure ():=by kernel_rfl
theorem I2 (a b c:Tk):checkBuiltinCall "zip.__new__" ⟨[.type "zip",a,b,c],[]⟩=pure ():=by kernel_rfl
theorem Hn (a b c d:Tk):argsOk "object.__init__" ⟨[a,b,c,d],[]⟩:=by
 unfold argsOk;(rw[signature?_of (id:="object.__init__") (n:=['_','_','t','i','n','i','_','_']) (o:=['t','c','e','j','b','o']) (by kernel_rfl) F.owner_object]);kernel_rfl
section
variable {prog:fr}{w:kw}{A:bJ}{E:Tk->Go->Prop}{s:Go}
theorem vY(hT:b4 s.heap T a b c)
  (h:∀h',h'.get? T=some {cls:=.type "tuple",data:=.seq ((#[a,b,c]:Array Tk).setIfInBounds k x)}->lX T s.heap h'->Q () {s with heap:=h'}):wpAny (AT prog w) A (wV T (·.setIfInBounds k x)) Q E s:=by
 refine nR hT rfl (h _ ?_ (sS ..));(rw[kn _ hT rfl]);(simp[ho])
structure Apart (z TI TO a b c d e f:WF):Prop where
 k_:TI≠z/\TI≠TO/\TI≠a/\TI≠b/\TI≠c
 IW:TO≠z/\TO≠a/\TO≠b/\TO≠c
 n1:a≠z/\a≠b/\a≠c
 n2:b≠z/\b≠c
 n3:c≠z
 m1:d≠z/\d≠TO/\d≠a/\d≠b/\d≠c
 m2:e≠z/\e≠TO/\e≠a/\e≠b/\e≠c
 m3:f≠z/\f≠TO/\f≠a/\f≠b/\f≠c
abbrev oJ (z TO a b d:WF) (h h':s2):Prop:=∀c o,c≠z->c≠TO->c≠a->c≠b->c≠d->h.get? c=some o->h'.get? c=some o
theorem I6{TI:WF}{Q:Tk->Go->Prop}(O6:Apart z TI TO m n p T U Y)
  (hz:eB s.heap z TI TO .none) (Pe:b4 s.heap TI (.ref m) (.ref n) (.ref p)) (Pf:b4 s.heap TO a b c) (h1:s.heap.IsListIter m T k) (h2:s.heap.IsListIter n U k) (Pa:s.heap.IsListIter p Y k)
  (Ph:s.heap.IsList T xs) (Pj:s.heap.IsList U ys) (Pk:s.heap.IsList Y zs) (Pl:xs[k]?=some x) (Pm:ys[k]?=some y) (hv:zs[k]?=some v)
  (Pd:∀h',eB h' z TI TO (hb s.heap.objs.size)->b4 h' TO x y v->h'.IsListIter m T (k+1)->h'.IsListIter n U (k+1)->h'.IsListIter p Y (k+1)->b4 h' s.heap.objs.size x y v->h'.objs.size=s.heap.objs.size+1->
   oJ z TO m n p s.heap h'->Q (.ref s.heap.objs.size) {s with heap:=h'}):
  wpAny (AT prog w) A (h_.«zip.__next__» ⟨[.ref z],[]⟩) (λfin s'=>∃v,fin=.done (.ret v)/\Q v s') E s:=by(
obtain⟨⟨PN,PJ,PK,PL,PM⟩,⟨t,C,H,J⟩,⟨OS,O2,O3⟩,⟨OT,O4⟩,OU,⟨Px,PV,PQ,PR,PU⟩,⟨PB,Pz,Py,PX,PY⟩,⟨PH,O5,PD,PF,PZ⟩⟩:=O6;show wpAny _ _ (sk (.ref z) 2 >>= _) _ _ _;refine IR (i7 hz rfl (x:=.bool false) rfl ?_);show wpAny _ _ (sk (.ref z) 3 >>= _) _ _ _;refine IR (i7 hz rfl (x:=.ref TI) rfl ?_);refine IR (h8 Pe rfl ?_);show wpAny _ _ (sG (.ref z) >>= _) _ _ _;refine IR ?_;unfold sG;refine IR (i7 hz rfl (x:=.none) rfl (t3 ?_));simp only[a9];refine IR (Dy ?_);refine IR (i7 hz rfl (x:=.ref TO) rfl ?_);refine IR (nO hz (by simp) λPo OQ f=>?_);replace OQ:eB Po z TI TO .ellipsis:=OQ;refine IR ?_;simp only[kB,CH,rQ,nL];refine IR (IR (r6 ?_));show wpAny _ _ (sH (.ref m) >>= _) _ _ _;refine IR (wC (h1.extBut f.extBut OS) (Ph.extBut f.extBut Px) Pl λPp O7 h=>t3 ?_);have OV:b4 Pp TO a b c:=h.extBut _ _ C (f.extBut _ _ t Pf);refine IR (h8 OV rfl ?_);refine IR (vY OV λPq OM i=>?_);replace OM:b4 Pq TO x b c:=OM;refine IR (i8 (t3 ?_));refine IR (IR (r6 ?_));show wpAny _ _ (sH (.ref n) >>= _) _ _ _;refine IR (wC (((h2.extBut f.extBut OT).extBut h.extBut O2.symm).extBut i.extBut H.symm) (((Pj.extBut f.extBut PB).extBut h.extBut Py).extBut i.extBut Pz) Pm λPr O9 j=>t3 ?_);have OW:b4 Pr TO x b c:=j.extBut _ _ H OM;refine IR (h8 OW rfl ?_);refine IR (vY OW λPt ON l=>?_);replace ON:b4 Pt TO x y c:=ON;refine IR (i8 (t3 ?_));refine IR (IR (r6 ?_));show wpAny _ _ (sH (.ref p) >>= _) _ _ _;refine IR (wC (((((Pa.extBut f.extBut OU).extBut h.extBut O3.symm).extBut i.extBut J.symm).extBut j.extBut O4.symm).extBut l.extBut J.symm)
 (((((Pk.extBut f.extBut PH).extBut h.extBut PD).extBut i.extBut O5).extBut j.extBut PF).extBut l.extBut O5) hv λPu Pb q=>t3 ?_)
have OX:b4 Pu TO x y c:=q.extBut _ _ J ON;refine IR (h8 OX rfl ?_);refine IR (vY OX λd L r=>?_);replace L:b4 d TO x y v:=L;refine IR (i8 (t3 (t3 ?_)));refine IR (h8 L rfl ?_);refine IR (Df ?_);have hsz:d.objs.size=s.heap.objs.size:=by rw[r.1,q.1,l.1,j.1,i.1,h.1,f.1]
have Pg:∀c o,c≠z->c≠TO->c≠m->c≠n->c≠p->s.heap.get? c=some o->d.get? c=some o:=λc o c1 c2 c3 c4 D e=>
 r.extBut _ _ c2 (q.extBut _ _ D (l.extBut _ _ c2 (j.extBut _ _ c4 (i.extBut _ _ c2 (h.extBut _ _ c3 (f.extBut _ _ c1 e))))))
have O1:eB d z TI TO .ellipsis:=r.extBut _ _ t.symm (q.extBut _ _ OU.symm (l.extBut _ _ t.symm (j.extBut _ _ OT.symm (i.extBut _ _ t.symm (h.extBut _ _ OS.symm OQ)))));have O8:d.IsListIter m T (k+1):=((((O7.extBut i.extBut C.symm).extBut j.extBut O2).extBut l.extBut C.symm).extBut q.extBut O3).extBut r.extBut C.symm;have O_:d.IsListIter n U (k+1):=((O9.extBut l.extBut H.symm).extBut q.extBut O4).extBut r.extBut H.symm;have Pc:d.IsListIter p Y (k+1):=Pb.extBut r.extBut J.symm;have O0:z<d.objs.size:=cr O1;show wpAny _ _ (D9 (.ref z) (.ref d.objs.size) >>= _) _ _ _;refine IR ?_;unfold D9;have Pn:eB (d.push {cls:=.type "tuple",data:=.seq #[x,y,v]}) z TI TO .ellipsis:=ln _ O1;refine IR (nO Pn (by simp) λPw OR OP=>?_);replace OR:eB Pw z TI TO (hb d.objs.size):=OR;refine nO OR (by simp) λg N OO=>?_;replace N:eB g z TI TO (hb d.objs.size):=N;have u:∀c o,c≠z->d.get? c=some o->g.get? c=some o:=λc o c1 e=>OO.extBut _ _ c1 (OP.extBut _ _ c1 (ln _ e));have OY:b4 g d.objs.size x y v:=OO.extBut _ _ (sv O0) (OP.extBut _ _ (sv O0) (bc _ rfl));have OZ:g.objs.size=d.objs.size+1:=by rw[OO.1,OP.1,cU]
rw[hsz]at N OY OZ;refine t3 ⟨_,O,?_⟩;show Q (.ref d.objs.size) _;rw[hsz];exact Pd g N (u _ _ t L) (O8.at λo e=>u _ o OS e) (O_.at λo e=>u _ o OT e) (Pc.at λo e=>u _ o OU e) OY OZ λc o c1 c2 c3 c4 D e=>u c o c1 (Pg c o c1 c2 c3 c4 D e))
theorem I4{TI:WF}(J:A.handled=none) (D:Apart z TI TO d p r t O7 O8)
  (hz:eB s.heap z TI TO .none) (y:b4 s.heap TI (.ref d) (.ref p) (.ref r)) (OX:b4 s.heap TO a b c) (h1:s.heap.IsListIter d t k) (L:s.heap.IsList t xs) (N:xs[k]?=none)
  (u:∀h' e,oJ z TO d p r s.heap h'->(∃o,h'.get? e=some o/\o.cls=.type "StopIteration")->E (.ref e) {s with heap:=h'}):
  wpAny (AT prog w) A (h_.«zip.__next__» ⟨[.ref z],[]⟩) Q E s:=by(
obtain⟨⟨OS,OO,OP,OQ,OR⟩,⟨OW,OT,OU,OV⟩,⟨n,OY,OZ⟩,⟨O1,O0⟩,O2,⟨OM,O6,O3,O4,O5⟩,_,_⟩:=D;show wpAny _ _ (sk (.ref z) 2 >>= _) _ _ _;refine IR (i7 hz rfl (x:=.bool false) rfl ?_);show wpAny _ _ (sk (.ref z) 3 >>= _) _ _ _;refine IR (i7 hz rfl (x:=.ref TI) rfl ?_);refine IR (h8 y rfl ?_);show wpAny _ _ (sG (.ref z) >>= _) _ _ _;refine IR ?_;unfold sG;refine IR (i7 hz rfl (x:=.none) rfl (t3 ?_));simp only[a9];refine IR (Dy ?_);refine IR (i7 hz rfl (x:=.ref TO) rfl ?_);refine IR (nO hz (by simp) λT h g=>?_);replace h:eB T z TI TO .ellipsis:=h;refine IR ?_;simp only[kB,CH,rQ,nL];refine IR (IR (r6 ?_));show wpAny _ _ (sH (.ref d) >>= _) _ _ _;refine IR (wpAny_nextOf_list_end J (h1.extBut g.extBut n) (L.extBut g.extBut OM) N λU e j C=>?_);obtain⟨ON,f,i⟩:=C;have m:eB U z TI TO .ellipsis:=j _ _ n.symm h;have H:e≠z:=λq=>by subst q;rw[m]at f;cases f;simp at i
exact nO m (by simp) λY _ l=>u Y e (λc o c1 _ c3 _ _ q=>l.extBut _ _ c1 (j _ _ c3 (g.extBut _ _ c1 q))) ⟨ON,l.extBut _ _ H f,i⟩)
theorem Lf{TI:WF}(D:Apart z TI TO d e f g h i)
  (hz:eB s.heap z TI TO .none) (n:b4 s.heap TI (.ref d) (.ref e) (.ref f)) (o:b4 s.heap TO a b c) (h1:s.heap.IsListIter d g k) (h2:s.heap.IsListIter e h k) (l:s.heap.IsListIter f i k)
  (p:s.heap.IsList g xs) (q:s.heap.IsList h ys) (r:s.heap.IsList i zs) (t:xs[k]?=some x) (u:ys[k]?=some y) (hv:zs[k]?=some v)
  (m:∀h',eB h' z TI TO (hb s.heap.objs.size)->b4 h' TO x y v->h'.IsListIter d g (k+1)->h'.IsListIter e h (k+1)->h'.IsListIter f i (k+1)->b4 h' s.heap.objs.size x y v->h'.objs.size=s.heap.objs.size+1->
   oJ z TO d e f s.heap h'->Q (some (.ref s.heap.objs.size)) {s with heap:=h'}):wpAny (AT prog w) A (eU (.ref z)) Q E s:=by(
have hT:s.TypeIs (.ref z) "zip":=⟨_,hz,O⟩;unfold eU;exact IR (r5 (rX (name:=bO "__next__") hT F.slot_zip_next (i5 F.slot_zip_next hT F.entry_zip_next
  (I6 D hz n o h1 h2 l p q r t u hv λh' a1 a2 a3 a4 a5 a6 a7 j=>t3 (m h' a1 a2 a3 a4 a5 a6 a7 j)) (F.args_zip_next_1 _)))))
theorem Le{TI:WF}(p:A.handled=none) (D:Apart z TI TO d f g h x y)
  (hz:eB s.heap z TI TO .none) (j:b4 s.heap TI (.ref d) (.ref f) (.ref g)) (l:b4 s.heap TO a b c) (h1:s.heap.IsListIter d h k) (r:s.heap.IsList h xs) (u:xs[k]?=none)
  (i:∀h',oJ z TO d f g s.heap h'->Q none {s with heap:=h'}):wpAny (AT prog w) A (eU (.ref z)) Q E s:=by
 have hT:s.TypeIs (.ref z) "zip":=⟨_,hz,O⟩;unfold eU;refine IR (r5 (rX (name:=bO "__next__") hT F.slot_zip_next (i5 F.slot_zip_next hT F.entry_zip_next (I4 p D hz j l h1 r u λh' e q n=>?_) (F.args_zip_next_1 _))));obtain⟨o,t,m⟩:=n;exact IR (C7 (T:="StopIteration") (b:=true) ⟨o,t,m⟩ De (t3 (i _ q)))
end
noncomputable abbrev ej (l:WF):Obj:= {cls:=.type "list_iterator",data:=.fields #[.ref l,.int 0 0]}
abbrev g3 (h:s2) (a b c:WF):s2:=((h.push (ej a)).push (ej b)).push (ej c)
noncomputable abbrev g4 (h:s2) (a b c:WF):s2:=(g3 h a b c).push {cls:=.type "tuple",data:=.seq #[.ref h.objs.size,.ref (h.push (ej a)).objs.size,.ref ((h.push (ej a)).push (ej b)).objs.size]}
noncomputable abbrev g5 (h:s2) (a b c:WF):s2:=(g4 h a b c).push {cls:=.type "tuple",data:=.seq #[.none,.none,.none]}
noncomputable abbrev g6 (h:s2) (a b c:WF):s2:=(g5 h a b c).push {cls:=.type "zip",data:=.fields #[.none,.bool false,.bool false,.ref (g3 h a b c).objs.size,.ref (g4 h a b c).objs.size]}
theorem IG (a b c:WF) (xs ys zs:Array Tk):
  Meets (h_.«zip.__new__» ⟨[.type "zip",.ref a,.ref b,.ref c],[]⟩) (λ_ R s=>s.heap.IsList a xs/\s.heap.IsList b ys/\s.heap.IsList c zs/\R (.ok (.ret (.ref (g5 s.heap a b c).objs.size))) {s with heap:=g6 s.heap a b c}):=
 .of_wp λprog w A R s h=>by
  obtain⟨e,g,d,tk,os⟩:=s;obtain⟨k,l,m,h⟩:=h;have n:=sub_zip;have f:w8 (Shared.heap ⟨e,g,d,tk,os⟩) a xs:=k;have i:w8 (Shared.heap ⟨e.push (ej a),g,d,tk,os⟩) b ys:=xT l _;have j:w8 (Shared.heap ⟨(e.push (ej a)).push (ej b),g,d,tk,os⟩) c zs:=xT (xT m _) _
  wp_walk using nP f,nP i,nP j
  exact⟨_,O,h⟩
theorem FF{s:Go}(r:s.heap.IsList a xs) (t:s.heap.IsList b ys) (u:s.heap.IsList d zs)
  (h:∀h',eB h' (s.heap.objs.size+5) (s.heap.objs.size+3) (s.heap.objs.size+4) .none->b4 h' (s.heap.objs.size+3) (.ref s.heap.objs.size) (.ref (s.heap.objs.size+1)) (.ref (s.heap.objs.size+2))->b4 h' (s.heap.objs.size+4) .none .none .none->
   h'.IsListIter s.heap.objs.size a 0->h'.IsListIter (s.heap.objs.size+1) b 0->h'.IsListIter (s.heap.objs.size+2) d 0->h'.objs.size=s.heap.objs.size+6->(∀c o,s.heap.get? c=some o->h'.get? c=some o)->Q (.ref (s.heap.objs.size+5)) {s with heap:=h'}):
  wpAny (AT prog w) A (call (.type "zip") [.ref a,.ref b,.ref d]) Q E s:=by(
refine callType_new F.called_zip (by decide) (M_ _ _ _) (I2 _ _ _) (λobj=>Hn obj _ _ _) F.entry_zip_new (IG a b d xs ys zs) ⟨r,t,u,?_⟩;have f:(s.heap.push (ej a)).objs.size=s.heap.objs.size+1:=cU ..;have g:((s.heap.push (ej a)).push (ej b)).objs.size=s.heap.objs.size+2:=by rw[cU,f]
have i:(g3 s.heap a b d).objs.size=s.heap.objs.size+3:=by rw[cU,g]
have j:(g4 s.heap a b d).objs.size=s.heap.objs.size+4:=by rw[cU,i]
have k:(g5 s.heap a b d).objs.size=s.heap.objs.size+5:=by rw[cU,j]
have y:(g6 s.heap a b d).objs.size=s.heap.objs.size+6:=by rw[cU,k]
have e:(g6 s.heap a b d).get? (g5 s.heap a b d).objs.size=some _:=bc _ rfl;have p:(g6 s.heap a b d).get? (g4 s.heap a b d).objs.size=some _:=ln _ (bc _ rfl);have n:(g6 s.heap a b d).get? (g3 s.heap a b d).objs.size=some _:=ln _ (ln _ (bc _ rfl));have m:(g6 s.heap a b d).get? ((s.heap.push (ej a)).push (ej b)).objs.size=some _:=ln _ (ln _ (ln _ (bc _ rfl)));have l:(g6 s.heap a b d).get? (s.heap.push (ej a)).objs.size=some _:=ln _ (ln _ (ln _ (ln _ (bc _ rfl))));have q:(g6 s.heap a b d).get? s.heap.objs.size=some _:=ln _ (ln _ (ln _ (ln _ (ln _ (bc _ rfl)))));show _/\_;rw[i,j,k]at e;rw[f,g,i]at n;rw[j]at p;rw[g]at m;rw[f]at l;rw[k];exact⟨⟨_,e,O⟩,h _ e n p ⟨_,q,O,O⟩ ⟨_,l,O,O⟩ ⟨_,m,O,O⟩ y λc o x=>ln _ (ln _ (ln _ (ln _ (ln _ (ln _ x)))))⟩)
end Z3
namespace L2
open PySem PySem.Spec PyProof.Rows
noncomputable def eM (xs:List W1) (lo hi st:Option Int):List W1:=(nT (fR lo hi st xs.length).1 (fR lo hi st xs.length).2.1 (fR lo hi st xs.length).2.2).filterMap (xs[·]?)
theorem ww.pick(r:ww xs us):∀l:List Nat,ww (l.filterMap (xs[·]?)) (l.filterMap (us.toArray[·]?))
 |[]=>.nil
 |i::l=>by
  rw[hn,hn];cases e:xs[i]? with
  |none=>
   have:us.toArray[i]?=none:=by simpa using r.none_of e
   rw[this];exact ww.pick r l
  |some x=>
   obtain⟨u,a,b⟩:=r.get e;have:us.toArray[i]?=some u:=by simpa using a
   rw[this];exact .cons b (ww.pick r l)
theorem K0(r:ww xs us) (lo hi st:Option Int):ww (eM xs lo hi st) (se us.toArray lo hi st).toList:=by(
have e:us.toArray.size=xs.length:=by rw[aU];exact r.length.symm
unfold se eM;rw[e];exact r.pick _)
def vQ (K:wf) (te:TE) (tl th ts:TO):TE:=λZB H Q=>te ZB H λx H1=>tl ZB H1 λlo H2=>th ZB H2 λhi c=>ts ZB c λst b=>∃a xs,x=.ref a/\TD K b a xs/\st≠some 0/\(eM xs lo hi st).length<=Gc/\∀p,b p=none->Q (.ref p) (Uf b p (.lst (eM xs lo hi st)))
theorem lq{lo:Option s5}(y:PE X e te) (z:PO X lo tl) (hu:PO X hi th) (C:PO X (some sp) ts):PE X (.Subscript e (.Slice lo hi (some sp) p2) pos) (vQ X.K te tl th ts):=by
 intro WP s ZB H Q XV h;refine sM (wP (y WP s ZB H _ XV h) λv OM OP=>Do OP λx H1 m Y L=>?_);refine Dp (wP (z WP OM ZB H1 _ m L) λg ON OQ=>Do OQ λl H2 n pl N=>wP (hu WP ON ZB H2 _ n N) λi OO OR=>Do OR λu j p J T=>wP (C WP OO ZB j _ p T) λvs c OS=>Do OS λst k t ps U=>?_);obtain⟨a,xs,rfl,D,h0,E,q⟩:=U;cases Y;have d:Inv X WP ZB k {c with heap:=c.heap.push {cls:=.type "slice",data:=.fields #[g,i,vs]}}:=t.kept (t':=c.toks) λb ob q=>ln _ q;obtain⟨Op,r,f,hz⟩:=d.list D;have OT:=r.length;show wpAny (AT X.prog X.w) X.A (sJ e (.Slice lo hi (some sp) p2) (.ref a) (.ref c.heap.objs.size)) (EP X WP ZB Q) X.xe {c with heap:=c.heap.push {cls:=.type "slice",data:=.fields #[g,i,vs]}};refine tail_any (ops:=[.ref a,.ref c.heap.objs.size]) f.isList.typeIs wD.lookup (CO f.isList (Heap.IsSliceOf.new ..) pl J ps h0 ?_ (by rw[aU];lia)) (by with_unfolding_all rfl);refine⟨.ref _,_,d.laid (t':=c.toks) (o:=.lst (eM xs l u st)) (λb ob q=>ln _ q) (tz _) ?_,O,q _ (d.ag.fresh (tz _))⟩;exact⟨E,_,0,K0 r l u st,bc _ rfl⟩
def bp:Nat->Bool:=λ_=>false
theorem Hw(i:Nat) (p:cD vs ns):tupItems bp i vs=some (ns.map ii):=by(
induction p generalizing i with
|nil=>rfl
|cons n t h a=>
 show(if bp i=true then none else(tupItems bp (i+1) _).map (ii n:: ·))=_;rw[Ps (by simp[bp]),a (i+1)];rfl)
theorem px:∀a b:List Int,lexLt xD (a.map ii) (b.map ii)=ci a b
 |[],[]=>rfl
 |[],_::_=>rfl
 |_::_,[]=>rfl
 |x::a,y::b=>by
  rw[m0,m0,lex_cons,px a b];show(decide (x<y)||(!decide (y<x)&&ci a b))=(decide (x<y)||(decide (x=y)&&ci a b));by_cases h:x<y
  ·simp[h]
  ·by_cases h2:y<x
   ·simp[h,h2,show ¬x=y by lia]
   ·simp[h,h2,show x=y by lia]
theorem BV(d:ji h a Op.toArray) (hi:cD Op ns):G.tupKeyC h bp (.ref a)=some (ns.map ii):=by
 obtain⟨o,b,c,n,hd⟩:=d;unfold G.tupKeyC;rw[No (show G.isTupObj h (.ref a)=true by simp[G.isTupObj,b,c])];simp only[tupKey,b,hd];exact Hw 0 hi
def u0 (K:wf):List W1->Hp->VK->Prop:=λvs H Q=>∃(a:WF) (ts:List (WF×List Int)),vs=[W1.ref a]/\TD K H a (ts.map λt=>W1.ref t.1)/\(∀t,t∈ts->pm K H t.1 (t.2.map W1.int)/\t.2≠[])/\
 ∀(us:List (WF×List Int)) (p:WF),us.Perm ts->us.Pairwise (λx y=>Tw.c6 x.2 y.2)->H p=none->Q (.ref p) (Uf H p (.lst (us.map λt=>W1.ref t.1)))
theorem AX:∀ {ts:List (WF×List Int)}{us:List Tk},ww (ts.map λt=>W1.ref t.1) us->us=ts.map λt=>em t.1
 |[],_,.nil=>rfl
 |t::ts,_,.cons r a=>by
  cases r;rw[m0,AX a]
theorem B2:∀(ts:List (WF×List Int)),ww (ts.map λt=>W1.ref t.1) (ts.map λt=>em t.1)
 |[]=>.nil
 |_::ts=>.cons rfl (B2 ts)
theorem FQ:hs X (.builtin "sorted") (u0 X.K):=by(
intro WP s ZB H vs us Q XV r h;obtain⟨a,ts,rfl,OX,N,q⟩:=h;obtain⟨Op,Y,OT,hz⟩:=XV.list OX;rw[ww.u5 r];have g:=AX Y;have key:∀t,t∈ts->G.tupKeyC s.heap bp (.ref t.1)=some (t.2.map ii):=λt m=>by
 obtain⟨OY,D,O2,_⟩:=XV.tuple (N t m).1;exact BV O2 D.ints
have fb:∀l:List (WF×List Int),(∀t,t∈l->t∈ts)->∃fs,sO s.heap bp (l.map λt=>em t.1) fs:=by
 intro l
 induction l with
 |nil=>intro _;exact⟨[],.nil⟩
 |cons t l A=>
  intro hm;obtain⟨fs,f⟩:=A λu hu=>hm u (o0 _ hu);obtain⟨h1,h2⟩:=N t (hm t (kt ..));obtain⟨OY,D,⟨o,OW,OO,n,hd⟩,_⟩:=XV.tuple h1;have hi:=D.ints;obtain⟨b,ns⟩:=t;cases ns with
  |nil=>exact absurd rfl h2
  |cons k ns=>
   cases hi with
   |cons _ tk E=>exact⟨_::fs,.cons ⟨b,o,_,n,O,OW,OO,hd,O,λ_=>⟨_,_,O⟩,λe=>by cases e⟩ f⟩
obtain⟨fs,f⟩:=fb ts λ_ m=>m;rw[<- g]at f;have OU:=Y.length;refine G.sorted_tups OT.isList f (λv hv=>?_) (by rw[<- OU];exact hz) λO1 J L _=>?_
·rw[g]at hv;obtain⟨t,m,rfl⟩:=mo.mp hv;exact⟨_,key t m⟩
·generalize hA:arrOf O1=arr at J L
 let c:cn->WF×List Int:=λp=>match p.2 with
  |.ref b=>(b,((G.tupKeyC s.heap bp (.ref b)).getD []).map λz=>match z with|.inl n=>n|.inr _=>0)
  |_=>(0,[])
 have w:arr.toList.Perm (Op.zip Op):=by
  have e:=xG.mp J
  rwa [xx]at e
 have C:∀t,t∈ts->c (.ref t.1,.ref t.1)=t:=λt m=>by
  show(t.1,((G.tupKeyC s.heap bp (.ref t.1)).getD []).map _)=t;rw[key t m];simp only[xt,ax];have:((λ(z:Int ⊕ List Nat)=>match z with|.inl n=>n|.inr _=>0)∘ii)=(id:Int->Int):=rfl;rw[this,rT]
 have ON:Op.zip Op=ts.map λt=>((.ref t.1,.ref t.1):cn):=by
  rw[g];generalize ts=l
  induction l with
  |nil=>rfl
  |cons t l A=>simp only[m0,oE,A]
 have U:∀p,p∈arr.toList->∃t,t∈ts/\p=(.ref t.1,.ref t.1):=λp m=>by
  have:=w.mem_iff.mp m;rw[ON]at this;obtain⟨t,d,e⟩:=mo.mp this;exact⟨t,d,e.symm⟩
 have perm:(arr.toList.map c).Perm ts:=by
  refine(w.map c).trans ?_;rw[ON,ax];refine xV ?_
  conv=>rhs;rw[<- rT ts]
  exact eE λt m=>C t m
 have OZ:(arr.map (·.2)).toList=(arr.toList.map c).map λt=>em t.1:=by
  rw[Eg,ax];refine eE λp m=>?_;obtain⟨t,d,rfl⟩:=U p m;show em t.1=em (c (.ref t.1,.ref t.1)).1;rw[C t d]
 have T:∀i (hi:i<arr.toList.length),KK (G.tupKindC s.heap bp) arr i=((c arr.toList[i]).2).map ii:=λi hi=>by
  obtain⟨t,d,e⟩:=U _ (eX hi);unfold KK;have E:i<arr.size:=by simpa using hi
  rw[xH E,<-Ef];show((G.tupKeyC s.heap bp (arr.toList[i]).1).getD [])=_;rw[e,C t d];show(G.tupKeyC s.heap bp (.ref t.1)).getD []=_;rw[key t d];rfl
 have O0:(arr.toList.map c).Pairwise (λx y=>Tw.c6 x.2 y.2):=by
  rw[jl,ky];intro i j hi OR OQ;have OS:j<(gz Op).size:=by
   have:=w.length_eq;rw[sL];simp only[List.length_zip,Nat.min_self]at this;lia
  have:=L i j (ed OQ) OS;rw[T i hi,T j OR]at this;have OM:lexLt xD (((c arr.toList[j]).2).map ii) (((c arr.toList[i]).2).map ii)=false:=this;rw[px]at OM;exact Tw.jT.mp (by rw[OM];rfl)
 obtain⟨ep,OP⟩:=D' s.heap Op (arr.map (·.2));have OV:((arr.toList.map c).map λt=>W1.ref t.1).length<=Gc:=by
  rw[FM,perm.length_eq];rw[FM]at hz;exact hz
 refine⟨.ref _,Uf H (s.heap.objs.size+1) (.lst ((arr.toList.map c).map λt=>W1.ref t.1)),XV.laid (t':=s.toks) (λ_ _=>D_) (ij _) ⟨OV,(arr.map (·.2)).toList,ep,?_,OP⟩,O,q _ _ perm O0 (XV.ag.fresh (ij _))⟩;rw[OZ];exact B2 _)
def mr (K:wf) (a b c:WF):It:=
 ⟨λi H=>∃(xs ys zs:List W1) (x y z:W1),TD K H a xs/\TD K H b ys/\TD K H c zs/\xs[i]?=some x/\ys[i]?=some y/\zs[i]?=some z,
  λi H v I=>∃T x y z,v=.ref T/\H T=none/\I=Uf H T (.tup [x,y,z])/\(∀xs,TD K H a xs->xs[i]?=some x)/\(∀ys,TD K H b ys->ys[i]?=some y)/\∀zs,TD K H c zs->zs[i]?=some z,
  λi H=>∃xs:List W1,TD K H a xs/\xs.length<=i⟩
theorem M6 {P:fr}{w:kw}{K:wf}{O4:List s5}{Pb:Nat}{lM:Pos}{a b c z TI TO g j m:WF}(D:Z3.Apart z TI TO g j m a b c):
  hE P w K (.Tuple O4 Pb lM) (mr K a b c) [z,TI,TO,g,j,m] z (λi h=>eB h z TI TO .none/\Z3.b4 h TI (.ref g) (.ref j) (.ref m)/\(∃x y v,Z3.b4 h TO x y v)/\h.IsListIter g a i/\h.IsListIter j b i/\h.IsListIter m c i) where
 mem:=by simp
 obj:=λi h st c J=>by
  obtain⟨hz,f,⟨x,y,v,n⟩,⟨Pc,OM,_,O1⟩,⟨Pd,ON,_,O2⟩,⟨Pe,OO,_,O3⟩⟩:=st;have Y:c=z\/c=TI\/c=TO\/c=g\/c=j\/c=m:=by simpa using J
  rcases Y with q|q|q|q|q|q
  ·rw[q];exact⟨_,hz,λv q=>nomatch q⟩
  ·rw[q];exact⟨_,f,λv q=>nomatch q⟩
  ·rw[q];exact⟨_,n,λv q=>nomatch q⟩
  ·rw[q];exact⟨Pc,OM,λv q=>by rw[O1]at q;cases q⟩
  ·rw[q];exact⟨Pd,ON,λv q=>by rw[O2]at q;cases q⟩
  ·rw[q];exact⟨Pe,OO,λv q=>by rw[O3]at q;cases q⟩
 keep:=λi h h' st k=>by
  obtain⟨hz,f,⟨x,y,v,n⟩,h1,h2,t⟩:=st;exact⟨k z (by simp) _ hz,k TI (by simp) _ f,⟨x,y,v,k TO (by simp) _ n⟩,h1.at λo q=>k g (by simp) o q,h2.at λo q=>k j (by simp) o q,t.at λo q=>k m (by simp) o q⟩
 item:=by
  intro X OR hw OQ J i WP s ZB H E XV hf st hg;subst OR hw OQ;obtain⟨hz,f,⟨x0,Pn,Pm,n⟩,h1,h2,t⟩:=st;obtain⟨xs,ys,zs,x,y,v,N,OU,OV,OW,OX,hv⟩:=hg;obtain⟨Op,OS,p,_⟩:=XV.list N;obtain⟨Pr,Pk,p2,_⟩:=XV.list OU;obtain⟨Pt,Pl,Pf,_⟩:=XV.list OV;obtain⟨u,hu,Pg⟩:=OS.get OW;obtain⟨T,O_,Ph⟩:=Pk.get OX;obtain⟨U,Pa,Pj⟩:=Pl.get hv;have OY:z<s.heap.objs.size:=cr hz;refine Z3.Lf D hz f n h1 h2 t p.isList p2.isList Pf.isList (x:=u) (y:=T) (v:=U) (by simpa using hu) (by simpa using O_) (by simpa using Pa) λh' Po O0 O5 O6 O7 hT hsz L=>?_;refine⟨_,O,wpAny_letOwnedTupleGo_zip (s:= {s with heap:=h'}) Po λOP Pp r=>?_⟩;have O8:OP.get? s.heap.objs.size=some {cls:=.type "tuple",data:=.seq #[u,T,U]}:=(r.2 _ (sv OY)).trans hT;have new:bA X.prog X.w (Uf H s.heap.objs.size (.tup [x,y,v])) OP s.heap.objs.size (.tup [x,y,v]):=
   ⟨by show 3<=Gc;decide,[u,T,U],.cons Pg (.cons Ph (.cons Pj .nil)),⟨_,O8,O,_,O⟩⟩
  have OZ:Inv X WP ZB (Uf H s.heap.objs.size (.tup [x,y,v])) {s with heap:=OP}:=
   XV.M8 (t':=s.toks) (ch:=[z,TI,TO,g,j,m]) (λc o e q=>(r.2 c (λd=>e (by simp[d]))).trans (L c o (λd=>e (by simp[d])) (λd=>e (by simp[d])) (λd=>e (by simp[d])) (λd=>e (by simp[d])) (λd=>e (by simp[d])) q)) hf (tz _) new
  refine⟨.ref s.heap.objs.size,_,OZ,O,⟨_,x,y,v,O,XV.ag.fresh (tz _),O,λl C=>by rw[XV.pA C N];exact OW,λl C=>by rw[XV.pA C OU];exact OX,λl C=>by rw[XV.pA C OV];exact hv⟩,⟨Pp,?_,⟨u,T,U,?_⟩,?_,?_,?_⟩,λc OT=>?_⟩
  ·exact(r.2 _ D.k_.1).trans (L _ _ D.k_.1 D.k_.2.1 D.k_.2.2.1 D.k_.2.2.2.1 D.k_.2.2.2.2 f)
  ·exact(r.2 _ D.IW.1).trans O0
  ·exact O5.at λo q=>(r.2 _ D.n1.1).trans q
  ·exact O6.at λo q=>(r.2 _ D.n2.1).trans q
  ·exact O7.at λo q=>(r.2 _ D.n3).trans q
  ·have O9:c<s.heap.objs.size:=by
    have Y:c=z\/c=TI\/c=TO\/c=g\/c=j\/c=m:=by simpa using OT
    rcases Y with q|q|q|q|q|q
    ·rw[q];exact OY
    ·rw[q];exact cr f
    ·rw[q];exact cr n
    ·rw[q];obtain⟨_,OM,_⟩:=h1;exact cr OM
    ·rw[q];obtain⟨_,ON,_⟩:=h2;exact cr ON
    ·rw[q];obtain⟨_,OO,_⟩:=t;exact cr OO
   rw[UF (cb O9)];exact(hf c OT).1
 done:=by
  intro X OR hw OQ J i WP s ZB H E XV hf st hg;subst OR hw OQ;obtain⟨hz,f,⟨x0,Pn,Pm,n⟩,h1,h2,t⟩:=st;obtain⟨xs,N,Pq⟩:=hg;obtain⟨Op,OS,p,_⟩:=XV.list N;have Pu:=OS.length;exact Z3.Le (XV.ok.hd J) D hz f n h1 p.isList (by simp;lia) λh' L=>⟨O,XV.M7 (t':=s.toks) (ch:=[z,TI,TO,g,j,m]) (λc o e q=>
   L c o (λd=>e (by simp[d])) (λd=>e (by simp[d])) (λd=>e (by simp[d])) (λd=>e (by simp[d])) (λd=>e (by simp[d])) q) hf⟩
 self:=λA i s Q E st h=>C8 st.1 h
theorem aY(h:@Ne Nat x y):@Ne WF x y:=h
theorem Fh{c:Nat}(h1:a<n) (h2:b<n) (d:c<n):Z3.Apart (n+5) (n+3) (n+4) n (n+1) (n+2) a b c:=
 ⟨⟨aY (by lia),aY (by lia),aY (by lia),aY (by lia),aY (by lia)⟩,⟨aY (by lia),aY (by lia),aY (by lia),aY (by lia)⟩,⟨aY (by lia),aY (by lia),aY (by lia)⟩,
  ⟨aY (by lia),aY (by lia)⟩,aY (by lia),⟨aY (by lia),aY (by lia),aY (by lia),aY (by lia),aY (by lia)⟩,⟨aY (by lia),aY (by lia),aY (by lia),aY (by lia),aY (by lia)⟩,
  ⟨aY (by lia),aY (by lia),aY (by lia),aY (by lia),aY (by lia)⟩⟩
def Hl (K:wf) (ta:TA):TI:=λZB H R=>ta ZB H λvs H1=>∃a b c xs ys zs,vs=[.ref a,.ref b,.ref c]/\TD K H1 a xs/\TD K H1 b ys/\TD K H1 c zs/\R (mr K a b c) H1
theorem KZ {X:Cx}{e g i:s5}{ta:TA}{p pos lM:Pos}{t:List s5}{Q:Nat}(hg:Gl X "zip") (hm:X.mg "zip"=none) (y:PA X [e,g,i] ta)
  (N:al [e,g,i] X.env=(false,eval e X.env)::al [g,i] X.env:=by rfl) (D:(d9 pos (al [g,i] X.env)).any (·.1)=false:=by rfl):
  PI X (.Tuple t Q lM) (.Call (.Name "zip" p) [e,g,i] [] pos) (Hl X.K ta):=by(
intro WP s ZB H R XV h;refine sP (k5 XV hg hm Fw (oh (wP (y pos WP s ZB H _ XV h) λus d ON=>Do ON λvs H1 f OM T=>?_) N D));obtain⟨a,b,c,xs,ys,zs,ex,E,J,L,q⟩:=T;subst ex;obtain⟨⟩|⟨r,j⟩:=OM;obtain⟨⟩|⟨U,j⟩:=j;obtain⟨⟩|⟨Y,j⟩:=j;cases j;cases r;cases U;cases Y;obtain⟨Op,OQ,l,_⟩:=f.list E;obtain⟨OO,OR,p2,_⟩:=f.list J;obtain⟨OP,OS,m,_⟩:=f.list L;refine Z3.FF l.isList p2.isList m.isList λh' hz w x h1 h2 u hsz C=>C8 hz ?_;have n:Inv X WP ZB H1 {d with heap:=h'}:=f.kept (t':=d.toks) C;refine⟨d.heap.objs.size+5,[d.heap.objs.size+5,d.heap.objs.size+3,d.heap.objs.size+4,d.heap.objs.size,d.heap.objs.size+1,d.heap.objs.size+2],_,_,H1,O,n,M6 (Fh l.lt p2.lt m.lt),⟨hz,w,⟨_,_,_,x⟩,h1,h2,u⟩,λc A=>?_,q⟩;have o:c=d.heap.objs.size+5\/c=d.heap.objs.size+3\/c=d.heap.objs.size+4\/c=d.heap.objs.size\/c=d.heap.objs.size+1\/c=d.heap.objs.size+2:=by simpa using A
have k:d.heap.objs.size<=c:=by
 rcases o with z|z|z|z|z|z<;>rw[z]<;>first|exact tz _|exact Nat.le_add_right _ _
exact f.kZ k (f.ag.fresh k))
theorem FV{ZB:St}(XV:Inv X WP ZB H s) (e:H a=some (.dT T0)) (h:∀s',Inv X WP ZB (Uf H a (.dT [])) s'->Q .none s'):
  wpAny (AT X.prog X.w) A (call (.builtin "dict.clear") [.ref a]) Q E s:=by(
obtain⟨z,hd,xs,n,f⟩:=y6 XV.ag e;have g:=f.typeIs (s:=s);obtain⟨o,es,ep,c,m,b,k,q,p⟩:=id f;have j:es.size<=Gc:=by
 have i:es.toList.length=xs.length:=by rw[k,FM]
 rw[sR]at i;have:=Paired.length n;lia
refine i5 oe g N7 ?_ (N4 _);unfold h_.«dict.clear»;refine IR ?_;unfold Oi;refine IR (CV g ?_);show wpAny _ _ (pure a) _ _ s;refine t3 ?_;refine IR (r0 c b ?_);refine IR ?_;unfold bearsInstanceDictMark;refine IR (Ds c (t3 ?_));refine IR (wpAny_updateDictKeys (hz:=j) c b ?_);have l:bA X.prog X.w (Uf H a (.dT [])) (s.heap.update a (Eo λ_=> #[])) a (.dT []):=
 ⟨f4 _,hd,[],.nil,_,_,ep+1,kn _ c (Em (xI b _)),m.mapDictKeys _,xI b _,O,rR⟩
have d:Inv X WP ZB (Uf H a (.dT [])) {s with heap:=s.heap.update a (Eo λ_=> #[])}:=o2 (t':=s.toks) XV (by rw[e];exact True.intro) (sS ..) ⟨_,kn _ c (Em (xI b _))⟩ l;split
·exact IR (i8 (t3 ⟨.none,O,h _ d⟩))
·exact IR (t3 (t3 ⟨.none,O,h _ d⟩)))
def Lj:W1->List W1->Hp->VK->Prop:=λx xs H Q=>∃a T0,x=.ref a/\xs=[]/\H a=some (.dT T0)/\Q .ak (Uf H a (.dT []))
theorem pG:s8 X "dict.clear" Lj:=by
 intro WP s ZB H x xs v us Q XV c d h;obtain⟨a,T0,rfl,rfl,e,q⟩:=h;cases c;cases d;exact FV XV e λs' b=>⟨.ak,_,b,O,q⟩
open PySem.W in
theorem Ly {R:WRecords}{cl:Str->Option WF}{h:s2}{vs:List Tk}{ns:List Int}(p:cD vs ns):ReadsAllW R cl h vs (ns.map WData.int) []:=by
 induction p with
 |nil=>exact .nil
 |cons n t r a=>exact .cons (as:=[]) (bs:=[]) (.int n t) a
theorem Hr:∀ {vs:List Tk}{ns:List Int},ww (ns.map W1.int) vs->cD vs ns:=λ{vs ns} r=>intsAre_of r
theorem My{K:wf}
  (y:K.In c.heap) (N:c.heap.Ns cS mg) (f:c.heap.Ns wL T) (OT:∀x:Str,x≠ "__name__"->T x=lP x) (OV:c.heap.NoLimit) (hg:c.gens= #[])
  (i:c.heap.get? a=some {cls:=.type "list",data:=.seq vs.toArray}) (hi:cD vs ns) (L:ns.length<=Gc) (OW:bC k lW)
  (F:∀base:s2,K.In base->base.Ns cS mg->AC P w K mg base xL k fa fd [x] sp) (OU:∀(s:Go) (u:Tk),nU s fd ⟨[u],[]⟩ [(x,u)])
  (OX:∀H:Hp,s_ H->TD K H a (ns.map W1.int)->sp [.ref a] H (λv I=>∃l,v=.ref l/\I l=some (.lst (out.map W1.int))) E0):
  codeAny (AT P w) lW (.call (.ref fa) ⟨[.ref a],[]⟩) (λr s'=>(∃l Op n,r=.ok (.ret (.ref l))/\s'.heap.get? l=some {cls:=.type "list",data:=.seq (wA Op) n}/\cD Op out)/\OldK c.heap s'.heap/\s'.os=c.os/\jg s'.gens) c:=by(
have U:=B0 hi;have jP:=hi.length;have C:∀H:Hp,s_ H->TD K H a (ns.map W1.int)->aV P w H c.heap->(∀b,H b≠none->b=a)->(H a≠none->K.lookup a=none)->
  codeAny (AT P w) lW (.call (.ref fa) ⟨[.ref a],[]⟩) (λr s'=>(∃l Op n,r=.ok (.ret (.ref l))/\s'.heap.get? l=some {cls:=.type "list",data:=.seq (wA Op) n}/\cD Op out)/\OldK c.heap s'.heap/\s'.os=c.os/\jg s'.gens) c:=by
 intro H J OS ag hA OQ;have A:∀ {b:WF}{o:Obj},c.heap.get? b=some o->H b=none->(gi c.heap H).get? b=some o:=λe n=>He e n;have OZ:∀ {b:WF}{o:Obj}{es:Array g_}{ep:Nat},c.heap.get? b=some o->o.data=.dict es ep->H b=none:=λ{b o es ep} e d=>by
  cases q:H b with
  |none=>rfl
  |some u=>
   have p:b=a:=hA b (by rw[q];simp);subst p;rw[i]at e;cases e;have d':Data.seq vs.toArray _=Data.dict es ep:=d;cases d'
 have j:∀ {b:WF}{m:Str->Option Tk},c.heap.Ns b m->(gi c.heap H).Ns b m:=λ{b m} O3=>by obtain⟨o,es,ep,e,d,r⟩:=O3;exact⟨o,es,ep,A e (OZ e d),d,r⟩
 have E:K.In (gi c.heap H):=λb o e=>A (y b o e) (by
  cases q:H b with
  |none=>rfl
  |some u=>
   have p:b=a:=hA b (by rw[q];simp);subst p;rw[OQ (by rw[q];simp)]at e;cases e)
 have OR:Mod K mg (gi c.heap H):=⟨E,j N,⟨T,j f,OT⟩,let ⟨OY,h1,h2⟩:=OV;⟨OY,j h1,h2⟩⟩;have Y:jr P w K mg (gi c.heap H) lW [] c H:=⟨O,OR,λb o e=>Jg e,ku (Hf _ _),trivial,λb f=>absurd (show b∈([]:List WF) from f) (by simp),ag,.of_eq hg⟩;refine r8 ((F _ E (j N)).run lW [] c H ⟨[.ref a],[]⟩ [.ref a] [.ref a] _ _ OW Y (OU c (.ref a)) (.cons rfl .nil) (OX H J OS)) λr s' h=>?_;cases r with
 |error e=>exact ef h
 |ok fl=>
  cases fl with
  |next=>exact ef h
  |brk=>exact ef h
  |cont=>exact ef h
  |ret u=>
   obtain⟨v,I,os,bare,un,Q,O0,l,OO,ON⟩:=h;subst OO;cases O0;obtain⟨_,Op,n,O1,OP⟩:=(show bA P w I s'.heap l (.lst (out.map W1.int)) from Q l _ ON);refine⟨⟨l,Op,n,O,OP,Hr O1⟩,OldK.of_keep λb o e=>?_,os,bare⟩;cases q:H b with
   |none=>exact un.keep b o e q (by intro z;exact absurd (show b∈([]:List WF) from z) (by simp)) (by simp)
   |some u=>
    rcases J b with z|⟨ob,xs,z⟩
    ·rw[q]at z;cases z
    ·have O2:=un.gh b ob _ z;obtain⟨D,_⟩:=ag b _ z;obtain⟨OM,_⟩:=Q b _ O2;rw[e]at D;cases D;exact OM
cases t:K.lookup a with
|some o=>
 have e:=y a o t;rw[i]at e;cases e;refine C (λ_=>none) (λ_=>.inl rfl) (.inr ⟨_,vs.toArray,_,t,O,O,O,by rw[aU,jP];exact L,by simpa using U⟩) (λb u z=>by have g:(none:Option HO)=some u:=z;cases g) (λb z=>absurd rfl z) λz=>absurd rfl z
|none=>
 refine C (λb=>if b=a then some (.aw {cls:=.type "list",data:=.seq vs.toArray} (.lst (ns.map W1.int)))else none) (λb=>?_) (.inl (.inr ⟨{cls:=.type "list",data:=.seq vs.toArray},No rfl⟩)) (λb u z=>?_) (λb z=>?_) λ_=>t
 ·by_cases f:b=a
  ·exact .inr ⟨_,_,No f⟩
  ·exact .inl (Ps f)
 ·by_cases f:b=a
  ·have g:=(No f).symm.trans z;cases g;subst f;exact⟨i,by rw[FM];exact L,vs,_,U,i⟩
  ·have g:=(Ps f).symm.trans z;cases g
 ·by_cases f:b=a
  ·exact f
  ·exact absurd (Ps f) z)
section
open PySem.W
theorem Hs:∀(ns:List Int) (vs:List Tk),xf P h vs (ns.map WData.int)->cD vs ns:=x4.Hq
theorem Nj{lo:Nat}{b2:List Int->Bool}{f:List Int->List Int}{K:nV->wf}{sp:wf->Sp}
  (p:(OpenSpec.mk prog name [.list lo hi (.int c e)] (.list OZ ON (.int O0 O1)) b2 f).wellSaid=true) (OQ:hi<=Gc) (OM:d.params.defaults=[]) (OU:bC k lW)
  (L:∀(w:kw) (h:s2),YP w h->(K w.params).In h)
  (F:∀(w:kw) (mg:Str->Option Tk) (fa:WF) (h:s2),(K w.params).In h->h.Ns cS mg->mg d.name=some (.ref fa)->
   ∃fd:lT,(∀(s:Go) (u:Tk),nU s fd ⟨[u],[]⟩ [(x,u)])/\∀base:s2,(K w.params).In base->base.Ns cS mg->AC prog w (K w.params) mg base xL k fa fd [x] (sp (K w.params)))
  (OV:∀(K:wf) (H:Hp) (a:WF) (ns:List Int),ns.length<=hi->(∀n,n∈ns->c<=n/\n<=e)->b2 ns=true->s_ H->TD K H a (ns.map W1.int)->sp K [.ref a] H (λv I=>∃l,v=.ref l/\I l=some (.lst ((f ns).map W1.int))) E0):
  WalkOS q Pc XP YP (OpenSpec.mk prog name [.list lo hi (.int c e)] (.list OZ ON (.int O0 O1)) b2 f) d [] (λf vs=>PySem.call f vs):=by(
intro w Pf O2 mg Pd G Y fa o Pe O6 O7 y kV Pa hd O8 m OP hg args O3 as OS O9 Pb OW O_;obtain rfl:y=.none:=Dflts.none m OM;obtain rfl:kV=.none:=Dflts.noKw m;obtain⟨t,hw,Q,rfl⟩:=(OpenSpec.pre_iff p args).mp OS;obtain⟨ns,u⟩:=t;have i:ns.length<=hi/\∀n,n∈ns->c<=n/\n<=e:=by
 have h1:(Codec.inList lo hi (Codec.inInt c e) ns&&true)=true:=hw;simp only[Codec.inList,Codec.inLen,Codec.inNat,Codec.inInt,xq,ev,dL,hp]at h1;exact⟨h1.1.2,h1.2⟩
have OX:xf w.params O2.heap O3 [WData.list (ns.map WData.int)]:=OW;cases OX with
|cons O4 O5=>
 cases O5;cases O4 with
 |list OR N=>
  have j:=L w _ Y;obtain⟨fd,U,D⟩:=F w mg fa _ j G.T.g OP;have OO:=Hs ns _ N;refine enter_call (r8 (My (out:=f ns) j G.T.g G.T.b G.T.builtins G.T.nolimit hg OR OO (dz i.1 OQ) OU D U λH E J=>OV (K w.params) H _ ns i.1 i.2 Q E J) λr s' OT=>?_);obtain⟨⟨l,Op,n,rfl,z,OY⟩,h2,A,C⟩:=OT;refine⟨.inl ⟨.ref l,.list ((f ns).map WData.int),[l],O,λ_=>rfl,.list (as:=[]) z rfl rfl (by simpa using Ly OY),?_,λh=>absurd h cc⟩,h2,A,C⟩;exact osPost ((OpenSpec.post_iff p hw _ []).mpr rfl))
end
theorem TD.keep{K:wf}(h:TD K H a xs) (k:∀o,H a=some o->I a=some o):TD K I a xs:=by(
rcases h with(h|⟨o,h⟩)|h
·exact .inl (.inl (k _ h))
·exact .inl (.inr ⟨o,k _ h⟩)
·exact .inr h)
theorem TD.same{K:wf}(h:TD K H a xs) (k:Tl H I):TD K I a xs:=h.keep λo e=>k a o e
theorem Tl.rfl' (H:Hp):Tl H H:=λ_ _ e=>e
theorem Tl.tr(h:Tl H I) (h':Tl I a):Tl H a:=λb o e=>h' b o (h b o e)
theorem Tl.new(h:H p=none):Tl H (Uf H p o):=λb u e=>by
 rw[UF (v0 e h)];exact e
def Ch (l:List WF) (H I:Hp):Prop:=∀b o,H b=some o->b∉l->I b=some o
theorem Ch.rfl' (l:List WF) (H:Hp):Ch l H H:=λ_ _ e _=>e
theorem Ch.tr(h:Ch l H I) (h':Ch m I c) (hm:∀b,b∈m->b∈l\/H b=none):Ch l H c:=λb o e a=>h' b o (h b o e a) λq=>by
 rcases hm b q with z|z
 ·exact a z
 ·rw[z]at e;cases e
theorem Ch.put(h:Ch l H I) (d:a∈l):Ch l H (Uf I a o):=λb u e c=>by
 have ne:b≠a:=λq=>c (by rw[q];exact d);rw[UF ne];exact h b u e c
theorem Ch.new(h:Ch l H I) (c:I a=none):Ch l H (Uf I a o):=λb u e d=>by
 have:=h b u e d;rw[UF (v0 this c)];exact this
theorem Tl.but(h:Tl H I) (l:List WF):Ch l H I:=λb o e _=>h b o e
noncomputable def hide (l:List WF) (H:Hp):Hp:=λb=>if b∈l then none else H b
theorem wl:hide l H b=some o↔b∉l/\H b=some o:=by(
unfold hide;by_cases h:b∈l
·rw[No h];exact⟨λq=>(by cases q),λq=>absurd h q.1⟩
·rw[Ps h];exact⟨λq=>⟨h,q⟩,λq=>q.2⟩)
theorem b7 (l:List WF) (H:Hp):Tl (hide l H) H:=λb o e=>(wl.mp e).2
theorem Ch.hide {l:List WF}{H I:Hp}(h:Ch l H I):Tl (hide l H) (hide l I):=λb o e=>by
 obtain⟨h1,h2⟩:=wl.mp e;exact wl.mpr ⟨h1,h b o h2 h1⟩
theorem fD(h:a∈l):hide l (Uf H a o)=hide l H:=by(
funext b;unfold L2.hide;split
·rfl
·rename_i q;have ne:b≠a:=λe=>q (by rw[e];exact h);rw[UF ne])
theorem nb(a:d.kind=.function) (b:d.isCoroutine=false) (c:d.isGenerator=false) (h:N.Nodup/\N.take P.length=P/\(∀x∈P,d.names.lookup x=some .local\/d.names.lookup x=some .cell)/\∀y∈d.names,y.2≠.free):pu N P d:=⟨a,b,c,h.1,h.2.1,h.2.2.1,h.2.2.2⟩
theorem zS (i:Nat) {X:Cx}{x:Str}{e:s5}{te:TE}{pos eN:Pos}{ps:List Str}{d:d_}(S:pu X.N ps d) (a:PE X e te) (hi:X.N[i]?=some x:=by rfl) (c:Loc X.env.scope x:=by exact .inl rfl) (b:lS e (some (.Name x eN)) pos.line X.env=pure false:=by rfl) (hf:X.fn x=true\/X.env.scope.names.lookup x=some .local:=by first|exact .inl rfl|exact .inr rfl|assumption):PS X (.Assign [.Name x eN] e pos) (h3 te (bh i)):=K6 S.nd hi c a b hf
theorem zG (i:Nat) {X:Cx}{x:Str}{pos:Pos}{ps:List Str}{b:d_}(S:pu X.N ps b) (hi:X.N[i]?=some x:=by rfl) (a:Loc X.env.scope x:=by exact .inl rfl) (hf:X.fn x=true\/X.env.scope.names.lookup x=some .local:=by first|exact .inl rfl|exact .inr rfl|assumption):PG X (.Name x pos) (bh i):=KU S.nd hi a hf
theorem sB.ar{K:wf}{st:v2}(F:sB K x b st f fd) (S:pu N ps (s1 st)) (len:∀vs H Q E,sp vs H Q E->vs.length=ps.length) (c:∀(a:Tk) (A:bJ) (outer:List Env) (s:Go) (H:Hp) (vs:List W1) (Q:VK) (E:XK),bC k (A.deeper (hl b (s1 st) s.heap.objs.size f a))->sp vs H Q E->let X:=(jH xL P w K mg base N b (s1 st) f a A outer s H E).m9;∃t,eF X (fA st) t/\t {nx:=λ_ I=>Q .ak I,rt:=Q} (start N vs) H):AC P w K mg base xL (k+1) f fd ps sp:=F.ok S len c
end L2
namespace Sx
open PySem PyProof.Rows
theorem LB(hf:v1.Fits base) (h1:Returns TW v1 p s c e) (h2:Returns TW v1 p s d f):c=d/\e=f:=by
 obtain⟨a,b⟩:=Reach.det (sb h1 base hf) (sb h2 base hf);cases b;exact⟨O,a⟩
theorem Ba(hf:v1.Fits base) (h1:Runs TW v1 p t fs s a e) (h2:Runs TW v1 p t fs s b f):a=b/\e=f:=by
 obtain⟨c,d⟩:=Reach.det (sb h1 base hf) (sb h2 base hf);exact⟨d,c⟩
theorem Nf(hf:v1.Fits base) (h1:Wakes TW v1 p g r s m n) (h2:Wakes TW v1 p g r s e f):m=e/\n=f:=by(
unfold Wakes at h1 h2;split at h1
·exact h1.elim
·rename_i c a;simp only[a]at h2;split at h1
 ·obtain⟨j,o,a1,a2,rfl,rfl⟩:=h1;obtain⟨k,q,b,h,rfl,rfl⟩:=h2;obtain⟨rfl,rfl⟩:=Ba (hf.wake c g (λ_=>.unsupported "") [] p) a1 b;exact⟨O,O⟩
 ·rename_i v l;have d:e=.justStarted/\f=s:=by
   cases v<;>first|exact absurd rfl l|exact h2
  exact⟨h1.1.trans d.1.symm,h1.2.trans d.2.symm⟩
 ·exact⟨h1.1.trans h2.1.symm,h1.2.trans h2.2.symm⟩
·rename_i w x i y t u a;simp only[a]at h2;obtain⟨j,o,a1,a2,rfl,rfl⟩:=h1;obtain⟨k,q,b,h,rfl,rfl⟩:=h2;obtain⟨rfl,rfl⟩:=Ba (hf.wake i g (λ_=>.unsupported "") [] p) a1 b;exact⟨O,O⟩
all_goals
 rename_i a;simp only[a]at h2;exact⟨h1.1.trans h2.1.symm,h1.2.trans h2.2.symm⟩)
theorem Nn(hf:v1.Fits base) (t:Sem L):∀ {p:Pos}{s:Go},hq TW v1 t A y p s->hq TW v1 t C z p s->hq TW v1 t (λa p s=>A a p s/\C a p s) (λe p s=>y e p s/\z e p s) p s:=by(
induction t with
|pure a=>intro p s h1 h2;exact⟨h1,h2⟩
|raise e=>intro p s h1 h2;exact⟨h1,h2⟩
|unsupported w=>intro p s h1 h2;exact h1.elim
|finish e=>intro p s h1 h2;exact h1.elim
|rule tag k b=>intro p s h1 h2;exact b () h1 h2
| «at» pos k b=>intro p s h1 h2;exact b () h1 h2
|load a part k b=>
 intro p s h1 h2;obtain⟨o,i,h1⟩:=h1;obtain⟨o',j,h2⟩:=h2;rw[i]at j;cases j;exact⟨o,i,b o h1 h2⟩
|update a part f k b=>intro p s h1 h2;exact⟨h1.1,b () h1.2 h2.2⟩
|alloc o k b=>intro p s h1 h2;exact b _ h1 h2
|loadIfAlive a k b=>intro p s h1 h2;exact b _ h1 h2
|point l k b=>intro p s h1 h2;exact b () h1 h2
|register a k b=>intro p s h1 h2;exact h1.elim
|fresh k b=>intro p s h1 h2;exact b _ h1 h2
|ask k b=>intro p s h1 h2;exact b _ h1 h2
|choose J n k b=>intro p s h1 h2;exact⟨h1.1,b _ h1.2 h2.2⟩
|os H l k b=>intro p s h1 h2;exact b _ h1 h2
|call c h g l k b=>
 intro p s h1 h2;obtain⟨u,x,a1,m⟩:=h1;obtain⟨D,E,a2,q⟩:=h2;obtain⟨rfl,rfl⟩:=LB (hf.enter c (λ_=>.unsupported "") h g l p (kp:=default)) a1 a2;exact⟨u,x,a1,b _ m q⟩
|handled own k b=>intro p s h1 h2;exact b _ h1 h2
|newGen c k b=>intro p s h1 h2;exact b _ h1 h2
|genState g k b=>
 intro p s h1 h2;obtain⟨o,i,h1⟩:=h1;obtain⟨o',j,h2⟩:=h2;rw[i]at j;cases j;exact⟨o,i,b _ h1 h2⟩
|resume g r l k b=>
 intro p s h1 h2;obtain⟨u,x,a1,m⟩:=h1;obtain⟨D,E,a2,q⟩:=h2;obtain⟨rfl,rfl⟩:=Nf hf a1 a2;exact⟨u,x,a1,b _ m q⟩
|yield v g l k b=>intro p s h1 h2;exact h1.elim
|stack k b=>intro p s h1 h2;exact b _ h1 h2
|fork c k b=>intro p s h1 h2;exact h1.elim
|thread k b=>intro p s h1 h2;exact b _ h1 h2
|await a f d l k b=>intro p s h1 h2;exact h1.elim)
theorem Np(t:Sem z):∀ {p:Pos}{s:Go},hq TW v1 t Q E p s->(∃a j s',Q a j s')\/∃e j s',E e j s':=by(
induction t with
|pure a=>intro p s h;exact .inl ⟨a,p,s,h⟩
|raise e=>intro p s h;exact .inr ⟨e,p,s,h⟩
|unsupported w=>intro p s h;exact h.elim
|finish e=>intro p s h;exact h.elim
|rule tag k b=>intro p s h;exact b () h
| «at» pos k b=>intro p s h;exact b () h
|load a part k b=>intro p s h;obtain⟨o,m,h⟩:=h;exact b o h
|update a part f k b=>intro p s h;exact b () h.2
|alloc o k b=>intro p s h;exact b _ h
|loadIfAlive a k b=>intro p s h;exact b _ h
|point l k b=>intro p s h;exact b () h
|register a k b=>intro p s h;exact h.elim
|fresh k b=>intro p s h;exact b _ h
|ask k b=>intro p s h;exact b _ h
|choose y n k b=>intro p s h;exact b _ h.2
|os x l k b=>intro p s h;exact b _ h
|call c h g l k b=>intro p s h;obtain⟨q,u,a1,i⟩:=h;exact b _ i
|handled own k b=>intro p s h;exact b _ h
|newGen c k b=>intro p s h;exact b _ h
|genState g k b=>intro p s h;obtain⟨o,m,h⟩:=h;exact b _ h
|resume g r l k b=>intro p s h;obtain⟨q,u,a1,i⟩:=h;exact b _ i
|yield v g l k b=>intro p s h;exact h.elim
|stack k b=>intro p s h;exact b _ h
|fork c k b=>intro p s h;exact h.elim
|thread k b=>intro p s h;exact b _ h
|await a f d l k b=>intro p s h;exact h.elim)
end Sx
namespace Sx
open PySem PyProof.Rows
class Vd (a:Type) where
 vd:sN->(cn->Prop)->a->Prop
instance:Vd Nat:=⟨λ_ _ _=>True⟩
instance:Vd Bool:=⟨λ_ _ _=>True⟩
instance:Vd Unit:=⟨λ_ _ _=>True⟩
instance:Vd PUnit:=⟨λ_ _ _=>True⟩
instance:Vd (Tk×Tk):=⟨λ_ ok x=>ok x⟩
instance {b:Type} [Vd b]:Vd (Array b):=⟨λkd ok a=>∀x,x∈a->Vd.vd kd ok x⟩
instance {b:Type} [Vd b]:Vd (Option b):=⟨λkd ok a=>∀x,a=some x->Vd.vd kd ok x⟩
instance {a b:Type} [Vd a] [Vd b]:Vd (a×b):=⟨λkd ok x=>Vd.vd kd ok x.1/\Vd.vd kd ok x.2⟩
instance {a b:Type} [Vd a] [Vd b]:Vd (MProd a b):=⟨λkd ok x=>Vd.vd kd ok x.1/\Vd.vd kd ok x.2⟩
instance:Vd bU:=⟨λkd ok st=>kindOf st=kd/\∀x,x∈arrOf st->ok x⟩
instance {b:Type} [Vd b]:Vd (ForInStep b):=⟨λkd ok x=>match x with|.done a=>Vd.vd kd ok a|.yield a=>Vd.vd kd ok a⟩
section
variable (TW:nW) (v1 s3:Ctx) (s s':Go) (kd:sN) (ok:cn->Prop)
def T {c:Type} [Vd c] (m:StateT bU Sem c):Prop:=∀(st:bU) (p:Pos) (Q:c->bU->Pos->Go->Prop),Vd.vd kd ok st->hq TW s3 (m.run st) (λr a b=>Q r.1 r.2 a b) (λ_ _ _=>False) p s'->
 ∀p2,hq TW v1 (m.run st) (λr _ b=>b=s/\(∃a,Q r.1 r.2 a s')/\Vd.vd kd ok r.2/\Vd.vd kd ok r.1) (λ_ _ _=>False) p2 s
variable {TW v1 s3 s s' kd ok}
local macro_rules| `(tactic| trivial)=> `(tactic| assumption)
theorem T.pure[Vd d] (h:Vd.vd kd ok a):T TW v1 s3 s s' kd ok (ot a:StateT bU Sem d):=by
 intro st p Q c b p2;rw[Ez]at b⊢;rw[oq]at b⊢;exact⟨O,⟨p,b⟩,c,h⟩
theorem T.bind[Vd k] [Vd l] {f:k->StateT bU Sem l}(hm:T TW v1 s3 s s' kd ok m) (hf:∀a,Vd.vd kd ok a->T TW v1 s3 s s' kd ok (f a)):T TW v1 s3 s s' kd ok (m >>= f):=by
 intro st p Q g d p2;rw[EA]at d⊢;rw[xR]at d⊢;refine xS TW v1 _ (λr b c h=>?_) (λ_ _ _ h=>h) p2 s (hm st p (λa j b c=>hq TW s3 ((f a).run j) (λr b c=>Q r.1 r.2 b c) (λ_ _ _=>False) b c) g d p2);obtain⟨rfl,⟨i,h1⟩,h2,e⟩:=h;exact hf r.1 e r.2 i Q h2 h1 b
theorem T.get:T TW v1 s3 s s' kd ok (MonadState.get:StateT bU Sem bU):=by
 intro st p Q b a p2;have e:(MonadState.get:StateT bU Sem bU).run st=ot (st,st):=EC ..;rw[e]at a⊢;rw[oq]at a⊢;exact⟨O,⟨p,a⟩,b,b⟩
theorem T.modify {f:bU->bU}(h:∀st,Vd.vd kd ok st->Vd.vd kd ok (f st)):T TW v1 s3 s s' kd ok (modify f:StateT bU Sem PUnit):=by
 intro st p Q b a p2;rw[StateT.run_modify]at a⊢;rw[oq]at a⊢;exact⟨O,⟨p,a⟩,h st b,True.intro⟩
theorem T.set {a:bU}(h:Vd.vd kd ok a):T TW v1 s3 s s' kd ok (MonadStateOf.set a:StateT bU Sem PUnit):=by
 intro st p Q c b p2;have e:(MonadStateOf.set a:StateT bU Sem PUnit).run st=ot (PUnit.unit,a):=StateT.run_set ..;rw[e]at b⊢;rw[oq]at b⊢;exact⟨O,⟨p,b⟩,h,True.intro⟩
theorem T.rule{tag:String}:T TW v1 s3 s s' kd ok (liftM (wO tag):StateT bU Sem Unit):=by
 intro st p Q c b p2;have e:(liftM (wO tag):StateT bU Sem Unit).run st=(do let a <-wO tag;ot (a,st)):=EB ..;rw[e]at b⊢;rw[xR]at b⊢;exact⟨O,⟨p,b⟩,c,True.intro⟩
theorem T.none[Vd b] {m:StateT bU Sem b}(h:∀st Q E p s0,¬hq TW s3 (m.run st) Q E p s0):T TW v1 s3 s s' kd ok m:=λst p Q _ a _=>absurd a (h _ _ _ _ _)
theorem T.ite[Vd d]  [Decidable c] {b:StateT bU Sem d}(h1:c->T TW v1 s3 s s' kd ok a) (h2:¬c->T TW v1 s3 s s' kd ok b):T TW v1 s3 s s' kd ok (if c then a else b):=by(
by_cases h:c
·rw[No h];exact h1 h
·rw[Ps h];exact h2 h)
theorem T.zj[Vd e] (h:∀x b,Vd.vd kd ok b->T TW v1 s3 s s' kd ok (f x b)):∀(l:List Nat) (b:e),Vd.vd kd ok b->T TW v1 s3 s s' kd ok (forIn l b f)
 |[],b,a=>by rw[nL];exact T.pure a
 |x::l,b,a=>by
  rw[rQ];refine T.bind (h x b a) λr d=>?_;cases r with
  |done c=>exact T.pure d
  |yield c=>exact T.zj h l c d
theorem T.gL[Vd c] {r:Std.Legacy.Range}{b:c}(a:Vd.vd kd ok b) (h:∀x b,Vd.vd kd ok b->T TW v1 s3 s s' kd ok (f x b)):T TW v1 s3 s s' kd ok (forIn r b f):=by
 rw[Std.Legacy.Range.forIn_eq_forIn_range'];exact T.zj h _ b a
theorem T.elem(h:Vd.vd kd ok arr):T TW v1 s3 s s' kd ok (elem' arr i):=by(
rw[elem'_eq];cases e:arr[i]? with
|none=>exact T.none λst Q E p s0 z=>z.elim
|some x=>exact T.pure (h x (Array.mem_of_getElem? e)))
structure f6 (TW:nW) (v1 s3:Ctx) (s s':Go) (kd:sN) (ok:cn->Prop):Prop where
 fits:∃base,s3.Fits base
 Fe:∀x y,ok x->ok y->∃c,(∀p,hq TW s3 (xE kd x.1 y.1) (λb _ a=>a=s'/\b=c) (λ_ _ _=>False) p s')/\∀p,hq TW v1 (xE kd x.1 y.1) (λb _ a=>a=s/\b=c) (λ_ _ _=>False) p s
theorem T.lt(C:f6 TW v1 s3 s s' kd ok) (o:Vd.vd kd ok x) (q:Vd.vd kd ok y):T TW v1 s3 s s' kd ok (lt' x y):=by(
obtain⟨base,hf⟩:=C.fits;obtain⟨c,h1,h2⟩:=C.Fe x y o q;intro st p Q g d p2;have l:kindOf st=kd:=g.1;rw[lt'_eq]at d⊢;simp only[EA,EC,pure_bind]at d⊢;rw[l]at d⊢;have e:∀(m:Sem (Except Tk Bool)),(liftM m:StateT bU Sem (Except Tk Bool)).run st=(do let a <-m;ot (a,st)):=λm=>EB ..;rw[e]at d⊢;simp only[xR,Sem.wp_attempt,oq]at d⊢;have k:=Nn hf _ (h1 p) d;have j:∃f,Q (some c) st f s':=by
 rcases Np _ k with⟨b,f,i,⟨rfl,rfl⟩,n⟩|⟨e,f,i,h,_⟩
 ·exact⟨f,n⟩
 ·exact h.elim
refine xS TW v1 _ (λb f i h=>?_) (λ_ _ _ h=>h.elim) p2 s (h2 p2);obtain⟨rfl,rfl⟩:=h;exact⟨O,j,g,λz e=>True.intro⟩)
theorem T.ltAt(C:f6 TW v1 s3 s s' kd ok) :T TW v1 s3 s s' kd ok (ltAt' i j):=by
 rw[ltAt'_eq];exact T.bind T.get λst a=>T.bind (T.elem a.2) λx b=>T.bind (T.elem a.2) λy c=>T.lt C b c
theorem Aq{st:bU}(h:Vd.vd kd ok st) (a:∀x,x∈xs->ok x):Vd.vd kd ok (setArr st xs):=⟨h.1,a⟩
theorem Ap{ys:Array cn}(h:∀x,x∈xs->ok x) (a:ys.Perm xs):∀x,x∈ys->ok x:=λx b=>h x (by
 have:=xG.mp a;exact(l8).mp (this.mem_iff.mp (l8.mpr b)))
theorem T.rev:T TW v1 s3 s s' kd ok (reverseSlice' i j):=by
 rw[reverseSlice'_eq];exact T.modify λst h=>Aq h (Ap h.2 (mirror_perm ..))
theorem T.down:T TW v1 s3 s s' kd ok (moveDown' i j):=by
 rw[moveDown'_eq];exact T.modify λst h=>Aq h (Ap h.2 (bubble_perm ..))
theorem T.q_:T TW v1 s3 s s' kd ok (setMinGallop' g):=by
 rw[setMinGallop'_eq];exact T.modify λst h=>⟨h.1,h.2⟩
theorem NE {n:Nat}:Vd.vd kd ok n:=True.intro
theorem g0 {n:Bool}:Vd.vd kd ok n:=True.intro
theorem rF {n:Unit}:Vd.vd kd ok n:=True.intro
theorem aI[Vd b] {a:b}(h:Vd.vd kd ok a):Vd.vd kd ok (ForInStep.done a):=h
theorem fP[Vd b] {a:b}(h:Vd.vd kd ok a):Vd.vd kd ok (om a):=h
theorem b9[Vd a]:Vd.vd kd ok (none:Option a):=λ_ h=>by cases h
theorem br[Vd b] {a:b}(h:Vd.vd kd ok a):Vd.vd kd ok (some a):=λ_ e=>by cases e;exact h
theorem Sc[Vd c] [Vd d] {a:c}{b:d}(h:Vd.vd kd ok a) (h':Vd.vd kd ok b):Vd.vd kd ok (a,b):=⟨h,h'⟩
theorem v5 {o:Option Nat}:Vd.vd kd ok o:=λ_ _=>True.intro
theorem Nd {o:Option Bool}:Vd.vd kd ok o:=λ_ _=>True.intro
theorem kg[Vd a] [Vd b] {x:a×b}(h:Vd.vd kd ok x):Vd.vd kd ok x.1:=h.1
theorem rE[Vd a] [Vd b] {x:a×b}(h:Vd.vd kd ok x):Vd.vd kd ok x.2:=h.2
theorem v3[Vd b] {a:b}(h:Vd.vd kd ok o) (e:o=some a):Vd.vd kd ok a:=h a e
theorem pc{b:Array cn}(h:Vd.vd kd ok a) (h':Vd.vd kd ok b):Vd.vd kd ok (a++b):=λx c=>(Array.mem_append.mp c).elim (h x) (h' x)
theorem bv{a:Array cn}(h:Vd.vd kd ok a) (h':Vd.vd kd ok x):Vd.vd kd ok (a.push x):=λy b=>by
 rcases Array.mem_push.mp b with q|rfl
 ·exact h y q
 ·exact h'
theorem h6 {x:cn}(h':Vd.vd kd ok x):Vd.vd kd ok #[x]:=λy a=>by
 simp only[List.mem_toArray,sc,Array.mem_singleton]at a;rw[a];exact h'
theorem py{a:Array cn}(h:Vd.vd kd ok a):Vd.vd kd ok (a.extract i j):=λy b=>by
 obtain⟨k,c,e⟩:=Array.mem_iff_getElem.mp b;rw[Array.getElem_extract]at e;rw[<- e];exact h _ (Array.getElem_mem _)
theorem dP {a:Array cn}(h:Vd.vd kd ok a):Vd.vd kd ok a.reverse:=λy b=>h y (by simpa using b)
theorem T.countRun(C:f6 TW v1 s3 s s' kd ok) {lo:Nat}:T TW v1 s3 s s' kd ok (countRun' lo a):=by(
rw[countRun'_eq];dsimp only
repeat' (first
 |exact NE|exact g0|exact rF|exact v5|exact b9|assumption|refine br ?_|refine aI ?_|refine fP ?_|refine Sc ?_ ?_|refine pc ?_ ?_|refine bv ?_ ?_|refine h6 ?_|refine py ?_|refine dP ?_|refine kg ?_|refine rE ?_|exact v3 (kg (by assumption)) (by assumption)
 |exact T.ltAt C|exact T.rev|exact T.rule|exact T.get
 |refine T.bind ?_ (λ_ _=>?_)
 |refine T.gL ?_ (λ_ _ _=>?_)
 |refine T.ite (λ_=>?_) (λ_=>?_)
 |refine T.pure ?_
 |split))
theorem T.binarySort(C:f6 TW v1 s3 s s' kd ok) {lo:Nat}:T TW v1 s3 s s' kd ok (binarySort' lo n k):=by(
rw[binarySort'_eq];dsimp only
repeat' (first
 |exact NE|exact g0|exact rF|exact v5|exact b9|assumption|refine br ?_|refine aI ?_|refine fP ?_|refine Sc ?_ ?_|refine pc ?_ ?_|refine bv ?_ ?_|refine h6 ?_|refine py ?_|refine dP ?_|refine kg ?_|refine rE ?_|exact v3 (kg (by assumption)) (by assumption)
 |exact T.ltAt C|exact T.down|exact T.rule|exact T.get
 |refine T.bind ?_ (λ_ _=>?_)
 |refine T.gL ?_ (λ_ _ _=>?_)
 |refine T.ite (λ_=>?_) (λ_=>?_)
 |refine T.pure ?_
 |split))
theorem T.beyond(C:f6 TW v1 s3 s s' kd ok) (a:Vd.vd kd ok key) (c:Vd.vd kd ok arr):T TW v1 s3 s s' kd ok (beyond' left key arr base i):=by
 unfold beyond';exact T.bind (T.elem c) λx b=>T.ite (λ_=>T.lt C b a) λ_=>T.bind (T.lt C a b) λ_ _=>T.pure Nd
theorem T.gallop(C:f6 TW v1 s3 s s' kd ok) (b:Vd.vd kd ok key) (a:Vd.vd kd ok arr):T TW v1 s3 s s' kd ok (gallop' left key arr base n c):=by(
rw[gallop'_eq];dsimp only
repeat' (first
 |exact NE|exact g0|exact rF|exact v5|exact b9|assumption|refine br ?_|refine aI ?_|refine fP ?_|refine Sc ?_ ?_|refine pc ?_ ?_|refine bv ?_ ?_|refine h6 ?_|refine py ?_|refine dP ?_|refine kg ?_|refine rE ?_|exact v3 (kg (by assumption)) (by assumption)
 |exact T.beyond C b a|exact T.rule|exact T.get
 |refine T.bind ?_ (λ_ _=>?_)
 |refine T.gL ?_ (λ_ _ _=>?_)
 |refine T.ite (λ_=>?_) (λ_=>?_)
 |refine T.pure ?_
 |split))
end
end Sx
namespace Sx
open PySem PyProof.Rows
section
variable {TW:nW}{v1 s3:Ctx}{s s':Go}{kd:sN}{ok:cn->Prop}
theorem T.hF[Vd d] [Vd e] {f:Option d->StateT bU Sem e}(hm:T TW v1 s3 s s' kd ok m) (hf:∀a,Vd.vd kd ok a->T TW v1 s3 s s' kd ok (f (some a))) (b:T TW v1 s3 s s' kd ok (f Option.none)):T TW v1 s3 s s' kd ok (m >>= f):=
 T.bind hm λo c=>match o,c with
  |some a,h=>hf a (h a rfl)
  |Option.none,_=>b
theorem T.jD[Vd e] [Vd g] [Vd i] {f:Option e×i->StateT bU Sem g}(hm:T TW v1 s3 s s' kd ok m) (hf:∀a c,Vd.vd kd ok a->Vd.vd kd ok c->T TW v1 s3 s s' kd ok (f (some a,c))) (b:∀c,Vd.vd kd ok c->T TW v1 s3 s s' kd ok (f (Option.none,c))):T TW v1 s3 s s' kd ok (m >>= f):=
 T.bind hm λo d=>match o,d with
  |(some a,c),h=>hf a c (h.1 a rfl) h.2
  |(Option.none,c),h=>b c h.2
theorem T.mergeLo(C:f6 TW v1 s3 s s' kd ok) (e:Vd.vd kd ok a) (d:Vd.vd kd ok b):T TW v1 s3 s s' kd ok (mergeLo' a b):=by(
rw[mergeLo'_eq];refine T.bind T.rule λ_ _=>?_;refine T.bind (T.elem d) λx0 y=>?_;refine T.ite (λ_=>T.pure (pc (pc (h6 y) (py e)) (py d))) λ_=>T.ite (λ_=>T.pure (pc (pc (h6 y) (py d)) (py e))) λ_=>?_;refine T.bind T.get λst _=>?_;refine T.jD (T.gL (Sc b9 (Sc (h6 y) (Sc NE (Sc NE NE)))) λ_ S m=>?_) (λr c t j=>T.pure t) (λc j=>T.none λst Q E p s0 z=>z.elim);obtain⟨_,out,D,H,mg⟩:=S;have f:Vd.vd kd ok out:=m.2.1;clear m;refine T.jD (T.gL (Sc b9 (Sc f (Sc NE (Sc NE (Sc NE NE))))) λ_ S m=>?_) (λr c t j=>T.pure (Sc (br t) (Sc j.1 (Sc NE (Sc NE NE))))) (λc j=>?_)
·obtain⟨_,out,D,H,ac,J⟩:=S;have f:Vd.vd kd ok out:=m.2.1;clear m;refine T.bind (T.elem d) λOR A=>T.bind (T.elem e) λOS l=>T.hF (T.lt C A l) (λw _=>?_) (T.pure (aI (Sc (br (pc (pc f (py e)) (py d))) (Sc f (Sc NE (Sc NE (Sc NE NE)))))));refine T.ite (λ_=>T.bind (T.elem d) λOQ h=>?_) (λ_=>T.bind (T.elem e) λOQ h=>?_)
 ·exact T.ite (λ_=>T.pure (aI (Sc (br (pc (pc (bv f h) (py e)) (py d))) (Sc (bv f h) (Sc NE (Sc NE (Sc NE NE))))))) λ_=>
   T.ite (λ_=>T.pure (aI (Sc b9 (Sc (bv f h) (Sc NE (Sc NE (Sc NE NE))))))) λ_=>T.pure (fP (Sc b9 (Sc (bv f h) (Sc NE (Sc NE (Sc NE NE))))))
 ·exact T.ite (λ_=>T.pure (aI (Sc (br (pc (pc (bv f h) (py d)) (py e))) (Sc (bv f h) (Sc NE (Sc NE (Sc NE NE))))))) λ_=>
   T.ite (λ_=>T.pure (aI (Sc b9 (Sc (bv f h) (Sc NE (Sc NE (Sc NE NE))))))) λ_=>T.pure (fP (Sc b9 (Sc (bv f h) (Sc NE (Sc NE (Sc NE NE))))))
·obtain⟨out,D,H,ac,J⟩:=c;have f:Vd.vd kd ok out:=j.1;clear j;refine T.bind T.rule λ_ _=>?_;refine T.jD (T.gL (Sc b9 (Sc f (Sc NE (Sc NE (Sc NE (Sc NE NE)))))) λ_ S m=>?_) (λr c t j=>?_) (λc j=>?_)
 ·obtain⟨_,out,D,H,mg,ac,J⟩:=S;have f:Vd.vd kd ok out:=m.2.1;clear m;dsimp -zeta only
  extract_lets O2 OP O3 Y O4 OY O5 O1 O6 OT OV OZ OM
  have u:Vd.vd kd ok OP:=f;have L:∀r n,T TW v1 s3 s s' kd ok (OM r n):=by
   intro r n;refine T.bind T.q_ λ_ _=>T.bind (T.elem d) λOR A=>T.hF (T.gallop C A e) (λk _=>?_) ?_
   ·dsimp -zeta only
    extract_lets OU ON
    have N:∀r o i,Vd.vd kd ok o->T TW v1 s3 s s' kd ok (ON r o i):=by
     intro r o i g;refine T.bind (T.elem d) λOS l=>T.ite (λ_=>T.pure (aI (Sc (br (pc (pc (bv g l) (py e)) (py d))) (Sc (bv g l) (Sc NE (Sc NE (Sc NE (Sc NE NE)))))))) λ_=>?_;refine T.bind (T.elem e) λOQ h=>T.hF (T.gallop C h d) (λO0 _=>?_) (T.pure (aI (Sc (br (pc (pc (bv g l) (py e)) (py d))) (Sc (bv g l) (Sc NE (Sc NE (Sc NE (Sc NE NE))))))));dsimp -zeta only
     extract_lets OW OX OO
     have U:∀r o i,Vd.vd kd ok o->T TW v1 s3 s s' kd ok (OO r o i):=by
      intro r o i g;refine T.bind (T.elem e) λO7 x=>T.ite (λ_=>T.pure (aI (Sc (br (pc (pc (bv g x) (py d)) (py e))) (Sc (bv g x) (Sc NE (Sc NE (Sc NE (Sc NE NE)))))))) λ_=>?_;exact T.ite (λ_=>T.pure (aI (Sc b9 (Sc (bv g x) (Sc NE (Sc NE (Sc NE (Sc NE NE)))))))) λ_=>T.pure (fP (Sc b9 (Sc (bv g x) (Sc NE (Sc NE (Sc NE (Sc NE NE)))))))
     clear_value OO
     refine T.ite (λ_=>T.ite (λ_=>?_) λ_=>U _ _ _ (pc (bv g l) (py d))) λ_=>U _ _ _ (bv g l);exact T.pure (aI (Sc (br (pc (pc (pc (bv g l) (py d)) (py e)) (py d))) (Sc (pc (bv g l) (py d)) (Sc NE (Sc NE (Sc NE (Sc NE NE)))))))
    clear_value ON
    have q:Vd.vd kd ok (OP++a.extract Y (Y+k)):=pc u (py e);refine T.ite (λ_=>T.ite (λ_=>?_) λ_=>T.ite (λ_=>?_) λ_=>N _ _ _ q) λ_=>N _ _ _ u
    ·exact T.pure (aI (Sc (br (pc (pc q (py d)) (py e))) (Sc q (Sc NE (Sc NE (Sc NE (Sc NE NE)))))))
    ·exact T.pure (aI (Sc (br (pc (pc q (py e)) (py d))) (Sc q (Sc NE (Sc NE (Sc NE (Sc NE NE)))))))
   ·exact T.pure (aI (Sc (br (pc (pc u (py e)) (py d))) (Sc u (Sc NE (Sc NE (Sc NE (Sc NE NE)))))))
  clear_value OM
  exact T.ite (λ_=>L _ _) λ_=>L _ _
 ·exact T.pure (aI (Sc (br t) (Sc j.1 (Sc NE (Sc NE NE)))))
 ·exact T.bind T.q_ λ_ _=>T.pure (fP (Sc b9 (Sc j.1 (Sc NE (Sc NE NE))))))
theorem T.mergeHi(C:f6 TW v1 s3 s s' kd ok) (d:Vd.vd kd ok a) (e:Vd.vd kd ok b):T TW v1 s3 s s' kd ok (mergeHi' a b):=by(
rw[mergeHi'_eq];refine T.bind T.rule λ_ _=>?_;refine T.bind (T.elem d) λx0 A=>?_;refine T.ite (λ_=>T.pure (pc (pc (py d) (py e)) (dP (h6 A)))) λ_=>T.ite (λ_=>T.pure (pc (pc (py e) (py d)) (dP (h6 A)))) λ_=>?_;refine T.bind T.get λst _=>?_;refine T.jD (T.gL (Sc b9 (Sc NE (Sc NE (Sc (h6 A) NE)))) λ_ S l=>?_) (λr c t j=>T.pure t) (λc j=>T.none λst Q E p s0 z=>z.elim);obtain⟨_,H,J,out,mg⟩:=S;have f:Vd.vd kd ok out:=l.2.2.2.1;clear l;refine T.jD (T.gL (Sc b9 (Sc NE (Sc NE (Sc f (Sc NE NE))))) λ_ S l=>?_) (λr c t j=>T.pure (aI (Sc (br t) (Sc NE (Sc NE (Sc j.2.2.1 NE)))))) (λc j=>?_)
·obtain⟨_,H,J,out,ac,L⟩:=S;have f:Vd.vd kd ok out:=l.2.2.2.1;clear l;refine T.bind (T.elem e) λOV D=>T.bind (T.elem d) λOQ m=>T.hF (T.lt C D m) (λw _=>?_) (T.pure (aI (Sc (br (pc (pc (py d) (py e)) (dP f))) (Sc NE (Sc NE (Sc f (Sc NE NE)))))));refine T.ite (λ_=>T.bind (T.elem d) λOR h=>?_) (λ_=>T.bind (T.elem e) λOR h=>?_)
 ·exact T.ite (λ_=>T.pure (aI (Sc (br (pc (pc (py d) (py e)) (dP (bv f h)))) (Sc NE (Sc NE (Sc (bv f h) (Sc NE NE))))))) λ_=>T.ite (λ_=>T.pure (aI (Sc b9 (Sc NE (Sc NE (Sc (bv f h) (Sc NE NE))))))) λ_=>T.pure (fP (Sc b9 (Sc NE (Sc NE (Sc (bv f h) (Sc NE NE))))))
 ·exact T.ite (λ_=>T.pure (aI (Sc (br (pc (pc (py e) (py d)) (dP (bv f h)))) (Sc NE (Sc NE (Sc (bv f h) (Sc NE NE))))))) λ_=>T.ite (λ_=>T.pure (aI (Sc b9 (Sc NE (Sc NE (Sc (bv f h) (Sc NE NE))))))) λ_=>T.pure (fP (Sc b9 (Sc NE (Sc NE (Sc (bv f h) (Sc NE NE))))))
·obtain⟨H,J,out,ac,L⟩:=c;have f:Vd.vd kd ok out:=j.2.2.1;clear j;refine T.bind T.rule λ_ _=>?_;refine T.jD (T.gL (Sc b9 (Sc NE (Sc NE (Sc f (Sc NE (Sc NE NE)))))) λ_ S l=>?_) (λr c t j=>?_) (λc j=>?_)
 ·obtain⟨_,H,J,out,mg,ac,L⟩:=S;have f:Vd.vd kd ok out:=l.2.2.2.1;clear l;dsimp -zeta only
  extract_lets O5 OT O6 O4 O7 OP O8 O2 O9 OW OY OU OM
  have u:Vd.vd kd ok OP:=f;have N:∀r n,T TW v1 s3 s s' kd ok (OM r n):=by
   intro r n;refine T.bind T.q_ λ_ _=>T.bind (T.elem e) λOV D=>T.hF (T.gallop C D d) (λk _=>?_) (T.pure (aI (Sc (br (pc (pc (py d) (py e)) (dP u))) (Sc NE (Sc NE (Sc u (Sc NE (Sc NE NE))))))));dsimp -zeta only
   extract_lets O0 OX ON
   have U:∀r i o,Vd.vd kd ok o->T TW v1 s3 s s' kd ok (ON r i o):=by
    intro r i o g;refine T.bind (T.elem e) λOQ m=>T.ite (λ_=>T.pure (aI (Sc (br (pc (pc (py e) (py d)) (dP (bv g m)))) (Sc NE (Sc NE (Sc (bv g m) (Sc NE (Sc NE NE)))))))) λ_=>?_;refine T.bind (T.elem d) λOR h=>T.hF (T.gallop C h e) (λOS _=>?_) (T.pure (aI (Sc (br (pc (pc (py d) (py e)) (dP (bv g m)))) (Sc NE (Sc NE (Sc (bv g m) (Sc NE (Sc NE NE))))))));dsimp -zeta only
    extract_lets O1 OZ O3 OO
    have Y:∀r i o,Vd.vd kd ok o->T TW v1 s3 s s' kd ok (OO r i o):=by
     intro r i o g;refine T.bind (T.elem d) λO_ x=>T.ite (λ_=>T.pure (aI (Sc (br (pc (pc (py d) (py e)) (dP (bv g x)))) (Sc NE (Sc NE (Sc (bv g x) (Sc NE (Sc NE NE)))))))) λ_=>?_;exact T.ite (λ_=>T.pure (aI (Sc b9 (Sc NE (Sc NE (Sc (bv g x) (Sc NE (Sc NE NE)))))))) λ_=>T.pure (fP (Sc b9 (Sc NE (Sc NE (Sc (bv g x) (Sc NE (Sc NE NE)))))))
    clear_value OO
    have q:Vd.vd kd ok (o.push OQ++(b.extract OS OU).reverse):=pc (bv g m) (dP (py e));exact T.ite (λ_=>T.ite (λ_=>T.pure (aI (Sc (br (pc (pc (py e) (py d)) (dP q))) (Sc NE (Sc NE (Sc q (Sc NE (Sc NE NE)))))))) λ_=>T.ite (λ_=>T.pure (aI (Sc (br (pc (pc (py d) (py e)) (dP q))) (Sc NE (Sc NE (Sc q (Sc NE (Sc NE NE)))))))) λ_=>Y _ _ _ q) λ_=>Y _ _ _ (bv g m)
   clear_value ON
   have y:Vd.vd kd ok (OP++(a.extract k OT).reverse):=pc u (dP (py d));exact T.ite (λ_=>T.ite (λ_=>T.pure (aI (Sc (br (pc (pc (py d) (py e)) (dP y))) (Sc NE (Sc NE (Sc y (Sc NE (Sc NE NE)))))))) λ_=>U _ _ _ y) λ_=>U _ _ _ u
  clear_value OM
  exact T.ite (λ_=>N _ _) λ_=>N _ _
 ·exact T.pure (aI (Sc (br t) (Sc NE (Sc NE (Sc j.2.2.1 NE)))))
 ·exact T.bind T.q_ λ_ _=>T.pure (fP (Sc b9 (Sc NE (Sc NE (Sc j.2.2.1 NE))))))
theorem t6:∀(l:List (cn×Nat)) (arr:Array cn),(∀p,p∈l->ok p.1)->(∀x,x∈arr->ok x)->∀x,x∈l.foldl (λa x=>match x with|(p,j)=>a.setIfInBounds (n+j) p) arr->ok x
 |[],arr,_,h,x,b=>h x b
 |(p,j)::l,arr,c,h,x,b=>by
  rw[dS]at b;refine t6 l _ (λq d=>c q (o0 _ d)) (λy e=>?_) x b;rcases Array.mem_or_eq_of_mem_setIfInBounds e with z|z
  ·exact h y z
  ·rw[z];exact c (p,j) (kt ..)
theorem T.mergeAt(C:f6 TW v1 s3 s s' kd ok) :T TW v1 s3 s s' kd ok (mergeAt' i):=by(
rw[mergeAt'_eq];refine T.bind T.get λst a=>?_;split
·rename_i sa g pw j h _ _;refine T.bind (T.set ⟨a.1,a.2⟩) λ_ _=>T.bind (T.elem a.2) λl c=>T.hF (T.gallop C c a.2) (λk _=>?_) (T.pure g0);refine T.ite (λ_=>T.pure g0) λ_=>T.bind (T.elem a.2) λn d=>T.hF (T.gallop C d a.2) (λf _=>T.ite (λ_=>T.pure g0) λ_=>?_) (T.pure g0);have hz:∀m:Array cn,Vd.vd kd ok m->∀p,p∈m.toList.zipIdx->ok p.1:=λm hm p b=>hm _ (by
  have:=ih.mp b;exact l8.mp (pi this))
 refine T.ite (λ_=>T.bind (T.mergeLo C (py a.2) (py a.2)) λm hm=>?_) (λ_=>T.bind (T.mergeHi C (py a.2) (py a.2)) λm hm=>?_)
 ·exact T.bind (T.modify λe h'=>⟨h'.1,t6 _ _ (hz m hm) h'.2⟩) λ_ _=>T.bind T.get λ_ _=>T.pure g0
 ·exact T.bind (T.modify λe h'=>⟨h'.1,t6 _ _ (hz m hm) h'.2⟩) λ_ _=>T.bind T.get λ_ _=>T.pure g0
·exact T.none λst Q E p s0 z=>z.elim)
theorem T.pend {f:bU->Array (Nat×Nat×Nat)}:T TW v1 s3 s s' kd ok (_root_.modify λst=>setPending st (f st):StateT bU Sem PUnit):=T.modify λst h=>⟨h.1,h.2⟩
theorem T.sortRuns (C:f6 TW v1 s3 s s' kd ok):T TW v1 s3 s s' kd ok sortRuns':=by(
rw[sortRuns'_eq]
repeat' (first
 |exact NE|exact g0|exact rF|exact b9|assumption|refine br ?_|refine aI ?_|refine fP ?_|refine Sc ?_ ?_|refine kg ?_|refine rE ?_
 |exact T.countRun C|exact T.binarySort C|exact T.mergeAt C|exact T.pend|exact T.rule|exact T.get
 |refine T.gL ?_ (λ_ _ _=>?_)
 |refine T.jD ?_ (λ_ _ _ _=>?_) (λ_ _=>?_)
 |refine T.hF ?_ (λ_ _=>?_) ?_
 |refine T.bind ?_ (λ_ _=>?_)
 |refine T.ite (λ_=>?_) (λ_=>?_)
 |refine T.pure ?_
 |dsimp -zeta only
 |dsimp only
 |split))
end
end Sx
namespace Sx
open PySem PySem.W PyProof.Rows L2
def NT (h:s2) (a:WF) (k:Int) (d:List Int):Prop:=∃t b Op,ji h a #[.int k t,.ref b]/\ji h b (wA Op)/\cD Op d
theorem zx(p:cD vs ns):ItemsAre (Dk P w) ns vs:=by(
induction p with
|nil=>exact .nil
|cons n t h a=>exact .cons (by show sE n (.int n t)=true;simp[sE]) a)
section
variable {prog:fr}{w:kw}{A:bJ}{s:Go}
theorem z6:∀a b:List Int,HT.lexLt a b=ci a b
 |[],[]=>rfl
 |[],_::_=>rfl
 |_::_,[]=>rfl
 |x::a,y::b=>by
  rw[HT.k6,z6 a b];show _=(decide (x<y)||(decide (x=y)&&ci a b));by_cases e:x=y
  ·subst e;simp
  ·simp[e]
theorem IX(hu:A.units<cT) (h1:NT s.heap x a c) (h2:NT s.heap y j d):
  wpAny (AT prog w) A (xE (kv true) (.ref x) (.ref y)) (λb C=>C=s/\b=ci (a::c) (j::d)) (λ_ _=>False) s:=by(
obtain⟨U,D,L,⟨Q,u,H,n1,r⟩,k,m⟩:=h1;obtain⟨Y,E,N,⟨T,z,J,n2,t⟩,l,p⟩:=h2;refine kat_lt u r z t (kat_cons (C3 ?_));by_cases e:a=j
·subst e;have q:(a==a)=true:=by simp
 rw[q];refine kat_yes (kat_cons (wpAny_eqBool_tuple (knd:=Dk prog w) (x:=c) (y:=d) hu ?_ ?_ ?_))
 ·obtain⟨o,i,g,n,h⟩:=k;exact⟨o,_,n,i,g,h,zx m⟩
 ·obtain⟨o,i,g,n,h⟩:=l;exact⟨o,_,n,i,g,h,zx p⟩
 by_cases f:c=d
 ·subst f;rw[sK rfl];exact kat_yes (kat_nil ⟨O,by rw[Tw.oV];rfl⟩)
 ·rw[sn f];refine kat_no (kat_one _ _ (HT.z_ k l m p hu ⟨O,?_⟩));rw[z6 c d];simp[ci]
·have q:(a==j)=false:=by simpa using e
 rw[q];refine kat_no (oneLt_int ⟨O,?_⟩);simp[ci,e])
noncomputable def t5 (ns:List Int):Obj:=jh "tuple" (ns.map λn=>il n 0).toArray 0
noncomputable def dE (f:WF->List Int) (n:Nat):s2:= {objs:=((s4 n).map λi=>t5 (f i)).toArray}
theorem GS(h:a<n):(dE f n).get? a=some (t5 (f a)):=by(
have e:(dE f n).objs[a]?=some (t5 (f a)):=by
 unfold dE;simp[gy h]
unfold Heap.get?;rw[e];rfl)
theorem zg:∀ns:List Int,cD (ns.map λn=>il n 0) ns
 |[]=>.nil
 |n::ns=>.cons n 0 (zg ns)
theorem o9(h:a<n):G.tupKeyC (dE f n) bp (.ref a)=some ((f a).map ii):=
 BV (Op:=(f a).map λn=>il n 0) ⟨_,GS h,O,0,O⟩ (zg _)
theorem IY(hu:A.units<cT) {arr:Array cn}{n:Nat}(h2:2<=arr.size) (ag:∀x,x∈arr->∃a k d,x.1=.ref a/\a<n/\NT s.heap a k d/\f a=k::d) 
  (h:∀e,(arrOf e).Perm arr->oi e=none->l6 (G.tupKindC (dE f n) bp) (arrOf e) arr.size->Q () e):
  wpS (AT prog w) A E s sortRuns' Q (SortSt.mk' (kv true) arr #[] 7 none):=by(
let s':Go:= {s with heap:=dE f n}
let ok:cn->Prop:=λx=>∃a k d,x.1=.ref a/\a<n/\NT s.heap a k d/\f a=k::d
let s3:Ctx:=Ctx.of (.call .none ⟨[],[]⟩) []
let m:bJ:= {handled:=s3.handled,depth:=frameCount s3.below+s3.code.weight,units:=s3.units}
have H:s3.In m:=⟨O,tz _,(λl U=>nomatch (show(none:Option (List Env))=some l from U)),(λg hg=>nomatch (show(none:Option (List Code))=some g from hg)),tz _⟩;have lt':G.LtAt prog w s' (G.tupKindC (dE f n) bp) (kv true):=G.tupC_ltAt (s:=s') true (G.KeepsTups.refl _);have keys:KeysOf (G.tupKindC (dE f n) bp) arr:=by
 intro p Y;obtain⟨a,k,d,i,o,q,u⟩:=ag p (l8.mp Y);rw[i];exact⟨_,o9 o⟩
have run:=G.wpS_sortRunsSt (prog:=prog) (w:=w) (s:=s') (A:=m) (E:=λ_ _=>False) (κ:=G.tupKindC (dE f n) bp) (kd:=kv true) (a₀:=arr) (st:=SortSt.mk' (kv true) arr #[] 7 none)
 (Q:=λ_ e=>(arrOf e).Perm arr/\oi e=none/\l6 (G.tupKindC (dE f n) bp) (arrOf e) arr.size) lt' keys ⟨xW _,O,O⟩ rfl (Stable.refl _) h2 λe a1 a2 a3 _=>⟨a1,a2,a3⟩
intro v1 p OP;have C:f6 (AT prog w) v1 s3 s s' (kv true) ok:=by
 refine⟨⟨[],Ctx.fits_of _ _⟩,λx y ON OO=>?_⟩;obtain⟨a,k,d,i,o,q,u⟩:=ON;obtain⟨b,l,g,D,J,L,N⟩:=OO;refine⟨ci (k::d) (l::g),λp=>?_,λp=>?_⟩
 ·have:=lt' m (λ_ _=>False) x.1 y.1 ((f a).map ii) ((f b).map ii) (Q:=λc j=>j=s'/\c=ci (k::d) (l::g)) (by rw[i];exact o9 o) (by rw[D];exact o9 J) ⟨O,by
   rw[<- u,<-N,<-px]⟩
  exact this s3 p H
 ·rw[i,D];exact IX hu q L v1 p OP
have t:=T.sortRuns C (SortSt.mk' (kv true) arr #[] 7 none) p (λa e _ j=>j=s'/\(arrOf e).Perm arr/\oi e=none/\l6 (G.tupKindC (dE f n) bp) (arrOf e) arr.size) ⟨O,ag⟩ (run s3 p H) p;refine xS (AT prog w) v1 _ (λr OU j OM=>?_) (λ_ _ _ z=>z.elim) p s t;obtain⟨OQ,⟨_,_,OR,OS,OT⟩,_⟩:=OM;exact⟨OQ,h r.2 OR OS OT⟩)
open G in
theorem IZ (hu:A.units<cT) {E:Tk->Go->Prop}{a:WF}{vs fs:List Tk}{n:Nat}{P:PySem.Fin->Go->Prop}{f:WF->List Int}(l:s.heap.get? a=some (jh "list" vs.toArray n)) (C:sO s.heap bp vs fs)
  (OO:∀v,v∈vs->∃b k d,v=.ref b/\b<s.heap.objs.size/\NT s.heap b k d/\f b=k::d) (u:vs.length<=Gc)
  (h:∀arr:Array cn,arr.Perm (gz vs)->l6 (xU (dE f s.heap.objs.size) bp) arr (gz vs).size->P (.done (.ret .none)) {s with heap:=sortedHeap s.heap a vs (arr.map (·.2))}):
  wpAny (AT prog w) A (h_.«list.sort» ⟨[.ref a],[]⟩) P E s:=by
 have hz:vs.length<=16777216:=by rw[h9]at u;exact u
 have r:a<s.heap.objs.size:=cr l;obtain⟨ep,p⟩:∃ep,(s.heap.update a (ho λ_=> #[])).get? a=some (jh "list" #[] ep):=⟨_,get?_update_seq l λ_=> #[]⟩;rw[list_sort_plain];refine IR (listItems_at l rfl (IR (xy l rfl (IR (xA p rfl (IR (Df (IR (Dl (i6 ?_))))))))));have q:=keeps_sort6 (vs:=vs) l;have m:(l_ s.heap a vs).get? a=some (jh "list" #[] ep):=by
  unfold l_;rw[Dz _ _ _ (by rw[xC,w7];exact cb (l3 r)),Dz _ _ _ (by rw[w7];exact cb r)];exact p
 show wpAny (AT prog w) A _ P E {s with heap:=l_ s.heap a vs};have OY:vs.toArray.size=vs.length:=by simp
 have H:∀arr:Array cn,arr.Perm (gz vs)->(arr.map (·.2)).size<=Gc+1:=λarr p=>by
  rw[Array.size_map,p.size_eq,sL];lia
 dsimp only;by_cases c:vs.toArray.size<2
 ·rw[No c,No c];refine IR (t3 ?_);rw[Ez];refine IR (t3 ?_);dsimp only;refine IR (xA m rfl (IR (xy m rfl ?_ (hsz2:=H _ (xW _)))));simp only[CJ,fX,aK];refine t3 (h (gz vs) (xW _) λi j OW ON=>?_);have:i=j:=by rw[sL]at ON;lia
  subst this;exact KeyOrd.kle_refl _
 ·rw[Ps c,Ps c];have h2:2<=vs.length:=by lia
  refine IR (tup_kind (s:= {s with heap:=l_ s.heap a vs}) (by rw[TupsOf.length C];lia) (TupsOf.keep q C) ?_);have kept:∀b k d,NT s.heap b k d->NT (l_ s.heap a vs) b k d:=by
   rintro b k d ⟨t,c,Op,⟨o,OP,y,Y⟩,⟨OS,OQ,z,OM⟩,hi⟩;exact⟨t,c,Op,⟨o,q _ _ OP y,y,Y⟩,⟨OS,q _ _ OQ z,z,OM⟩,hi⟩
  refine IR (eT (IY (s:= {s with heap:=l_ s.heap a vs}) (E:=E) hu (arr:=gz vs) (f:=f) (n:=s.heap.objs.size) (by rw[sL];exact h2) (λx OR=>?_) (Q:=λ_ g=>(arrOf g).Perm (gz vs)/\oi g=none/\l6 (xU (dE f s.heap.objs.size) bp) (arrOf g) (gz vs).size) λg a1 a2 a3=>⟨a1,a2,a3⟩) ?_ λ_ _ e=>e)
  ·have D:=l8.mpr OR;rw[xx]at D;obtain⟨e,hm⟩:=mem_zip_self D;obtain⟨b,k,d,L,N,T,U⟩:=OO x.1 hm;exact⟨b,k,d,L,N,kept _ _ _ T,U⟩
  ·rintro⟨⟨⟩,g⟩ OX ⟨rfl,J,OT,OV⟩;dsimp only;refine IR (xA m rfl (IR (xy m rfl ?_ (hsz2:=H _ J))));have OU:oi g=Option.none:=OT;rw[OU];simp only[CJ,fX,aK];exact t3 (h _ J OV)
open G in
theorem I0 (hu:A.units+64<cT) {E:Tk->Go->Prop}{l:WF}{vs fs:List Tk}{Q:Tk->Go->Prop}{f:WF->List Int}(z:s.heap.IsList l vs.toArray) (D:sO s.heap bp vs fs)
  (y:∀v,v∈vs->∃b k d,v=.ref b/\NT s.heap b k d/\f b=k::d) (r:vs.length<=Gc)
  (h:∀(arr:Array cn) (n:Nat),s.heap.objs.size<=n->arr.Perm (gz vs)->l6 (xU (dE f n) bp) arr (gz vs).size->Q (.ref (s.heap.objs.size+1)) {s with heap:=sortedAll s.heap vs (arr.map (·.2))}):
  wpAny (AT prog w) A (call (.builtin "sorted") [.ref l]) Q E s:=by
 refine Calls.call_function_entry kind_sorted plain_sorted entry_sorted (args_sorted1 _) ?_;unfold h_.«sorted»;refine IR (m:=checkCount "sorted" 1 1 _) (t3 (IR (collect_list z (IR (Dl ?_)))));have g:((s.heap.push (jh "list" #[] 0)).update s.heap.objs.size (ho (· ++vs.toArray))).objs.size=s.heap.objs.size+1:=by rw[w7,xC]
 generalize a:(((s.heap.push (jh "list" #[] 0)).update s.heap.objs.size (ho (· ++vs.toArray))).push (jh "list" vs.toArray 0))=h1;have j:h1.get? (s.heap.objs.size+1)=some (jh "list" vs.toArray 0):=by rw[<- a,<-g];exact bc _ rfl
 have e:KeepsTups s.heap h1:=by
  rw[<- a];exact((KeepsTups.push _ _).trans (KeepsTups.update _ (bc _ rfl) not_tuple_list)).trans (KeepsTups.push _ _)
 have sz:s.heap.objs.size<=h1.objs.size:=by rw[<- a,xC,g];lia
 dsimp only;rw[g];refine IR (i6 (i5 slot_list_sort ⟨_,j,O⟩ entry_list_sort (IZ (s:= {s with heap:=h1}) (f:=f) ?_ j (TupsOf.keep e D) (λv hv=>?_) r λarr a1 a2=>⟨_,O,t3 ⟨_,O,?_⟩⟩) (args_list_sort _)))
 ·show A.units+1+1<cT;lia
 ·obtain⟨b,k,d,J,⟨t,c,Op,⟨o,q,i,u⟩,⟨H,C,p,x⟩,hi⟩,L⟩:=y v hv;refine⟨b,k,d,J,cr (e _ _ q i),⟨t,c,Op,⟨o,e _ _ q i,i,u⟩,⟨H,e _ _ C p,p,x⟩,hi⟩,L⟩
 ·have:=h arr h1.objs.size sz a1 a2;unfold sortedAll at this;rw[a]at this;exact this
end
end Sx
namespace L2
open PySem PySem.Spec PyProof.Rows
structure NP where
 a:WF
 k:Int
 b:WF
 d:List Int
def Lr (K:wf):List W1->Hp->VK->Prop:=λvs H Q=>∃(a:WF) (ts:List NP),vs=[W1.ref a]/\TD K H a (ts.map λt=>W1.ref t.a)/\(∀t,t∈ts->pm K H t.a [.int t.k,.ref t.b]/\pm K H t.b (t.d.map W1.int))/\
 ∀(us:List NP) (p:WF),us.Perm ts->us.Pairwise (λx y=>x.k<=y.k)->H p=none->Q (.ref p) (Uf H p (.lst (us.map λt=>W1.ref t.a)))
theorem AW:∀ {ts:List NP}{us:List Tk},ww (ts.map λt=>W1.ref t.a) us->us=ts.map λt=>em t.a
 |[],_,.nil=>rfl
 |t::ts,_,.cons r b=>by cases r;rw[m0,AW b]
theorem B1:∀(ts:List NP),ww (ts.map λt=>W1.ref t.a) (ts.map λt=>em t.a)
 |[]=>.nil
 |_::ts=>.cons rfl (B1 ts)
open Sx in
theorem FP {X:Cx}(hu:X.A.units+64<cT):hs X (.builtin "sorted") (Lr X.K):=by
 intro WP s ZB H vs us Q XV r h;obtain⟨a,ts,rfl,O8,Y,q⟩:=h;obtain⟨Op,OU,O5,hz⟩:=XV.list O8;rw[ww.u5 r];have T:=AW OU;have OM:∀t,t∈ts->NT s.heap t.a t.k t.d/\∃u o n,s.heap.get? t.a=some o/\o.cls=.type "tuple" /\o.data=.seq #[.int t.k u,.ref t.b] n:=λt m=>by
  obtain⟨h1,h2⟩:=Y t m;obtain⟨Pg,J,OW,_⟩:=XV.tuple h1;obtain⟨ks,Pd,tk,_⟩:=XV.tuple h2;cases J with
  |cons Pb J=>
   cases J with
   |cons Pc J=>
    cases J;obtain⟨u,rfl⟩:=Pb;cases Pc;obtain⟨o,D,U,n,hd⟩:=id OW;exact⟨⟨u,t.b,ks,OW,tk,Pd.ints⟩,u,o,n,D,U,hd⟩
 have inj:∀(l m:List Int),l.map W1.int=m.map W1.int->l=m:=λl=>by
  induction l with
  |nil=>intro m e;cases m with
   |nil=>rfl
   |cons=>cases e
  |cons x l E=>intro m e;cases m with
   |nil=>cases e
   |cons y m=>
    rw[m0,m0]at e;injection e with N OY;injection N with N;rw[N,E m OY]
 have same:∀t t',t∈ts->t'∈ts->t.a=t'.a->t=t':=λt t' m g e=>by
  obtain⟨h1,h2⟩:=Y t m;obtain⟨OZ,O0⟩:=Y t' g;rw[e]at h1;have z:=XV.vW h1 OZ;injection z with C w;injection w with w Pm;injection C with C;injection w with w;rw[w]at h2;have OX:=inj _ _ (XV.vW h2 O0);obtain⟨ta,tk,tb,td⟩:=t;obtain⟨Ph,Pl,Pj,Pk⟩:=t';simp only at e C w OX;subst e C w OX;rfl
 let f:WF->List Int:=λb=>match ts.find? (λt=>decide (t.a=b))with
  |some t=>t.k::t.d
  |none=>[]
 have OO:∀t,t∈ts->f t.a=t.k::t.d:=λt m=>by
  show(match ts.find? (λt'=>decide (t'.a=t.a))with|some t=>t.k::t.d|none=>[])=_;cases e:ts.find? (λt'=>decide (t'.a=t.a))with
  |none=>exact absurd (Cw.mp e t m) (by simp)
  |some t'=>
   have h1:=CI e;have h2:=Cg e;have C:=same t' t h2 m (by simpa using h1);simp only;rw[C]
 have fb:∀l:List NP,(∀t,t∈l->t∈ts)->∃fs,sO s.heap bp (l.map λt=>em t.a) fs:=by
  intro l
  induction l with
  |nil=>intro _;exact⟨[],.nil⟩
  |cons t l E=>
   intro hm;obtain⟨fs,L⟩:=E λu hu=>hm u (o0 _ hu);obtain⟨_,u,o,n,D,U,hd⟩:=OM t (hm t (kt ..));exact⟨_,.cons ⟨t.a,o,_,n,O,D,U,hd,O,λ_=>⟨_,_,O⟩,λe=>by cases e⟩ L⟩
 obtain⟨fs,L⟩:=fb ts λ_ m=>m;rw[<- T]at L;refine I0 hu (f:=f) O5.isList L (λv hv=>?_) (by have:=OU.length;lia) λarr n O7 OQ O9=>?_
 ·rw[T]at hv;obtain⟨t,m,rfl⟩:=mo.mp hv;exact⟨t.a,t.k,t.d,O,(OM t m).1,OO t m⟩
 let c:cn->NP:=λp=>match p.2 with
  |.ref b=>(ts.find? (λt=>decide (t.a=b))).getD ⟨0,0,0,[]⟩
  |_=>⟨0,0,0,[]⟩
 have ON:∀t,t∈ts->c (.ref t.a,.ref t.a)=t:=λt m=>by
  show(ts.find? (λt'=>decide (t'.a=t.a))).getD ⟨0,0,0,[]⟩=t;cases e:ts.find? (λt'=>decide (t'.a=t.a))with
  |none=>exact absurd (Cw.mp e t m) (by simp)
  |some t'=>exact same t' t (Cg e) m (by simpa using CI e)
 have OR:arr.toList.Perm (ts.map λt=>((.ref t.a,.ref t.a):cn)):=by
  have e:=xG.mp OQ;rw[xx,T]at e;have z:∀l:List NP,(l.map λt=>em t.a).zip (l.map λt=>em t.a)=l.map λt=>((.ref t.a,.ref t.a):cn):=λl=>by
   induction l with
   |nil=>rfl
   |cons t l E=>simp only[m0,oE,E]
  rw[z ts]at e;exact e
 have OT:∀p,p∈arr.toList->∃t,t∈ts/\p=(.ref t.a,.ref t.a):=λp m=>by
  obtain⟨t,g,e⟩:=mo.mp (OR.mem_iff.mp m);exact⟨t,g,e.symm⟩
 have perm:(arr.toList.map c).Perm ts:=by
  refine(OR.map c).trans ?_;rw[ax];refine xV ?_
  conv=>rhs;rw[<- rT ts]
  exact eE λt m=>ON t m
 have Pa:(arr.map (·.2)).toList=(arr.toList.map c).map λt=>em t.a:=by
  rw[Eg,ax];refine eE λp m=>?_;obtain⟨t,g,rfl⟩:=OT p m;show em t.a=em (c (.ref t.a,.ref t.a)).a;rw[ON t g]
 have O_:∀t,t∈ts->t.a<n:=λt m=>by
  obtain⟨_,u,o,_,D,_⟩:=OM t m;exact c_ (cr D) O7
 have OS:∀i (hi:i<arr.toList.length),KK (G.tupKindC (dE f n) bp) arr i=(((c arr.toList[i]).k::(c arr.toList[i]).d)).map ii:=λi hi=>by
  obtain⟨t,g,e⟩:=OT _ (eX hi);unfold KK;have O2:i<arr.size:=by simpa using hi
  rw[xH O2,<-Ef];show((G.tupKeyC (dE f n) bp (arr.toList[i]).1).getD [])=_;rw[e,ON t g];show(G.tupKeyC (dE f n) bp (.ref t.a)).getD []=_;rw[o9 (O_ t g),OO t g];rfl
 have Pe:(arr.toList.map c).Pairwise (λx y=>x.k<=y.k):=by
  rw[jl,ky];intro i j hi OP O3;have O4:j<(gz Op).size:=by
   have e:=OQ.size_eq;have Pf:j<arr.size:=by simpa using OP
   lia
  have:=O9 i j (ed O3) O4;rw[OS i hi,OS j OP]at this;have OV:lexLt xD ((((c arr.toList[j]).k::(c arr.toList[j]).d)).map ii) ((((c arr.toList[i]).k::(c arr.toList[i]).d)).map ii)=false:=this;rw[px]at OV;simp only[ci,Bool.or_eq_false_iff,wx]at OV;lia
 obtain⟨ep,O1⟩:=D' s.heap Op (arr.map (·.2));have O6:((arr.toList.map c).map λt=>W1.ref t.a).length<=Gc:=by
  rw[FM,perm.length_eq];rw[FM]at hz;exact hz
 refine⟨.ref _,Uf H (s.heap.objs.size+1) (.lst ((arr.toList.map c).map λt=>W1.ref t.a)),XV.laid (t':=s.toks) (λ_ _=>D_) (ij _) ⟨O6,(arr.map (·.2)).toList,ep,?_,O1⟩,O,q _ _ perm Pe (XV.ag.fresh (ij _))⟩;rw[Pa];exact B1 _
end L2
namespace Dv
open PySem L2 Tw
variable {P:fr}{w:kw}{K:wf}{mg:Str->Option Tk}{base:s2}{CP CN CS CL CG:WF}
theorem c5{i:Nat}{y:b}(p:Paired R xs ys) (e:ys[i]?=some y):∃x,xs[i]?=some x/\R x y:=by(
induction p generalizing i with
|nil=>cases e
|cons r t a=>
 cases i with
 |zero=>cases e;exact B rfl r
 |succ i=>exact a e)
theorem eu{ys:List b}{i:Nat}(p:Paired R xs ys) (e:xs[i]?=some x):∃y,ys[i]?=some y/\R x y:=by(
induction p generalizing i with
|nil=>cases e
|cons r t a=>
 cases i with
 |zero=>cases e;exact B rfl r
 |succ i=>exact a e)
theorem aj{S:b->c->Prop}(h:∀x y,R x y->S x y) (p:Paired R xs ys):Paired S xs ys:=by(
induction p with
|nil=>exact .nil
|cons r t a=>exact .cons (h _ _ r) a)
def TupAt (H:Hp) (v:W1) (xs:List W1):Prop:=∃a,v=.ref a/\H a=some (.tup xs)
def LstAt (H:Hp) (v:W1) (xs:List W1):Prop:=∃a,v=.ref a/\H a=some (.lst xs)
theorem TupAt.same(s:Tl H I) (h:TupAt H v xs):TupAt I v xs:=by obtain⟨a,e,q⟩:=h;exact(Ix a e (s a _ q))
theorem LstAt.same(s:Tl H I) (h:LstAt H v xs):LstAt I v xs:=by obtain⟨a,e,q⟩:=h;exact(Ix a e (s a _ q))
def Rs (n:Nat):W1:=.int (n:Int)
noncomputable def aX (e:on):List W1:=[.int e.1,Rs e.2.1,Rs e.2.2]
def jK (w:Nat×Int×Nat):List W1:=[Rs w.1,.int w.2.1,Rs w.2.2]
def j1 (x:Nat×Int):List W1:=[Rs x.1,.int x.2]
noncomputable def nf (c r o d f:WF):List (Str×W1):=[("changes",.ref c),("runs",.ref r),("origins",.ref o),("departures",.ref d),("footpaths",.ref f)]
structure f2 (CN:WF) (H:Hp) (n:WF) (N:Nt):Prop where
 ex:∃g c r o d f b os ds fs,H n=some (.ins CN g (nf c r o d f))/\H c=some (.lst (N.chg.map W1.int))/\
  H r=some (.lst b)/\Paired (λv (x:List Nat×List Int)=>∃s a,TupAt H v [.ref s,.ref a]/\H s=some (.lst (x.1.map Rs))/\H a=some (.lst (x.2.map W1.int))) b N.runs/\
  H d=some (.lst ds)/\Paired (λv x=>∃es,LstAt H v es/\Paired (λv e=>TupAt H v (aX e)) es x) ds N.af/\
  H f=some (.lst fs)/\Paired (λv x=>∃es,LstAt H v es/\Paired (λv e=>TupAt H v (jK e)) es x) fs N.foot/\
  H o=some (.lst os)/\Paired (λv x=>TupAt H v (j1 x)) os N.aZ
theorem f2.same(s:Tl H I) (h:f2 CN H n N):f2 CN I n N:=by
 refine et h.ex λi c r o d f A os ds fs h1 h2 k l m p t u y j=>?_;refine⟨i,c,r,o,d,f,A,os,ds,fs,s _ _ h1,s _ _ h2,s _ _ k,aj (λv x C=>by obtain⟨a,b,e,g,z⟩:=C;exact IN a b (e.same s) (s _ _ g) (s _ _ z)) l,s _ _ m,aj (λv x D=>by obtain⟨es,e,g⟩:=D;exact Ix es (e.same s) (aj (λ_ _ q=>q.same s) g)) p,s _ _ t,aj (λv x E=>by obtain⟨es,e,g⟩:=E;exact Ix es (e.same s) (aj (λ_ _ q=>q.same s) g)) u,s _ _ y,aj (λ_ _ q=>q.same s) j⟩
noncomputable def sf (n a1 a2 a3 a4 a5 a6 a7:WF) (k:Nat):List (Str×W1):=[("network",.ref n),("taken",Rs k),("arrivals",.ref a1),("rides",.ref a2),("ridden",.ref a3),("ready",.ref a4),("unboarded",.ref a5),("first_calls",.ref a6),("boardings",.ref a7)]
structure SA where
 x:WF
 dx:WF
 n:WF
 a1:WF
 a2:WF
 a3:WF
 a4:WF
 a5:WF
 a6:WF
 a7:WF
noncomputable def SA.own (A:SA):List WF:=[A.x,A.a1,A.a2,A.a3,A.a4,A.a5,A.a6,A.a7]
structure ul (CS CN:WF) (H:Hp) (A:SA) (N:Nt) (S:SS):Prop where
 ob:H A.x=some (.ins CS A.dx (sf A.n A.a1 A.a2 A.a3 A.a4 A.a5 A.a6 A.a7 S.taken))
 arr:H A.a1=some (.lst (S.arr.map W1.int))
 rides:H A.a2=some (.lst (S.rides.map Rs))
 ab:H A.a3=some (.lst (S.ab.map W1.int))
 ready:H A.a4=some (.lst (S.ready.map W1.int))
 ah:H A.a5=some (.lst (S.ah.map Rs))
 aa:H A.a6=some (.lst (S.aa.map Rs))
 ae:∃es,H A.a7=some (.lst es)/\Paired (λv e=>TupAt (hide A.own H) v (aX e)) es S.ae
 nd:A.own.Nodup
 au:f2 CN (hide A.own H) A.n N
structure dd (N:Nt):Prop where
 af:N.af.length=N.n
 foot:N.foot.length=N.n
 kX:∀s g m,s<N.n->(g,m)∈N.ft s->g<N.n
 eO:∀r i,r<N.runs.length->i<N.len r->N.stop r i<N.n
 pos:∀r,r<N.runs.length->0<N.len r
 comes:∀r,r<N.runs.length->(N.runs.getD r ([],[])).2.length=N.len r
 mF:∀s e,s<N.n->e∈N.af.getD s []->e.2.1<N.runs.length
 small:N.n<=1000/\(N.af.map cC).sum<=300000/\N.runs.length<=1000000/\∀r,N.len r<=1000000
structure pp (N:Nt) (S:SS):Prop where
 au:dd N
 iK:∀e,e∈S.ae->e.2.1<N.runs.length
 dD:∀r,r<N.runs.length->S.aa.getD r 0<N.len r
 arr:S.arr.length=N.n
 rides:S.rides.length=N.n
 ab:S.ab.length=N.n
 ready:S.ready.length=N.n
 ah:S.ah.length=N.n
 aa:S.aa.length=N.runs.length
 bH:∀s,s<N.n->S.ah.getD s 0<=(N.af.getD s []).length
 dC:S.ae.length+S.ah.sum<=1000000
structure bg (K:wf) (mg:Str->Option Tk) (CS CN:WF):Prop where
 aq:cE K CS
 lC:ao K CS "network"
 nA:ao K CS "taken"
 dJ:ao K CS "arrivals"
 nz:ao K CS "rides"
 qR:ao K CS "ridden"
 qQ:ao K CS "ready"
 ve:ao K CS "unboarded"
 qq:ao K CS "first_calls"
 lB:ao K CS "boardings"
 aS:cE K CN
 pH:ao K CN "changes"
 iS:ao K CN "runs"
 pI:ao K CN "origins"
 hM:ao K CN "departures"
 m4:ao K CN "footpaths"
 range:mg "range"=none
 len:mg "len"=none
theorem jR:∀(l:List Nat) (i:Nat),l.getD i 0<=l.sum
 |[],i=>by simp
 |x::l,0=>by simp
 |x::l,i+1=>by have:=jR l i;simp at this ⊢;lia
theorem k8 {a b:Type}(f:a->b) (l:List a) (i:Nat) (x:a):(l.set i x).map f=(l.map f).set i (f x):=by rw[List.map_set]
theorem bW{a:Type}{l:List a}(h:i<l.length) (d:a):l[i]?=some (l.getD i d):=Tw.getD_some h d
theorem Na(h:H a=some o):Uf H a o=H:=by(
funext b;by_cases e:b=a
·subst e;rw[KE,h]
·rw[UF e])
theorem small(h:n<=1000000):n<Gc:=by rw[h9];lia
def ra (CS CN:WF):Sp:=λvs H Q _=>∃(A:SA) (N:Nt) (S:SS) (stop:Nat) (ready:Int),vs=[.ref A.x,Rs stop,.int ready]/\ul CS CN H A N S/\pp N S/\stop<N.n/\
 ∀I:Hp,ul CS CN I A N (Tw.board N S stop ready)->Ch A.own H I->Q .ak I
theorem q4:pu ["self","stop","ready","departures","place"] zaq (s1 j6):=nb rfl rfl rfl (by decide +kernel)
theorem An(F:sB K "get_on" "Search.get_on" j6 f fd) (T:bg K mg CS CN):AC P w K mg base xL 1 f fd zaq (ra CS CN):=by(
refine F.ar q4 (λvs H Q E h=>?_) (λPf Pd outer s H vs Q E Pr h=>?_)
·refine hN h λA N S stop ready Pa _=>?_;subst Pa;rfl
·intro Pe;refine hO h λA N S stop ready Pb g C Y k=>?_;subst Pb;refine et g.au.ex λO0 c r og d Pj Pw Pu ds fs h1 h2 Pl Pm O2 O3 Pn Po Pp Pk=>?_;obtain⟨bs,OP,O8⟩:=g.ae;have nd:=g.nd;have sub:=b7 A.own H;obtain⟨Pg,O4,es,⟨t,rfl,OQ⟩,OW⟩:=c5 O3 (bW (l:=N.af) (i:=stop) (by rw[C.au.af];exact Y) []);refine B (On (zS 3 q4 (xz wE (wS (wS (V 0) rfl) rfl) (V 1)))
  (On (zS 4 q4 (xz wE (wS (V 0) rfl) (V 1)))
  (On (lu bN (PW.pt (nt (ga m' (V 4) EQ (li _)) (nu (ga la (xz gN (xz wE (V 3) (jp gP (V 4) EQ)) EQ) (V 2) (li _)))))
   (On (uW (i:=4) q4.nd rfl (Or.inl rfl) EQ zz)
   (Fa (ca (cG cm da dc cZ (wS (V 0) rfl) (UV (xz wE (V 3) (V 4)) PP))))))
  (Fa (dI (V 4) (lr (wS (V 0) rfl) (V 1) lF)))))) ?_
 refine B rfl (wv A.x CS A.dx _ _ O g.ob T.aq T.lC O (wv A.n CN O0 _ _ O (sub _ _ h1) T.aS T.hM O (B rfl (Db d ds _ _ O O (TD.of (sub _ _ O2)) (lv O4) ?_))));have hu:(S.ah.map Rs)[stop]?=some (Rs (S.ah.getD stop 0)):=by rw[pr,bW (l:=S.ah) (i:=stop) (by rw[C.ah];exact Y) 0];rfl
 refine B rfl (wv A.x CS A.dx _ _ O g.ob T.aq T.ve O (B rfl (Db A.a5 _ _ _ O O (TD.of g.ah) (lv hu) ?_)));generalize OO:N.af.getD stop []=D at OW;generalize OV:S.ah.getD stop 0=y;have Pt:y<=D.length:=by rw[<- OV,<-OO];exact C.bH stop Y
 have dC:S.ae.length+y<=1000000:=by have:=C.dC;have:=jR S.ah stop;lia
 have OZ:t≠A.a7:=λe=>(wl.mp OQ).1 (by rw[e];simp[SA.own]);have O_:A.x≠A.a7:=by have:=nd;simp[SA.own]at this;exact this.1.2.2.2.2.2.2
 have OX:A.a5≠A.a7:=by have:=nd;simp[SA.own]at this;exact this.2.2.2.2.2.1.2
 have OM:∀o,(Uf H A.a7 o) A.x=some (.ins CS A.dx (sf A.n A.a1 A.a2 A.a3 A.a4 A.a5 A.a6 A.a7 S.taken)):=λo=>by rw[UF O_];exact g.ob
 let OY:Nat->St->Hp->Prop:=λm ZB H2=>∃(b:List on) (a:List W1),ZB=[some (.ref A.x),some (Rs stop),some (.int ready),some (.ref t),some (Rs m)]/\H2=Uf H A.a7 (.lst a)/\Paired (λv e=>TupAt (hide A.own H) v (aX e)) a b/\
  m<=y/\aR D ready m b=aR D ready y S.ae/\b.length+m=S.ae.length+y
 refine⟨OY,(b_ y S.ae bs ⟨O,(Na OP).symm,O8,tz _,O,O⟩),?_⟩;rintro m ZB H2 ⟨b,a,rfl,rfl,ON,hm,OU,Pq⟩;have fin:∀q,aR D ready m b=(q,b)->m=q->Q .ak (Uf (Uf H A.a7 (.lst a)) A.a5 (.lst ((S.ah.set stop q).map Rs))):=by
  intro q u L;have O1:Tw.board N S stop ready= {S with ah:=S.ah.set stop q,ae:=b}:=by
   unfold Tw.board;rw[OO,OV,<-OU,u]
  refine k _ ?_ (((Ch.rfl' _ _).put (by simp[SA.own])).put (by simp[SA.own]));rw[O1];have OT:hide A.own (Uf (Uf H A.a7 (.lst a)) A.a5 (.lst ((S.ah.set stop q).map Rs)))=hide A.own H:=by
   rw[fD (by simp[SA.own]),fD (by simp[SA.own])]
  have j:=nd;simp[SA.own]at j;refine {ob:=?_,arr:=?_,rides:=?_,ab:=?_,ready:=?_,ah:=KE,aa:=?_,ae:=Ix a ?_ (by rw[OT];exact ON),nd:=nd,au:=by rw[OT];exact g.au}
  ·rw[UF (by simp[j])];exact OM _
  ·rw[UF (by simp[j]),UF (by simp[j])];exact g.arr
  ·rw[UF (by simp[j]),UF (by simp[j])];exact g.rides
  ·rw[UF (by simp[j]),UF (by simp[j])];exact g.ab
  ·rw[UF (by simp[j]),UF (by simp[j])];exact g.ready
  ·rw[UF (by simp[Ne.symm,j,eq_comm]),UF (by simp[j])];exact g.aa
  ·rw[UF (Ne.symm OX),KE]
 have O9:Q .ak (Uf (Uf H A.a7 (.lst a)) A.a5 (.lst ((S.ah.set stop m).map Rs)))->Q .ak (Uf (Uf H A.a7 (.lst a)) A.a5 (.lst ((S.ah.map Rs).set stop (Rs m)))):=λq=>by rw[k8]at q;exact q
 have done:∀q,aR D ready m b=(q,b)->m=q->h3 (bZ 4) (ub (ru K (bZ 0) "unboarded") (bZ 1) uZ) {nx:=λ_ I=>Q .ak I,rt:=Q} [some (.ref A.x),some (Rs stop),some (.int ready),some (.ref t),some (Rs m)] (Uf H A.a7 (.lst a)):=by
  intro q u L;refine B rfl (B rfl (wv A.x CS A.dx _ _ O (OM _) T.aq T.ve O (B rfl (Db A.a5 (S.ah.map Rs) _ stop O O (by rw[UF OX];exact g.ah) ?_ ?_))))
  ·unfold e7;rw[No (by lia),No (by rw[FM,C.ah];lia)];simp
  ·exact O9 (L▸fin q u L)
 refine B rfl (IN _ _ O O (B rfl ?_));cases m with
 |zero=>
  rw[Ps (by decide)];refine v6 ?_;exact done 0 rfl rfl
 |succ p=>
  rw[No (sK (by show(0:Int)<((p+1:Nat):Int);lia))];have O6:p<D.length:=by lia
  obtain⟨Ph,OS,⟨J,rfl,U⟩⟩:=c5 OW (bW O6 dB);have O5:(Uf H A.a7 (.lst a)) J=some (.tup (aX (D.getD p dB))):=by
   rw[UF (Ae (sub _ _ U) OP (by intro z;cases z))];exact sub _ _ U
  have OR:(Uf H A.a7 (.lst a)) t=some (.lst es):=by rw[UF OZ];exact sub _ _ OQ
  have u:((p+1:Nat):Int)-1=(p:Int):=by lia
  refine B rfl (B rfl (IN _ _ O O (Db t es _ _ O O (TD.of OR) (by rw[u];exact lv OS) (Db J _ _ _ O O (pm.of O5) O (B rfl (IN _ _ O O (B rfl ?_)))))));by_cases c:ready<=(D.getD p dB).1
  ·rw[sK c];refine wn ⟨λPc I=>∃O7,O7<p+1/\_,λPc I q=>q,?_⟩;refine B rfl (IN _ _ O O ?_);refine B rfl (b' A.x CS A.dx _ _ O (OM _) T.aq T.lB O (.inl ⟨O,⟨_,TD.of KE⟩⟩) (B rfl (B rfl (Db t es _ _ O O (TD.of OR) (by show dW es (((p+1:Nat):Int)-1)=_;rw[u];exact lv OS) (bb A.a7 a _ O O KE ?_ ?_)))))
   ·have:a.length=b.length:=Paired.length ON;exact small (by lia)
   ·rw[gZ];refine Ix p (sr _) ⟨b++[D.getD p dB],a++[W1.ref J],?_,O,Paired.snoc ON (Ix J O U),by lia,?_,?_⟩
    ·show [some (W1.ref A.x),some (Rs stop),some (W1.int ready),some (W1.ref t),some (W1.int (((p+1:Nat):Int)-1))]=_;rw[u];rfl
    ·rw[<- OU]
     conv=>rhs;unfold aR
     rw[No c]
    ·rw[ls,bK];lia
  ·rw[sn c];refine v6 ?_;refine done (p+1) ?_ rfl;unfold aR;rw[Ps c])
theorem Ad {l:List WF}(nd:l.Nodup) (i j:Nat) (hi:i<l.length) (a:j<l.length) (h:i≠j):l[i]≠l[j]:=λe=>h ((rO nd).mp e)
theorem gT {A:SA}(nd:A.own.Nodup) (i j:Nat) (h:decide (i<8/\j<8/\i≠j)=true):A.own[i]'(gB h).1≠A.own[j]'(gB h).2.1:=Ad nd i j _ _ (gB h).2.2
section
variable {CS CN:WF}{H:Hp}{A:SA}{N:Nt}{S:SS}
theorem ul.setArr (h:ul CS CN H A N S) (l:List Int):ul CS CN (Uf H A.a1 (.lst (l.map W1.int))) A N {S with arr:=l}:=by
 have a:hide A.own (Uf H A.a1 (.lst (l.map W1.int)))=hide A.own H:=fD (by simp[SA.own]);have n:=gT h.nd;obtain⟨es,b,c⟩:=h.ae;exact {ob:=(UF (n 0 1 rfl)).trans h.ob,arr:=KE,rides:=(UF (n 2 1 rfl)).trans h.rides,ab:=(UF (n 3 1 rfl)).trans h.ab,ready:=(UF (n 4 1 rfl)).trans h.ready,ah:=(UF (n 5 1 rfl)).trans h.ah,aa:=(UF (n 6 1 rfl)).trans h.aa,ae:=Ix es ((UF (n 7 1 rfl)).trans b) (by rw[a];exact c),nd:=h.nd,au:=by rw[a];exact h.au}
theorem ul.Mp (h:ul CS CN H A N S) (l:List Nat):ul CS CN (Uf H A.a2 (.lst (l.map Rs))) A N {S with rides:=l}:=by
 have a:hide A.own (Uf H A.a2 (.lst (l.map Rs)))=hide A.own H:=fD (by simp[SA.own]);have n:=gT h.nd;obtain⟨es,b,c⟩:=h.ae;exact {ob:=(UF (n 0 2 rfl)).trans h.ob,arr:=(UF (n 1 2 rfl)).trans h.arr,rides:=KE,ab:=(UF (n 3 2 rfl)).trans h.ab,ready:=(UF (n 4 2 rfl)).trans h.ready,ah:=(UF (n 5 2 rfl)).trans h.ah,aa:=(UF (n 6 2 rfl)).trans h.aa,ae:=Ix es ((UF (n 7 2 rfl)).trans b) (by rw[a];exact c),nd:=h.nd,au:=by rw[a];exact h.au}
theorem ul.Mo (h:ul CS CN H A N S) (l:List Int):ul CS CN (Uf H A.a3 (.lst (l.map W1.int))) A N {S with ab:=l}:=by
 have a:hide A.own (Uf H A.a3 (.lst (l.map W1.int)))=hide A.own H:=fD (by simp[SA.own]);have n:=gT h.nd;obtain⟨es,b,c⟩:=h.ae;exact {ob:=(UF (n 0 3 rfl)).trans h.ob,arr:=(UF (n 1 3 rfl)).trans h.arr,rides:=(UF (n 2 3 rfl)).trans h.rides,ab:=KE,ready:=(UF (n 4 3 rfl)).trans h.ready,ah:=(UF (n 5 3 rfl)).trans h.ah,aa:=(UF (n 6 3 rfl)).trans h.aa,ae:=Ix es ((UF (n 7 3 rfl)).trans b) (by rw[a];exact c),nd:=h.nd,au:=by rw[a];exact h.au}
theorem ul.Mn (h:ul CS CN H A N S) (l:List Int):ul CS CN (Uf H A.a4 (.lst (l.map W1.int))) A N {S with ready:=l}:=by
 have a:hide A.own (Uf H A.a4 (.lst (l.map W1.int)))=hide A.own H:=fD (by simp[SA.own]);have n:=gT h.nd;obtain⟨es,b,c⟩:=h.ae;exact {ob:=(UF (n 0 4 rfl)).trans h.ob,arr:=(UF (n 1 4 rfl)).trans h.arr,rides:=(UF (n 2 4 rfl)).trans h.rides,ab:=(UF (n 3 4 rfl)).trans h.ab,ready:=KE,ah:=(UF (n 5 4 rfl)).trans h.ah,aa:=(UF (n 6 4 rfl)).trans h.aa,ae:=Ix es ((UF (n 7 4 rfl)).trans b) (by rw[a];exact c),nd:=h.nd,au:=by rw[a];exact h.au}
theorem ul.Mm (h:ul CS CN H A N S) (l:List Nat):ul CS CN (Uf H A.a6 (.lst (l.map Rs))) A N {S with aa:=l}:=by
 have a:hide A.own (Uf H A.a6 (.lst (l.map Rs)))=hide A.own H:=fD (by simp[SA.own]);have n:=gT h.nd;obtain⟨es,b,c⟩:=h.ae;exact {ob:=(UF (n 0 6 rfl)).trans h.ob,arr:=(UF (n 1 6 rfl)).trans h.arr,rides:=(UF (n 2 6 rfl)).trans h.rides,ab:=(UF (n 3 6 rfl)).trans h.ab,ready:=(UF (n 4 6 rfl)).trans h.ready,ah:=(UF (n 5 6 rfl)).trans h.ah,aa:=KE,ae:=Ix es ((UF (n 7 6 rfl)).trans b) (by rw[a];exact c),nd:=h.nd,au:=by rw[a];exact h.au}
theorem ul.Mq (h:ul CS CN H A N S) (k:Nat):ul CS CN (Uf H A.x (.ins CS A.dx (sf A.n A.a1 A.a2 A.a3 A.a4 A.a5 A.a6 A.a7 k))) A N {S with taken:=k}:=by
 have a:hide A.own (Uf H A.x (.ins CS A.dx (sf A.n A.a1 A.a2 A.a3 A.a4 A.a5 A.a6 A.a7 k)))=hide A.own H:=fD (by simp[SA.own]);have n:=gT h.nd;obtain⟨es,b,c⟩:=h.ae;exact {ob:=KE,arr:=(UF (n 1 0 rfl)).trans h.arr,rides:=(UF (n 2 0 rfl)).trans h.rides,ab:=(UF (n 3 0 rfl)).trans h.ab,ready:=(UF (n 4 0 rfl)).trans h.ready,ah:=(UF (n 5 0 rfl)).trans h.ah,aa:=(UF (n 6 0 rfl)).trans h.aa,ae:=Ix es ((UF (n 7 0 rfl)).trans b) (by rw[a];exact c),nd:=h.nd,au:=by rw[a];exact h.au}
theorem mQ(h:k<n):e7 n (k:Int)=some k:=by
 unfold e7;rw[No (by lia),No (by lia)];simp
theorem jC{l:List Int}(h:i<l.length):dW (l.map W1.int) (i:Int)=some (.int (l.getD i 0)):=lv (by rw[pr,bW h 0];rfl)
theorem tw{l:List Nat}(h:i<l.length):dW (l.map Rs) (i:Int)=some (Rs (l.getD i 0)):=lv (by rw[pr,bW h 0];rfl)
theorem sum_set:∀(l:List Nat) (i x:Nat),i<l.length->(l.set i x).sum+l.getD i 0=l.sum+x
 |[],i,x,h=>absurd h (xm _)
 |y::l,0,x,_=>by simp;lia
 |y::l,i+1,x,h=>by
  have:=sum_set l i x (by simpa using h);simp at this⊢;lia
theorem tJ:∀(p:Nat) (b:List on),(aR d ready p b).1<=p/\(aR d ready p b).2.length+(aR d ready p b).1=b.length+p
 |0,b=>⟨tz _,O⟩
 |p+1,b=>by
  unfold aR;split
  ·obtain⟨h1,h2⟩:=tJ (d:=d) (ready:=ready) p (b++[d.getD p dB]);rw[ls,bK]at h2;exact⟨by lia,by lia⟩
  ·exact⟨tz _,O⟩
theorem yC:∀(p:Nat) (b:List on),p<=d.length->∀e,e∈(aR d ready p b).2->e∈b\/e∈d
 |0,b,_,e,h=>.inl h
 |p+1,b,a,e,h=>by
  unfold aR at h;split at h
  ·rcases yC p (b++[d.getD p dB]) (by lia) e h with q|q
   ·rcases cs.mp q with q|q
    ·exact .inl q
    ·simp only[sc]at q;rw[q];exact .inr (Tw.getD_mem (by lia) _)
   ·exact .inr q
  ·exact .inl h
theorem pp.board(h:pp N S) (a:stop<N.n) (ready:Int):pp N (Tw.board N S stop ready):=by(
obtain⟨h1,h2⟩:=tJ (d:=N.af.getD stop []) (ready:=ready) (S.ah.getD stop 0) S.ae;refine {au:=h.au,iK:=λe b=>(yC _ _ (h.bH stop a) e b).elim (h.iK e) (h.au.mF stop e a),dD:=h.dD,arr:=h.arr,rides:=h.rides,ab:=h.ab,ready:=h.ready,ah:=by simp[Tw.board,h.ah],aa:=h.aa,bH:=λs c=>?_,dC:=?_}
·show(S.ah.set stop _).getD s 0<=_;rw[Tw.gW (by rw[h.ah];exact a)];split
 ·rename_i e;rw[e];exact dz h1 (h.bH stop a)
 ·exact h.bH s c
·have:=h.dC;have e:=sum_set S.ah stop (aR (N.af.getD stop []) ready (S.ah.getD stop 0) S.ae).1 (by rw[h.ah];exact a);show(aR (N.af.getD stop []) ready (S.ah.getD stop 0) S.ae).2.length+(S.ah.set stop (aR (N.af.getD stop []) ready (S.ah.getD stop 0) S.ae).1).sum<=_;lia)
theorem pp.az (h:pp N S) (stop:Nat) (Is:Int):pp N (Tw.az S stop Is):=by(
unfold Tw.az;split
·exact {h with arr:=by simp[h.arr],rides:=by simp[h.rides]}
·exact h)
theorem pp.e1(h:pp N S) (a:stop<N.n) (ready:Int):pp N (Tw.e1 N S stop ready):=by(
unfold Tw.e1;split
·exact pp.board (S:= {S with ready:=S.ready.set stop ready}) {h with ready:=by simp[h.ready]} a ready
·exact h)
theorem pp.av(h:pp N S) (a:stop<N.n) (Is ready:Int):pp N (Tw.av N S stop Is ready):=(h.az stop Is).e1 a ready
end
def nG (CS CN:WF):Sp:=λvs H Q _=>∃(A:SA) (N:Nt) (S:SS) (stop:Nat) (Is ready:Int),vs=[.ref A.x,Rs stop,.int Is,.int ready]/\ul CS CN H A N S/\pp N S/\stop<N.n/\
 ∀I:Hp,ul CS CN I A N (Tw.av N S stop Is ready)->Ch A.own H I->Q .ak I
theorem L3:pu zaf zaf (s1 qg):=nb rfl rfl rfl (by decide +kernel)
theorem Jt(F:sB K "arrive" "Search.arrive" qg f fd) (T:bg K mg CS CN) (FB:sB K "get_on" "Search.get_on" j6 o p) (bB:Binds K p zaq []) (J:cf K CS "get_on" o):
  AC P w K mg base xL 2 f fd zaf (nG CS CN):=by(
have t:AC P w K mg base xL 1 o p zaq (ra CS CN):=An FB T;refine F.ar L3 (λvs H Q E h=>?_) (λON Y outer s H vs Q E D h=>?_)
·refine lg h λA N S stop Is ready L=>?_;obtain⟨rfl,_⟩:=L;rfl
·intro OM;refine lg h λA N S stop Is ready U=>?_;obtain⟨rfl,a,l,g,k⟩:=U;refine B (On (it (ga d1 (V 2) (xz wE (wS (V 0) rfl) (V 1)) (li _))
   (On (dI (V 2) (lr (wS (V 0) rfl) (V 1) lF)) (Fa (dI (wS (V 0) rfl) (lr (wS (V 0) rfl) (V 1) lF)))) he)
  (Fa (it (ga d1 (V 3) (xz wE (wS (V 0) rfl) (V 1)) (li _))
   (On (dI (V 3) (lr (wS (V 0) rfl) (V 1) lF)) (Fa (ca (aA (V 0) T.aq J t D bB .nil ws (UV (V 1) (UV (V 3) PP)))))) he))) ?_
 have r:∀(H1:Hp),ul CS CN H1 A N (az S stop Is)->Ch A.own H H1->
   vM (rz (h4 (d3 λi j=>.bl (decide (i<j))) (bZ 3) (h4 (AL K) (ru K (bZ 0) "ready") (bZ 1))))
    (lI (h3 (bZ 3) (ub (ru K (bZ 0) "ready") (bZ 1) uZ)) (BF (vO CS "get_on" (ra CS CN) [] E0 (bZ 0) (rr (bZ 1) (rr (bZ 3) j_))))) rv
    {nx:=λ_ I=>Q .ak I,rt:=Q} [some (.ref A.x),some (Rs stop),some (.int Is),some (.int ready)] H1:=by
  intro H1 d q;have m:=l.az stop Is;refine B rfl (B rfl (wv A.x CS A.dx _ _ O d.ob T.aq T.qQ O (B rfl (Db A.a4 _ _ _ O O (TD.of d.ready) (jC (by rw[m.ready];exact g)) (IN _ _ O O (B rfl ?_))))));by_cases c:ready<(az S stop Is).ready.getD stop 0
  ·rw[sK c];refine wn ?_;have n:=d.Mn ((az S stop Is).ready.set stop ready);rw[k8]at n;refine B rfl (B rfl (wv A.x CS A.dx _ _ O d.ob T.aq T.qQ O (B rfl (Db A.a4 _ _ stop O O d.ready (mQ (by rw[FM,m.ready];exact g)) ?_))));refine B rfl (nw A.x A.dx _ O n.ob O (B rfl (B rfl (b0 A N _ stop ready ⟨O,n,{m with ready:=by simp[m.ready]},g,λu z y=>?_⟩))));refine k u ?_ ((q.put (by simp[SA.own])).tr y λb C=>.inl C);have e:Tw.av N S stop Is ready=Tw.board N {az S stop Is with ready:=(az S stop Is).ready.set stop ready} stop ready:=by
    unfold Tw.av e1;rw[No c]
   rw[e];exact z
  ·rw[sn c];refine v6 ?_;refine k H1 ?_ q;have e:Tw.av N S stop Is ready=az S stop Is:=by unfold Tw.av e1;rw[Ps c]
   rw[e];exact d
 refine B rfl (B rfl (wv A.x CS A.dx _ _ O a.ob T.aq T.dJ O (B rfl (Db A.a1 _ _ _ O O (TD.of a.arr) (jC (by rw[l.arr];exact g)) (IN _ _ O O (B rfl ?_))))));by_cases c:Is<S.arr.getD stop 0
 ·rw[sK c];refine wn ?_;have h1:=a.setArr (S.arr.set stop Is);rw[k8]at h1;have h2:=h1.Mp (S.rides.set stop S.taken);rw[k8]at h2;refine B rfl (B rfl (wv A.x CS A.dx _ _ O a.ob T.aq T.dJ O (B rfl (Db A.a1 _ _ stop O O a.arr (mQ (by rw[FM,l.arr];exact g)) ?_))));refine B rfl (wv A.x CS A.dx _ _ O h1.ob T.aq T.nA O (B rfl (wv A.x CS A.dx _ _ O h1.ob T.aq T.nz O (B rfl (Db A.a2 _ _ stop O O h1.rides (mQ (by rw[FM,l.rides];exact g)) ?_)))));refine r _ ?_ (((Ch.rfl' _ _).put (by simp[SA.own])).put (by simp[SA.own]));have e:az S stop Is= {S with arr:=S.arr.set stop Is,rides:=S.rides.set stop S.taken}:=by unfold az;rw[No c]
  rw[e];exact h2
 ·rw[sn c];refine v6 ?_;refine r H ?_ (Ch.rfl' _ _);have e:az S stop Is=S:=by unfold az;rw[Ps c]
  rw[e];exact a)
section
variable {N:Nt}{S:SS}
theorem pp.walks:∀(W:List (Nat×Int)) {S:SS},pp N S->(∀g m,(g,m)∈W->g<N.n)->pp N (W.foldl (λS w=>Tw.av N S w.1 (Is+w.2) (Is+w.2)) S)
 |[],S,h,_=>h
 |(g,m)::W,S,h,hw=>by
  rw[dS];exact pp.walks W (h.av (hw g m (kt ..)) _ _) λg' a q=>hw g' a (o0 _ q)
theorem pp.bI(h:pp N S) (a:stop<N.n) (Is:Int):pp N (Tw.bI N S stop Is):=pp.walks _ h λg m q=>h.au.kX stop g m a q
end
def rj (CS CN:WF):Sp:=λvs H Q _=>∃(A:SA) (N:Nt) (S:SS) (stop:Nat) (Is:Int),vs=[.ref A.x,Rs stop,.int Is]/\ul CS CN H A N S/\pp N S/\stop<N.n/\
 ∀I:Hp,ul CS CN I A N (Tw.bI N S stop Is)->Ch A.own H I->Q .ak I
theorem q9:pu ["self","stop","minute","goal","minutes","number"] zad (s1 q0):=nb rfl rfl rfl (by decide +kernel)
theorem J_(F:sB K "walk_on" "Search.walk_on" q0 f fd) (T:bg K mg CS CN) (C:AC P w K mg base xL 2 Y OM zaf (nG CS CN)) (J:Binds K OM zaf []) (mA:cf K CS "arrive" Y):
  AC P w K mg base xL 3 f fd zad (rj CS CN):=by(
refine F.ar q9 (λvs H Q E h=>?_) (λO5 O2 outer s H vs Q E OV h=>?_)
·refine hN h λA N S stop Is O0 _=>?_;subst O0;rfl
·intro O4;refine hO h λA N S stop Is O1 o j p k=>?_;subst O1;refine et o.au.ex λL c r og d U Pc Pb ds fs h1 h2 O7 O8 O9 O_ ON OO Pa O6=>?_;have sub:=b7 A.own H;obtain⟨fv,OT,es,⟨fa,rfl,u⟩,z⟩:=c5 OO (bW (l:=N.foot) (i:=stop) (by rw[j.au.foot];exact p) []);refine B (Fa (cH bN rfl (cy (xz wE (wS (wS (V 0) rfl) rfl) (V 1))) (cw rfl (re (zG 3 q9) (re (zG 4 q9) (re (zG 5 q9) cx))))
  (Fa (ca (aA (V 0) T.aq mA C OV J .nil ws (UV (V 3) (UV (jp bG (V 2) (V 4)) (UV (jp bG (V 2) (V 4)) PP)))))))) ?_
 refine B rfl (wv A.x CS A.dx _ _ O o.ob T.aq T.lC O (wv A.n CN L _ _ O (sub _ _ h1) T.aS T.m4 O (B rfl (Db U fs _ _ O O (TD.of (sub _ _ ON)) (lv OT) (zn fa O ⟨es,TD.of (sub _ _ u)⟩ ?_)))));have OU:es.length=(N.foot.getD stop []).length:=Paired.length z
 let D:Nat->St->Hp->Prop:=λi ZB H2=>∃g m q,ZB=[some (.ref A.x),some (Rs stop),some (.int Is),g,m,q]/\
   ul CS CN H2 A N (((N.ft stop).take i).foldl (λS w=>Tw.av N S w.1 (Is+w.2) (Is+w.2)) S)/\Ch A.own H H2
 refine gM (K:=K) (a:=fa) (xs:=es) D
  (b_ none none none ⟨O,o,Ch.rfl' _ _⟩) (λi ZB H2 _ OZ=>by obtain⟨_,_,_,_,_,hB⟩:=OZ;exact TD.of (b7 _ _ _ _ (hB.hide _ _ u))) ?_ ?_
 ·rintro i x ZB H2 hi ⟨g,m,q,rfl,e,hB⟩;obtain⟨⟨goal,t,num⟩,OY,⟨ta,rfl,OW⟩⟩:=eu z hi;have y:(N.ft stop)[i]?=some (goal,t):=by unfold Nt.ft;rw[pr,OY];rfl
  have OX:H2 ta=some (.tup (jK (goal,t,num))):=b7 _ _ _ _ (hB.hide _ _ OW);refine g2 ta _ O (pm.of OX) O (im _ _ O (im _ _ O (IN _ _ O O ?_)));have OQ:pp N (((N.ft stop).take i).foldl (λS w=>Tw.av N S w.1 (Is+w.2) (Is+w.2)) S):=pp.walks _ j λg m q=>j.au.kX stop g m p (oz q);have hg:goal<N.n:=j.au.kX stop goal t p (pi y);refine B rfl (nw A.x A.dx _ O e.ob O (B rfl (B rfl (B rfl (IN _ _ O O (B rfl (B rfl (IN _ _ O O (i3 A N _ goal _ _ ⟨O,e,OQ,hg,λO3 OR OP=>?_⟩)))))))));refine b_ _ _ _ ⟨O,?_,hB.tr OP λb OS=>.inl OS⟩;rw[cB,y,cK,oF];exact OR
 ·rintro ZB H2 ⟨g,m,q,rfl,e,hB⟩;refine k H2 ?_ hB;rw[show es.length=(N.ft stop).length by unfold Nt.ft;rw[FM];exact OU,dy]at e;exact e)
def dk (r:List Nat):List (sw×W1):=r.map λ(s:Nat)=>((ii (s:Int):sw),W1.bl true)
theorem F7 (r:List Nat) (s:Nat):aC (dk r) (ii (s:Int)) (W1.bl true)=dk (if s∈r then r else r++[s]):=by(
have e:((dk r).any λc=>decide (c.1=ii (s:Int)))=decide (s∈r):=by
 unfold dk;rw[List.any_map]
 induction r with
 |nil=>rfl
 |cons x r b=>
  rw[rS,b];by_cases e:x=s
  ·subst e;simp
  ·have a:¬((ii (x:Int):sw)=ii (s:Int)):=λq=>e (by injection q with q;lia);simp[a,Ne.symm e]
unfold aC;rw[e];by_cases m:s∈r
·rw[No (sK m),No m];unfold dk;rw[ax];refine eE λx _=>?_;show(if(ii (x:Int):sw)=ii (s:Int)then(ii (x:Int),W1.bl true)else(ii (x:Int),W1.bl true))=_;split<;>rfl
·rw[Ps (by simpa using m),Ps m];unfold dk;rw[bL];rfl)
section
variable {N:Nt}{S:SS}
structure de (N:Nt) (o:Off):Prop where
 ab:o.ab.length=N.n
 aa:o.aa.length=N.runs.length
 dD:∀r,r<N.runs.length->o.aa.getD r 0<N.len r
 ai:∀s,s∈o.ai->s<N.n
 nd:o.ai.Nodup
theorem de.step(h:de N o) {run:Nat}(g:N.stop run cu<N.n):de N (cP N run o cu):=by(
unfold cP;split
·refine {ab:=by simp[h.ab],aa:=h.aa,dD:=h.dD,ai:=λs c=>?_,nd:=?_}
 ·have c:s∈(if N.stop run cu∈o.ai then o.ai else o.ai++[N.stop run cu]):=c;split at c
  ·exact h.ai s c
  ·rcases cs.mp c with q|q
   ·exact h.ai s q
   ·simp at q;rw[q];exact g
 ·show(if N.stop run cu∈o.ai then o.ai else o.ai++[N.stop run cu]).Nodup;split
  ·exact h.nd
  ·rename_i q;rw[iq];refine⟨h.nd,by simp,λa d b f=>?_⟩;simp at f;rw[f];intro e;rw[e]at d;exact q d
·exact h)
theorem de.steps {run:Nat}:∀(L:List Nat) {o:Off},de N o->(∀j,j∈L->N.stop run j<N.n)->de N (L.foldl (cP N run) o)
 |[],o,h,_=>h
 |j::L,o,h,a=>by
  rw[dS];exact de.steps L (h.step (a j (kt ..))) λi hi=>a i (o0 _ hi)
theorem de.run(b:dd N) (h:de N o) (a:e.2.1<N.runs.length):de N (er N o e):=by(
unfold er;split
·rename_i c;have g:=h.dD e.2.1 a;refine de.steps _ {ab:=h.ab,aa:=by simp[h.aa],dD:=λr f=>?_,ai:=h.ai,nd:=h.nd} λj d=>b.eO _ _ a ?_
 ·show(o.aa.set e.2.1 e.2.2).getD r 0<_;rw[Tw.gW (by rw[h.aa];exact a)];split
  ·rename_i q;rw[q];lia
  ·exact h.dD r f
 ·rw[sY]at d;lia
·exact h)
theorem de.fold (b:dd N):∀(L:List on) {o:Off},de N o->(∀e,e∈L->e.2.1<N.runs.length)->de N (L.foldl (er N) o)
 |[],o,h,_=>h
 |e::L,o,h,a=>by
  rw[dS];exact de.fold b L (h.run b (a e (kt ..))) λi hi=>a i (o0 _ hi)
theorem ud (h:pp N S):de N (bF N S):=de.fold h.au _ ⟨h.ab,h.aa,h.dD,λs q=>by simp at q,rR⟩ h.iK
theorem Ja:∀(n:Nat) (l:List Nat),l.Nodup->(∀s,s∈l->s<n)->l.length<=n:=by
 intro n l nd h;have:=Eu (l₂:=s4 n) nd (λx a=>bS.mpr (h x a));simpa using this
end
section
variable {CS CN:WF}{H:Hp}{A:SA}{N:Nt}{S:SS}
theorem ul.oW(h:ul CS CN H A N S) (hd:d∉A.own) (au:f2 CN (hide A.own (Uf H d o)) A.n N) (a:H A.a7=some (.lst es)) (b:Paired (λv e=>TupAt (hide A.own (Uf H d o)) v (aX e)) es S.ae):ul CS CN (Uf H d o) A N S:=by
 have ne:∀i (hi:i<8),A.own[i]'hi≠d:=λi hi e=>hd (by rw[<- e];exact eX _);exact {ob:=(UF (ne 0 (by decide))).trans h.ob,arr:=(UF (ne 1 (by decide))).trans h.arr,rides:=(UF (ne 2 (by decide))).trans h.rides,ab:=(UF (ne 3 (by decide))).trans h.ab,ready:=(UF (ne 4 (by decide))).trans h.ready,ah:=(UF (ne 5 (by decide))).trans h.ah,aa:=(UF (ne 6 (by decide))).trans h.aa,ae:=Ix es ((UF (ne 7 (by decide))).trans a) b,nd:=h.nd,au:=au}
theorem ng(h:ul CS CN H A N S) (a:b∈A.own):H b≠none:=by(
obtain⟨es,c,d⟩:=h.ae;simp only[SA.own,rs,ir,g9]at a;rcases a with rfl|rfl|rfl|rfl|rfl|rfl|rfl|rfl
·rw[h.ob];simp
·rw[h.arr];simp
·rw[h.rides];simp
·rw[h.ab];simp
·rw[h.ready];simp
·rw[h.ah];simp
·rw[h.aa];simp
·rw[c];simp)
theorem ug(hd:H d=none) (a:Ch l H H2):Tl (hide l H) (hide l (Uf H2 d o)):=λb u e=>by
 obtain⟨h1,h2⟩:=wl.mp e;refine wl.mpr ⟨h1,?_⟩;rw[UF (v0 h2 hd)];exact a b u h2 h1
end
def vx (CS CN:WF):Sp:=λvs H Q _=>∃(A:SA) (N:Nt) (S:SS),vs=[.ref A.x]/\ul CS CN H A N S/\pp N S/\
 ∀(I:Hp) (d:WF),H d=none->I d=some (.dK (dk (bF N S).ai))->ul CS CN I A N {S with aa:=(bF N S).aa,ab:=(bF N S).ab}->Ch A.own H I->Q (.ref d) I
theorem gr:pu ["self","ridden","reached","goes","run","call","last","stops","comes","later","stop"] zaa (s1 qy):=nb rfl rfl rfl (by decide +kernel)
structure f_ (CS CN:WF) (H:Hp) (A:SA) (N:Nt) (S:SS) (d:WF) (es:List W1) (H2:Hp) (o:Off):Prop where
 at_:ul CS CN H2 A N {S with aa:=o.aa,ab:=o.ab}
 es:H2 A.a7=some (.lst es)
 tW:H2 d=some (.dK (dk o.ai))
 but:Ch A.own H H2
 ok:de N o
theorem JL(F:sB K "get_off" "Search.get_off" qy f fd) (T:bg K mg CS CN):AC P w K mg base xL 1 f fd zaa (vx CS CN):=by(
refine F.ar gr (λvs H Q E h=>?_) (λPV PR outer s H vs Q E Pu h=>?_)
·refine pS h λA N S PN _=>?_;subst PN;rfl
·intro PU;refine lb h λA N S PQ p t k=>?_;subst PQ;have hu:=hK Pu;refine et p.au.ex λPh c r og d' PX PJ P6 ds fs h1 h2 Pm Pn PZ P0 P1 P2 P4 PY=>?_;obtain⟨bs,OR,OM⟩:=p.ae;refine B (On (zS 1 gr (wS (V 0) rfl))
  (On (zS 2 gr KL)
  (On (cH bN rfl (cy (wS (V 0) rfl)) (cw rfl (re (zG 3 gr) (re (zG 4 gr) (re (zG 5 gr) cx))))
   (On (zS 6 gr (xz wE (wS (V 0) rfl) (V 4)))
   (Fa (it (ga d1 (V 5) (V 6) (li _))
    (On (dI (V 5) (lr (wS (V 0) rfl) (V 4) lF))
    (On (dI (xz wE (wS (wS (V 0) rfl) rfl) (V 4)) (cw rfl (re (zG 7 gr) (re (zG 8 gr) cx))))
    (Fa (cH bN rfl (KW rfl T.range (UV (jp bG (V 5) EQ) (UV (jp bG (V 6) EQ) PP))) (zG 9 gr)
     (On (zS 10 gr (xz wE (V 7) (V 9)))
     (Fa (it (ga d1 (xz wE (V 8) (V 9)) (xz wE (V 1) (V 10)) (li _))
      (On (dI (xz wE (V 8) (V 9)) (lr (V 1) (V 10) lF)) (Fa (nr hu (V 2) (V 10) ni rfl))) he)))))))
    he))))
  (Fa (tt (V 2)))))) ?_
 refine B rfl (wv A.x CS A.dx _ _ O p.ob T.aq T.qR O ?_);intro d hd;have D:d∉A.own:=λq=>ng p q hd;have O5:ul CS CN (Uf H d (.dK [])) A N S:=p.oW D (p.au.same (ug hd (Ch.rfl' _ _))) OR (aj (λ_ _ q=>q.same (ug hd (Ch.rfl' _ _))) OM);have OQ:A.a7≠d:=λe=>D (by rw[<- e];simp[SA.own]);refine B rfl (wv A.x CS A.dx _ _ O O5.ob T.aq T.lB O (zn A.a7 O ⟨bs,TD.of (by rw[UF OQ];exact OR)⟩ ?_));have Pp:bs.length=S.ae.length:=Paired.length OM
 let OO:Nat->St->Hp->Prop:=λi ZB H2=>∃OW OX OY OZ O0 O1 U L,ZB=[some (.ref A.x),some (.ref A.a3),some (.ref d),OW,OX,OY,OZ,O0,O1,U,L]/\
   f_ CS CN H A N S d bs H2 ((S.ae.take i).foldl (er N) ⟨S.aa,S.ab,[]⟩)
 refine gM (K:=K) (a:=A.a7) (xs:=bs) OO
  (fc none none none none none none none none ⟨O,⟨O5,by rw[UF OQ];exact OR,KE,(Ch.rfl' _ _).new hd,⟨t.ab,t.aa,t.dD,λs q=>by simp at q,rR⟩⟩⟩)
  (λi ZB H2 _ PM=>by obtain⟨_,_,_,_,_,_,_,_,_,q⟩:=PM;exact TD.of q.es) ?_ ?_
 ·rintro i x ZB H2 hi ⟨OW,OX,OY,OZ,O0,O1,U,L,rfl,XV⟩;obtain⟨⟨g,run,call⟩,O9,⟨ta,rfl,PB⟩⟩:=eu OM hi;have y:run<N.runs.length:=t.iK _ (pi O9);generalize Pr:(S.ae.take i).foldl (er N) ⟨S.aa,S.ab,[]⟩=o at XV;have Pa:(S.ae.take (i+1)).foldl (er N) ⟨S.aa,S.ab,[]⟩=er N o (g,run,call):=by
   rw[cB,O9,cK,oF,Pr];rfl
  have PD:H2 ta=some (.tup (aX (g,run,call))):=b7 _ _ _ _ (XV.but.hide _ _ PB);refine g2 ta _ O (pm.of PD) O (im _ _ O (im _ _ O (IN _ _ O O ?_)));refine B rfl (wv A.x CS A.dx _ _ O XV.at_.ob T.aq T.qq O (B rfl (Db A.a6 _ _ _ O O (TD.of XV.at_.aa) (tw (by show run<o.aa.length;rw[XV.ok.aa];exact y)) ?_)));generalize Y:o.aa.getD run 0=m;refine B rfl (B rfl (IN _ _ O O (B rfl ?_)));by_cases c:call<m
  ·rw[sK (show((call:Nat):Int)<((m:Nat):Int) by lia)];refine wn ?_;have Pe:call<o.aa.getD run 0:=by rw[Y];exact c
   have P5:m<N.len run:=by rw[<- Y];exact XV.ok.dD run y
   have ON:=XV.at_.Mm (o.aa.set run call);rw[k8]at ON;refine B rfl (B rfl (wv A.x CS A.dx _ _ O XV.at_.ob T.aq T.qq O (B rfl (Db A.a6 _ _ run O O XV.at_.aa (mQ (by rw[FM];show run<o.aa.length;rw[XV.ok.aa];exact y)) ?_))));obtain⟨P7,Py,sa,OP,⟨PH,rfl,Px⟩,Pz,O6⟩:=c5 Pn (bW (l:=N.runs) (i:=run) y ([],[]));have OU:∀b u,hide A.own H b=some u->∀o',(Uf H2 A.a6 o') b=some u:=λb u e o'=>by
    have q:=wl.mp (XV.but.hide _ _ e);have ne:b≠A.a6:=λz=>q.1 (by rw[z];simp[SA.own]);rw[UF ne];exact q.2
   refine B rfl (wv A.x CS A.dx _ _ O ON.ob T.aq T.lC O (wv A.n CN Ph _ _ O (OU _ _ h1 _) T.aS T.iS O (B rfl (Db r PJ _ _ O O (TD.of (OU _ _ Pm _)) (lv Py) (g2 PH _ O (pm.of (OU _ _ Px _)) O (im _ _ O (IN _ _ O O ?_)))))));refine B rfl (IN _ _ O O (B rfl (IN _ _ O O (IN _ _ O ?_ ?_))))
   ·have h':=t.au.small.2.2.2 run;refine⟨?_,?_,?_,?_⟩
    ·show -(2^62)<=((call:Nat):Int)+1;lia
    ·show((call:Nat):Int)+1<2^62;lia
    ·show -(2^62)<=((m:Nat):Int)+1;lia
    ·show((m:Nat):Int)+1<2^62;lia
   ·have en:(((m:Nat):Int)+1-(((call:Nat):Int)+1)).toNat=m-call:=by lia
    let OO:Nat->St->Hp->Prop:=λq ZB C=>∃U L,ZB=[some (.ref A.x),some (.ref A.a3),some (.ref d),some (.int g),some (Rs run),some (Rs call),some (Rs m),some (.ref sa),some (.ref OP),U,L]/\
      f_ CS CN H A N S d bs C ((kE (call+1) q).foldl (cP N run) {o with aa:=o.aa.set run call})
    refine kY OO
     (im _ _ O ?_) ?_ ?_
    ·have PF:=gT p.nd 7 6 rfl;have Pg:d≠A.a6:=λe=>D (by rw[e];simp[SA.own]);refine⟨ON,(UF PF).trans XV.es,(UF Pg).trans XV.tW,XV.but.put (by simp[SA.own]),{ab:=XV.ok.ab,aa:=by simp[XV.ok.aa],dD:=λPd Pw=>?_,ai:=XV.ok.ai,nd:=XV.ok.nd}⟩;show(o.aa.set run call).getD Pd 0<_;rw[Tw.gW (by rw[XV.ok.aa];exact y)];split
     ·rename_i q;rw[q];lia
     ·exact XV.ok.dD Pd Pw
    ·rintro q ZB C O8 ⟨PL,PK,rfl,J⟩;have O8:q<m-call:=n' O8 en;generalize Pt:(kE (call+1) q).foldl (cP N run) {o with aa:=o.aa.set run call}=j at J;have Pb:(kE (call+1) (q+1)).foldl (cP N run) {o with aa:=o.aa.set run call}=cP N run j (call+1+q):=by
      rw[List.range'_1_concat,oF,Pt];rfl
     have OS:call+1+q<N.len run:=by lia
     have OT:=t.au.eO run (call+1+q) y OS;have Pj:(((call:Nat):Int)+1+((q:Nat):Int))=((call+1+q:Nat):Int):=by lia
     have OV:∀b u,hide A.own H b=some u->C b=some u:=λb u e=>b7 _ _ _ _ (J.but.hide _ _ e);show bh 9 (W1.int (((call:Nat):Int)+1+((q:Nat):Int))) _ _ _;rw[Pj];have Pl:dW ((N.runs.getD run ([],[])).1.map Rs) ((call+1+q:Nat):Int)=some (Rs (N.stop run (call+1+q))):=tw OS;have O4:dW ((N.runs.getD run ([],[])).2.map W1.int) ((call+1+q:Nat):Int)=some (W1.int (N.comes run (call+1+q))):=jC (by rw[t.au.comes run y];exact OS);refine B rfl (B rfl (Db sa _ _ _ O O (TD.of (OV _ _ Pz)) Pl ?_));have Pk:dW (j.ab.map W1.int) ((N.stop run (call+1+q):Nat):Int)=some (W1.int (j.ab.getD (N.stop run (call+1+q)) 0)):=jC (by rw[J.ok.ab];exact OT);refine B rfl (B rfl (Db OP _ _ _ O O (TD.of (OV _ _ O6)) O4 (B rfl (B rfl (Db A.a3 _ _ _ O O (TD.of J.at_.ab) Pk (IN _ _ O O (B rfl ?_)))))));by_cases c3:N.comes run (call+1+q)<j.ab.getD (N.stop run (call+1+q)) 0
     ·rw[sK c3];refine wn ?_;have O2:=J.at_.Mo (j.ab.set (N.stop run (call+1+q)) (N.comes run (call+1+q)));rw[k8]at O2;refine B rfl (B rfl (Db OP _ _ _ O O (TD.of (OV _ _ O6)) O4 (B rfl (B rfl (Db A.a3 _ _ (N.stop run (call+1+q)) O O J.at_.ab (mQ (by rw[FM,J.ok.ab];exact OT)) ?_)))));have Pf:d≠A.a3:=λe=>D (by rw[e];simp[SA.own]);have O_:=gT p.nd 7 3 rfl;have Pq:(dk j.ai).length<Gc:=by
       have:=Ja N.n _ J.ok.nd J.ok.ai;have:=t.au.small.1;unfold dk;rw[FM];exact Br (by lia)
      refine B rfl (B rfl (IN d _ O (f7.k (k:=ii ((N.stop run (call+1+q):Nat):Int)) ((UF Pf).trans J.tW) Pq) ?_));rw[F7];have O3:Ch A.own H (Uf C A.a3 (.lst ((j.ab.map W1.int).set (N.stop run (call+1+q)) (W1.int (N.comes run (call+1+q)))))):=J.but.put (by simp[SA.own]);have O7:=λo'=>ug (o:=o') hd O3;have e:cP N run j (call+1+q)= {j with ab:=j.ab.set (N.stop run (call+1+q)) (N.comes run (call+1+q)),ai:=if N.stop run (call+1+q)∈j.ai then j.ai else j.ai++[N.stop run (call+1+q)]}:=by
       unfold cP;rw[No c3]
      refine im _ _ O ?_;rw[Pb];have Pc:=J.ok.step (run:=run) (cu:=call+1+q) OT;rw[e]at Pc⊢;exact⟨O2.oW D (p.au.same (O7 _)) ((UF O_).trans J.es) (aj (λ_ _ z=>z.same (O7 _)) OM),(UF OQ).trans ((UF O_).trans J.es),KE,λb u z Po=>by rw[UF (v0 z hd)];exact O3 b u z Po,Pc⟩
     ·rw[sn c3];refine v6 ?_;refine im _ _ O ?_;rw[Pb];have e:cP N run j (call+1+q)=j:=by unfold cP;rw[Ps c3]
      rw[e];exact J
    ·rintro ZB C ⟨PL,PK,rfl,J⟩;refine fc _ _ _ _ _ _ _ _ ⟨O,?_⟩;rw[Pa];have e:er N o (g,run,call)=(kE (call+1) (m-call)).foldl (cP N run) {o with aa:=o.aa.set run call}:=by
      unfold er;rw[No Pe,Y]
     rw[e,<-en];exact J
  ·rw[sn (show ¬((call:Nat):Int)<((m:Nat):Int) by lia)];refine v6 ?_;refine fc _ _ _ _ _ _ _ _ ⟨O,?_⟩;rw[Pa];have e:er N o (g,run,call)=o:=by unfold er;rw[Ps (by rw[Y];exact c)]
   rw[e];exact XV
 ·rintro ZB H2 ⟨OW,OX,OY,OZ,O0,O1,U,L,rfl,XV⟩;rw[Pp,dy]at XV;exact B rfl (k H2 d hd XV.tW XV.at_ XV.but))
end Dv
namespace L2
open PySem
theorem zk{g:TG}{tb:TS}{D:Ends}(Pv:Nat->St->Hp->Prop) (h0:Pv 0 ZB H) (l:∀i ZB H,i<=T0.length->Pv i ZB H->H d=some (.aw o (.dK T0)))
  (n:∀i k v ZB H,T0[i]?=some (k,v)->Pv i ZB H->g (kV k) ZB H λb H2=>tb {D with nx:=Pv (i+1),ct:=Pv (i+1),bk:=D.nx} b H2) (hd:∀ZB H,Pv T0.length ZB H->D.nx ZB H):
  ∃W:Nat->Nat->St->Hp->Prop,(∃m,W 0 m ZB H)/\∀i m ZB H,W i m ZB H->
   ((mn d o T0).stop i H/\D.nx ZB H)\/((mn d o T0).go i H/\∃N:St->Hp->Prop,(∀a I,N a I->∃f,f<m/\W (i+1) f a I)/\∀x I,(mn d o T0).eQ i H x I->g x ZB I λb H2=>tb {D with nx:=N,ct:=N,bk:=D.nx} b H2):=by(
refine Ix (λi m ZB H=>m=T0.length-i/\i<=T0.length/\Pv i ZB H) (zn T0.length (by simp) (f4 _) h0) ?_;rintro i m ZB H ⟨rfl,hi,p⟩;have q:=l i ZB H hi p;by_cases c:i<T0.length
·refine .inr ⟨⟨q,c⟩,Ix (Pv (i+1)) (λa I r=>⟨T0.length-(i+1),by lia,O,c,r⟩) (λx I y=>?_)⟩;obtain⟨e,k,v,h,j⟩:=y;subst e j;exact n i k v ZB _ h p
·have e:i=T0.length:=by lia
 subst e;exact .inl ⟨⟨q,tz _⟩,hd ZB H p⟩)
end L2
namespace Dv
open PySem L2 Tw
variable {P:fr}{w:kw}{K:wf}{mg:Str->Option Tk}{base:s2}{CP CN CS CL CG:WF}
section
variable {N:Nt}{S:SS}
theorem yl(h:pp N S) (a:stop<N.n) (Is ready:Int):(Tw.av N S stop Is ready).ae.length+(Tw.av N S stop Is ready).ah.sum=S.ae.length+S.ah.sum:=by(
have h':=h.az stop Is;have e:(az S stop Is).ae=S.ae/\(az S stop Is).ah=S.ah:=by unfold az;split<;>exact⟨O,O⟩
unfold Tw.av e1;split
·have h1:=tJ (d:=N.af.getD stop []) (ready:=ready) ((az S stop Is).ah.getD stop 0) (az S stop Is).ae;have h2:=sum_set (az S stop Is).ah stop (aR (N.af.getD stop []) ready ((az S stop Is).ah.getD stop 0) (az S stop Is).ae).1 (by rw[h'.ah];exact a);show(aR (N.af.getD stop []) ready ((az S stop Is).ah.getD stop 0) (az S stop Is).ae).2.length+((az S stop Is).ah.set stop (aR (N.af.getD stop []) ready ((az S stop Is).ah.getD stop 0) (az S stop Is).ae).1).sum=_;rw[<- e.1,<-e.2];lia
·rw[e.1,e.2])
theorem B7:∀(W:List (Nat×Int)) {S:SS},pp N S->(∀g m,(g,m)∈W->g<N.n)->(W.foldl (λS w=>Tw.av N S w.1 (Is+w.2) (Is+w.2)) S).ae.length+(W.foldl (λS w=>Tw.av N S w.1 (Is+w.2) (Is+w.2)) S).ah.sum=S.ae.length+S.ah.sum
 |[],S,h,_=>rfl
 |(g,m)::W,S,h,hw=>by
  rw[dS];have hg:=hw g m (kt ..);rw[B7 W (h.av hg _ _) λg' a q=>hw g' a (o0 _ q)];exact yl h hg _ _
theorem pp.ba(h:pp N S) (a:stop<N.n):pp N (Tw.ba N S stop):=(h.av a _ _).bI a _
theorem Kc(h:pp N S) (a:stop<N.n):(Tw.ba N S stop).ae.length+(Tw.ba N S stop).ah.sum=S.ae.length+S.ah.sum:=
 (B7 _ (h.av a _ _) λg m q=>h.au.kX stop g m a q).trans (yl h a _ _)
theorem uK:∀(U:List Nat) {S:SS},pp N S->(∀u,u∈U->u<N.n)->pp N (U.foldl (Tw.ba N) S)/\(U.foldl (Tw.ba N) S).ae.length+(U.foldl (Tw.ba N) S).ah.sum=S.ae.length+S.ah.sum
 |[],S,h,_=>⟨h,O⟩
 |u::U,S,h,hu=>by
  rw[dS];have hg:=hu u (kt ..);obtain⟨h1,h2⟩:=uK U (h.ba hg) λv q=>hu v (o0 _ q);exact⟨h1,h2.trans (Kc h hg)⟩
noncomputable def jX (N:Nt) (S:SS):SS:= {S with taken:=S.taken+1,aa:=(bF N S).aa,ab:=(bF N S).ab,ae:=[]}
theorem Ar (h:pp N S):pp N (jX N S):=by
 have o:=ud h;exact {au:=h.au,iK:=λe q=>by simp[jX]at q,dD:=o.dD,arr:=h.arr,rides:=h.rides,ab:=o.ab,ready:=h.ready,ah:=h.ah,aa:=o.aa,bH:=h.bH,dC:=by have:=h.dC;show 0+S.ah.sum<=_;lia}
theorem vS (h:pp N S):pp N (cA N S)/\(cA N S).ae.length+(cA N S).ah.sum=S.ah.sum:=by
 obtain⟨h1,h2⟩:=uK (bF N S).ai (Ar h) (ud h).ai;exact⟨h1,h2.trans (by show 0+S.ah.sum=_;lia)⟩
end
section
variable {CS CN:WF}{H:Hp}{A:SA}{N:Nt}{S:SS}
theorem ul.I1(h:ul CS CN H A N S) (f:H p=none):ul CS CN (Uf (Uf H p (.lst [])) A.x (.ins CS A.dx (sf A.n A.a1 A.a2 A.a3 A.a4 A.a5 A.a6 p S.taken))) {A with a7:=p} N {S with ae:=[]}:=by(
have n:=gT h.nd;have d:∀i (hi:i<8),A.own[i]'hi≠p:=λi hi e=>ng h (eX (l:=A.own) (n:=i) hi) (by rw[e];exact f);have s:Tl (hide A.own H) (hide ({A with a7:=p}:SA).own (Uf (Uf H p (.lst [])) A.x (.ins CS A.dx (sf A.n A.a1 A.a2 A.a3 A.a4 A.a5 A.a6 p S.taken)))):=λb o e=>by
 obtain⟨c,j⟩:=wl.mp e;have g:b≠p:=v0 j f;have q:b≠A.x:=λz=>c (by rw[z];simp[SA.own]);refine wl.mpr ⟨λz=>?_,by rw[UF q,UF g];exact j⟩;simp only[SA.own,rs,ir,g9]at z c;rcases z with z|z|z|z|z|z|z|z
 ·exact c (.inl z)
 ·exact c (.inr (.inl z))
 ·exact c (.inr (.inr (.inl z)))
 ·exact c (.inr (.inr (.inr (.inl z))))
 ·exact c (.inr (.inr (.inr (.inr (.inl z)))))
 ·exact c (.inr (.inr (.inr (.inr (.inr (.inl z))))))
 ·exact c (.inr (.inr (.inr (.inr (.inr (.inr (.inl z)))))))
 ·exact g z
refine {ob:=KE,arr:=(UF (n 1 0 rfl)).trans ((UF (d 1 (by decide))).trans h.arr),rides:=(UF (n 2 0 rfl)).trans ((UF (d 2 (by decide))).trans h.rides),ab:=(UF (n 3 0 rfl)).trans ((UF (d 3 (by decide))).trans h.ab),ready:=(UF (n 4 0 rfl)).trans ((UF (d 4 (by decide))).trans h.ready),ah:=(UF (n 5 0 rfl)).trans ((UF (d 5 (by decide))).trans h.ah),aa:=(UF (n 6 0 rfl)).trans ((UF (d 6 (by decide))).trans h.aa),ae:=Ix ([]) ?_ (.nil),nd:=?_,au:=h.au.same s}
·exact(UF (b:=p) (a:=A.x) (Ne.symm (d 0 (by decide)))).trans KE
·have nd:=h.nd;show([A.x,A.a1,A.a2,A.a3,A.a4,A.a5,A.a6,p]:List WF).Nodup;have e:([A.x,A.a1,A.a2,A.a3,A.a4,A.a5,A.a6,A.a7]:List WF)=[A.x,A.a1,A.a2,A.a3,A.a4,A.a5,A.a6]++[A.a7]:=rfl;have m:([A.x,A.a1,A.a2,A.a3,A.a4,A.a5,A.a6]++[A.a7]:List WF).Nodup:=nd;rw[iq]at m;show([A.x,A.a1,A.a2,A.a3,A.a4,A.a5,A.a6]++[p]:List WF).Nodup;rw[iq];refine⟨m.1,by simp,λa r b k=>?_⟩;simp only[sc]at k;rw[k];intro z;have:a∈A.own:=by
  show a∈([A.x,A.a1,A.a2,A.a3,A.a4,A.a5,A.a6]++[A.a7]:List WF);exact gx _ r
 exact ng h this (by rw[z];exact f))
theorem BU(hd:H d=some u) (c:∀ys,u≠.tup ys) (h:TupAt (hide l H) v xs):TupAt (hide l (Uf H d o)) v xs:=by(
obtain⟨a,e,q⟩:=h;obtain⟨f,b⟩:=wl.mp q;have ne:a≠d:=λz=>by rw[z,hd]at b;exact c _ (b3 b)
exact Ix a e (wl.mpr ⟨f,(UF ne).trans b⟩))
theorem p0(a:b∈({A with a7:=p}:SA).own):b∈A.own\/b=p:=by(
simp only[SA.own,rs,ir,g9]at a⊢;rcases a with z|z|z|z|z|z|z|z
·exact .inl (.inl z)
·exact .inl (.inr (.inl z))
·exact .inl (.inr (.inr (.inl z)))
·exact .inl (.inr (.inr (.inr (.inl z))))
·exact .inl (.inr (.inr (.inr (.inr (.inl z)))))
·exact .inl (.inr (.inr (.inr (.inr (.inr (.inl z))))))
·exact .inl (.inr (.inr (.inr (.inr (.inr (.inr (.inl z)))))))
·exact .inr z)
end
theorem Fy{A:SA}(f:Ch A.own H d) (g:H p=none):Tl (hide A.own H) (hide ({A with a7:=p}:SA).own d):=λb u e=>by
 obtain⟨c,a⟩:=wl.mp e;refine wl.mpr ⟨λz=>?_,f b u a c⟩;rcases p0 z with q|q
 ·exact c q
 ·rw[q,g]at a;cases a
def nI (CS CN:WF):Sp:=λvs H Q _=>∃(A:SA) (N:Nt) (S:SS),vs=[.ref A.x]/\ul CS CN H A N S/\pp N S/\
 ∀(I:Hp) (p:WF),H p=none->ul CS CN I {A with a7:=p} N (cA N S)->Ch A.own H I->Q .ak I
theorem q8:pu ["self","reached","stop","minute"] zaa (s1 qX):=nb rfl rfl rfl (by decide +kernel)
theorem J7(F:sB K "take_ride" "Search.take_ride" qX f fd) (T:bg K mg CS CN)
  (Pj:AC P w K mg base xL 2 Py PD zaf (nG CS CN)) (Po:Binds K PD zaf []) (mA:cf K CS "arrive" Py)
  (Pl:AC P w K mg base xL 3 PB PH zad (rj CS CN)) (Pq:Binds K PH zad []) (PQ:cf K CS "walk_on" PB)
  (Pk:AC P w K mg base xL 1 Pz PF zaa (vx CS CN)) (Pp:Binds K PF zaa []) (PN:cf K CS "get_off" Pz):AC P w K mg base xL 4 f fd zaa (nI CS CN):=by(
refine F.ar q8 (λvs H Q E h=>?_) (λP4 PZ outer s H vs Q E OW h=>?_)
·refine pS h λA N S PX _=>?_;subst PX;rfl
·intro P2;refine lb h λA N S PY y OU k=>?_;subst PY;refine B (On (K5 (V 0) EQ Hm)
  (On (zS 1 q8 (lp (V 0) T.aq PN Pk (OW.mono) Pp .nil ws))
  (On (bq (V 0) (db PP) rfl)
  (Fa (uX (cH bN rfl (AF (V 1)) (zG 2 q8)
   (On (zS 3 q8 (xz wE (wS (V 0) rfl) (V 2)))
   (On (ca (aA (V 0) T.aq mA Pj (OW.mono) Po .nil ws (UV (V 2) (UV (V 3) (UV (jp bG (V 3) (xz wE (wS (wS (V 0) rfl) rfl) (V 2))) PP)))))
   (Fa (ca (aA (V 0) T.aq PQ Pl OW Pq .nil ws (UV (V 2) (UV (V 3) PP))))))))))))) ?_
 refine B rfl (wv A.x CS A.dx _ _ O y.ob T.aq T.nA O (IN _ _ O O (IN _ _ y.ob (by show 9<1000;decide) ?_)));have O8:=y.Mq (S.taken+1);have Pt:rc ("taken":Str) (W1.int ((S.taken:Int)+1)) (sf A.n A.a1 A.a2 A.a3 A.a4 A.a5 A.a6 A.a7 S.taken)=sf A.n A.a1 A.a2 A.a3 A.a4 A.a5 A.a6 A.a7 (S.taken+1):=rfl;rw[Pt];have PJ:pp N {S with taken:=S.taken+1}:= {OU with};have Px:bF N {S with taken:=S.taken+1}=bF N S:=rfl;refine B rfl (nw A.x A.dx _ O O8.ob O (nw A N _ O O8 PJ (λH2 d OM OV C O5=>?_)));rw[Px]at OV C;have hd:H d=none:=by
  have dx:d≠A.x:=λz=>by rw[z,KE]at OM;cases OM
  rw[UF dx]at OM;exact OM
 have O4:d∉A.own:=λq=>ng y q hd;refine⟨f4 _,λp m=>?_⟩;have pd:p≠d:=λz=>by rw[z,OV]at m;cases m
 have Ph:A.x≠p:=λz=>by rw[<- z,C.ob]at m;cases m
 refine B rfl (bi A.x CS A.dx _ O ((UF Ph).trans C.ob) T.aq T.lB (by show 9<1000;decide) ?_);have D:=C.I1 m;have Pu:rc ("boardings":Str) (W1.ref p) (sf A.n A.a1 A.a2 A.a3 A.a4 A.a5 A.a6 A.a7 (S.taken+1))=sf A.n A.a1 A.a2 A.a3 A.a4 A.a5 A.a6 p (S.taken+1):=rfl;rw[show rc _ (W1.ref p) (sf A.n A.a1 A.a2 A.a3 A.a4 A.a5 A.a6 A.a7 (S.taken+1))=sf A.n A.a1 A.a2 A.a3 A.a4 A.a5 A.a6 p (S.taken+1) from Pu];generalize t:({A with a7:=p}:SA)=g at D;generalize OT:Uf (Uf H2 p (.lst [])) A.x (.ins CS A.dx (sf A.n A.a1 A.a2 A.a3 A.a4 A.a5 A.a6 p (S.taken+1)))=OS;have D:ul CS CN OS g N (jX N S):=by rw[<- OT];exact D
 have OR:g.x=A.x:=by rw[<- t]
 have n1:g.n=A.n:=by rw[<- t]
 have OO:H p=none:=by
  cases q:H p with
  |none=>rfl
  |some o=>
   have PR:p∉A.own:=λz=>ng C z m;have PU:p≠A.x:=Ne.symm Ph;have:=O5 p o (by rw[UF PU];exact q) PR;rw[m]at this;cases this
 have dx:d≠A.x:=λz=>O4 (by rw[z];simp[SA.own]);have U:d∉g.own:=λz=>by
  rw[<- t]at z;rcases p0 z with q|q
  ·exact O4 q
  ·exact pd q.symm
 have O2:Ch A.own H OS:=λb u e l=>by
  have O3:b≠A.x:=λz=>l (by rw[z];simp[SA.own]);rw[<- OT,UF O3,UF (v0 e OO)];exact O5 b u (by rw[UF O3];exact e) l
 have O_:OS d=some (.dK (dk (bF N S).ai)):=by rw[<- OT,UF dx,UF (Ne.symm pd)];exact OV
 have Pg:∀b,b∈g.own->b∈A.own\/H b=none:=λb l=>by
  rw[<- t]at l;rcases p0 l with q|q
  ·exact .inl q
  ·exact .inr (by rw[q];exact OO)
 have Pb:∀a,Ch A.own H a->f2 CN (hide g.own a) g.n N:=λa l=>by
  rw[n1,<-t];exact y.au.same (Fy l OO)
 have OQ:∀ {a:Hp}{o:HO},Ch A.own H a->Ch A.own H (Uf a d o):=λ{a o} l b u e PL=>by rw[UF (v0 e hd)];exact l b u e PL
 refine IN d _ O_ True.intro (λPe=>?_);refine B rfl (im d Pe O (.inl (B KE ?_)));have Pf:=ud OU;have e8:(dk (bF N S).ai).length=(bF N S).ai.length:=by unfold dk;rw[FM]
 let Pm:Nat->St->Hp->Prop:=λi ZB a=>∃OZ O0,ZB=[some (.ref A.x),some (.ref d),OZ,O0]/\ul CS CN a g N (((bF N S).ai.take i).foldl (ba N) (jX N S))/\a d=some (.aw Pe (.dK (dk (bF N S).ai)))/\Ch A.own H a
 refine zk Pm
  (g2 none none O ?_ KE (OQ O2)) (λi ZB a _ PV=>by obtain⟨_,_,_,_,q,_⟩:=PV;exact q) ?_ ?_
 ·obtain⟨es,OX,OY⟩:=D.ae;exact D.oW U (Pb _ (OQ O2)) OX (aj (λ_ _ z=>BU O_ (λys O1=>by cases O1) z) OY)
 ·rintro i PM v ZB a hi ⟨OZ,O0,rfl,j,ON,L⟩;obtain⟨st,Pa,Pw⟩:∃st,(bF N S).ai[i]?=some st/\PM=ii ((st:Nat):Int):=by
   unfold dk at hi;rw[pr]at hi;cases q:(bF N S).ai[i]? with
   |none=>rw[q]at hi;cases hi
   |some st=>rw[q]at hi;cases hi;exact Ix st O O
  subst Pw;have J:st<N.n:=Pf.ai st (pi Pa);obtain⟨Y,_⟩:=uK ((bF N S).ai.take i) (Ar OU) λu q=>Pf.ai u (oz q);have Pc:((bF N S).ai.take (i+1)).foldl (ba N) (jX N S)=ba N (((bF N S).ai.take i).foldl (ba N) (jX N S)) st:=by
   rw[cB,Pa,cK,oF];rfl
  generalize ((bF N S).ai.take i).foldl (ba N) (jX N S)=Pn at j Y Pc;have OP:=j.ob;rw[OR]at OP;refine et j.au.ex λPr c r og P5 P6 Qg Qe ds fs h1 h2 P8 P9 P_ Qa Qb Qc Qd P7=>?_;have sub:=b7 g.own a;refine B rfl (wv A.x CS _ _ _ O OP T.aq T.qR O (B rfl (Db g.a3 _ _ _ O O (TD.of j.ab) (jC (by rw[Y.ab];exact J)) ?_)));refine B rfl (nw A.x _ _ O OP O (B rfl (B rfl (B rfl (B rfl (wv A.x CS _ _ _ O OP T.aq T.lC O (wv g.n CN Pr _ _ O (sub _ _ h1) T.aS T.pH O (B rfl (Db c _ _ _ O O (TD.of (sub _ _ h2)) (jC J) (IN _ _ O O (i3 g N Pn st _ _ ⟨by rw[OR];rfl,j,Y,J,λP0 O9 O6=>?_⟩)))))))))));have Pd:=O9.ob;rw[OR]at Pd;refine B rfl (nw A.x _ _ O Pd O (B rfl (B rfl (b0 g N _ st _ ⟨by rw[OR];rfl,O9,Y.av J _ _,J,λP1 PK O7=>?_⟩))));exact g2 _ _ O (by rw[Pc];exact PK) (O7 d _ (O6 d _ ON U) U) ((L.tr O6 Pg).tr O7 Pg)
 ·rintro ZB a ⟨OZ,O0,rfl,j,ON,L⟩;refine⟨ON,?_⟩;rw[e8,dy]at j;refine k _ p OO ?_ (OQ L);rw[t];obtain⟨es,OX,OY⟩:=j.ae;exact j.oW U (Pb _ (OQ L)) OX (aj (λ_ _ z=>BU ON (λys O1=>by cases O1) z) OY))
noncomputable def aN (N:Nt) (S:SS):Nat->SS
 |0=>S
 |k+1=>cA N (aN N S k)
noncomputable def pq (S:SS):Nat:=S.ah.sum+(if S.ae=[]then 0 else 1)
theorem fJ(h:pp N S):∀k,pp N (aN N S k)
 |0=>h
 |k+1=>(vS (fJ h k)).1
def ri (CS CN:WF):Sp:=λvs H Q _=>∃(A:SA) (N:Nt) (S:SS),vs=[.ref A.x]/\ul CS CN H A N S/\pp N S/\
 ∀(I:Hp) (Wp:SA) (k:Nat),Wp.x=A.x->Wp.n=A.n->(∀b,b∈Wp.own->b∈A.own\/H b=none)->ul CS CN I Wp N (aN N S k)->(aN N S k).ae=[]->Ch A.own H I->Q .ak I
theorem Mh:pu zaa zaa (s1 qZ):=nb rfl rfl rfl (by decide +kernel)
theorem J9(F:sB K "ride_to_the_end" "Search.ride_to_the_end" qZ f fd) (T:bg K mg CS CN)
  (GT:AC P w K mg base xL 4 D J zaa (nI CS CN)) (t:Binds K J zaa []) (OQ:cf K CS "take_ride" D):AC P w K mg base xL 5 f fd zaa (ri CS CN):=by(
refine F.ar Mh (λvs H Q E h=>?_) (λOX OU outer s H vs Q E OO h=>?_)
·refine pS h λA N S OR _=>?_;subst OR;rfl
·intro OW;refine lb h λA N S OS Y U k=>?_;subst OS;refine B (Fa (lu bN (ga m' (a0 b6 (by rfl) T.len b1 (UV (wS (V 0) rfl) PP)) EQ (li _))
  (Fa (ca (lp (V 0) T.aq OQ GT OO t .nil ws))))) ?_
 let r:Nat->St->Hp->Prop:=λm ZB H2=>∃(Wp:SA) (j:Nat),ZB=[some (.ref A.x)]/\(Wp.x=A.x/\Wp.n=A.n)/\ul CS CN H2 Wp N (aN N S j)/\Ch A.own H H2/\(∀b,b∈Wp.own->b∈A.own\/H b=none)/\m=pq (aN N S j)
 refine⟨r,(b_ _ A 0 ⟨O,⟨O,O⟩,Y,Ch.rfl' _ _,λb e=>.inl e,O⟩),?_⟩;rintro m ZB H2 ⟨Wp,j,rfl,⟨d,l⟩,a,hB,own,rfl⟩;have g:=fJ U j;obtain⟨es,y,C⟩:=a.ae;have i:es.length=(aN N S j).ae.length:=Paired.length C;have ob:=a.ob;rw[d]at ob;refine B rfl (wv A.x CS _ _ _ O ob T.aq T.lB O (IN Wp.a7 es O (.inl (TD.of y)) (IN _ _ O O (B rfl ?_))));by_cases c:0<es.length
 ·rw[sK (show(0:Int)<(es.length:Int) by lia)];have u:(aN N S j).ae≠[]:=λz=>by rw[z]at i;rw[i]at c;exact absurd c (hh _)
  refine wn ⟨λOT I=>∃OP,OP<pq (aN N S j)/\_,λOT I q=>q,?_⟩;refine B rfl (nw A.x _ _ O ob O (nw Wp N _ (by rw[d];rfl) a g (λOV p ON OM L=>?_)));obtain⟨OY,hf⟩:=vS g;refine Ix (pq (cA N (aN N S j))) ?_ ⟨{Wp with a7:=p},j+1,O,⟨d,l⟩,OM,hB.tr L own,λb e=>?_,O⟩
  ·unfold pq;rw[Ps u];split
   ·lia
   ·rename_i z;have:0<(cA N (aN N S j)).ae.length:=List.length_pos_iff.mpr z;lia
  ·rcases p0 e with z|z
   ·exact own b z
   ·subst z;cases q:H b with
    |none=>exact .inr rfl
    |some o=>
     by_cases hm:b∈A.own
     ·exact .inl hm
     ·have:=hB b o q hm;rw[ON]at this;cases this
 ·rw[sn (show ¬(0:Int)<(es.length:Int) by lia)];refine v6 ?_;refine k H2 Wp j d l own a ?_ hB;exact Cm.mp (by lia))
end Dv
namespace L2
open PySem
theorem pj{g:TG}{te:TE}{k:Hp->Prop}(f:W1->W1) (l:H1 D=none) (o:TD K H1 a xs) (hz:xs.length<=Gc)
  (step:∀x,x∈xs->∀(H:Hp) (Q:VK),Tl H1 H->Q (f x) H->g x (nm ZB vs) H λc H2=>nm c vs=nm ZB vs/\te c H2 Q) (post:k (Uf H1 D (.lst (xs.map f)))):
  ∃W:Nat->Nat->Hp->Prop,(∃m,W 0 m (Uf H1 D (.lst [])))/\∀i m H,W i m H->
   ((cO K a).stop i H/\k H)\/((cO K a).go i H/\∃d:Hp->Prop,(∀I,d I->∃n,n<m/\W (i+1) n I)/\∀x I,(cO K a).eQ i H x I->g x (nm ZB vs) I λc H2=>nm c vs=nm ZB vs/\iZ c H2 λb h=>
    if b=true then te c h λy j=>∃acc,j D=some (.lst acc)/\acc.length<Gc/\d (Uf j D (.lst (acc++[y])))else d h):=by(
refine mT (xs:=xs) (λi H=>H=Uf H1 D (.lst ((xs.take i).map f))) (by simp) (λi H _ (e:H=_)=>by rw[e];exact o.same (Tl.new l)) ?_ (λH (e:H=_)=>by rw[e,dy];exact post);rintro i x H hi rfl;have p:i<xs.length:=(aD.mp hi).1;refine step x (pi hi) _ _ (Tl.new l) (zn _ KE (by rw[FM,aP];lia) ?_);rw[gZ]
congr 2
rw[cB,hi,cK,bL,List.map_singleton])
end L2
namespace Dv
open PySem L2 Tw
variable {P:fr}{w:kw}{K:wf}{mg:Str->Option Tk}{base:s2}{CP CN CS CL CG:WF}
def uY (K:wf):List W1->Hp->VK->Prop:=λxs H Q=>∃p ys,xs=[.ref p]/\(TD K H p ys\/pm K H p ys)/\Q (.int ys.length) H
theorem yK:hs X (.builtin "len") (uY X.K):=b6
def a_ (mg:Str->Option Tk) (x:Str) (i:Int):Prop:=∃t,mg x=some (.int i t)
theorem nl {X:Cx}{x:Str}{i:Int}{pos:Pos}(h:a_ X.mg x i) (hg:Gl X x) (hd:(x==("__debug__":Str))=false:=by decide):PE X (.Name x pos) (tC (.int i)):=by
 obtain⟨t,e⟩:=h;exact KN hg e ⟨t,O⟩ hd
theorem o_(h0:ZB[0]?=some (some (.ref x))) (g:ZB[j]?=some (some (Rs n))) (b:H x=some (.ins C dx fs)) (h:n<=1000) (cl:cE K C) (l:ao K C fl) (hf:fs.length<1000)
  (k:∀(I:Hp) (q:WF),Ch [x] H I->H q=none->I q=some (.lst (f8 n c))->I x=some (.ins C dx (rc fl (.ref q) fs))->D.nx ZB I):
  Bc K (bZ 0) (h4 AN (vN (rr (tC c) j_)) (bZ j)) fl D ZB H:=by(
refine⟨by show 1<=Gc;decide,λp d=>B g (b_ p _ ([c]) ⟨O,O,KE,by lia,by lia,?_,λq a=>?_⟩)⟩
·have:(n:Int).toNat=n:=by lia
 rw[this];show 1*n<=Gc;have:=Br h;lia
·have s:x≠p:=v0 b d;have r:q≠p:=λz=>by rw[z,KE]at a;cases a
 have e:H q=none:=by rw[UF r]at a;exact a
 have f:x≠q:=v0 b e;refine B h0 (bi x C dx fs O ((UF f).trans ((UF s).trans b)) cl l hf ?_);refine k _ q ((((Ch.rfl' _ _).new d).new (o:=.lst _) a).put (by simp)) e ?_ KE;rw[UF (Ne.symm f),KE];have:(n:Int).toNat=n:=by lia
 rw[this]
 congr 2
 have:∀m:Nat,(f8 m [c]).flatten=f8 m c:=λm=>by
  induction m with
  |zero=>rfl
  |succ m i=>rw[jk,kA,i,jk];rfl
 exact this n)
theorem gJ{D:Ends}(h0:ZB[0]?=some (some (.ref x))) (c:H x=some (.ins C dx fs)) (b:H q=none) (cl:cE K C) (e:ao K C fl) (hf:fs.length<1000)
  (k:∀(I:Hp),Ch [x] H I->I q=some (.lst l)->I x=some (.ins C dx (rc fl (.ref q) fs))->D.nx ZB I):
  bZ 0 ZB (Uf H q (.lst l)) λf H2=>∃a C dx fs,f=.ref a/\H2 a=some (.ins C dx fs)/\cE K C/\ao K C fl/\fs.length<1000/\D.nx ZB (Uf H2 a (.ins C dx (rc fl (.ref q) fs))):=by
 have d:x≠q:=v0 c b;refine B h0 (bi x C dx fs O ((UF d).trans c) cl e hf (k _ (((Ch.rfl' _ _).new b).put (by simp)) ?_ KE));rw[UF (Ne.symm d),KE]
def iY (CS CN:WF):Sp:=λvs H Q _=>∃(x dx n:WF) (N:Nt),vs=[.ref x,.ref n]/\H x=some (.ins CS dx [])/\f2 CN (hide [x] H) n N/\dd N/\
 ∀(I:Hp) (A:SA),A.x=x->A.n=n->ul CS CN I A N (f1 N)->Ch [x] H I->(∀b,b∈A.own->b=x\/H b=none)->Q .ak I
theorem j7:pu ["self","network","stop_count","departures","stops","comes"] zae (s1 qU):=nb rfl rfl rfl (by decide +kernel)
theorem fw(h:dd N):pp N (f1 N):=by(
refine {au:=h,iK:=λe q=>by simp[f1]at q,dD:=λr a=>?_,arr:=by simp[f1],rides:=by simp[f1],ab:=by simp[f1],ready:=by simp[f1],ah:=by simp[f1,h.af],aa:=by simp[f1],bH:=λs b=>?_,dC:=?_}
·have e:(f1 N).aa.getD r 0=N.len r-1:=by
  show(N.runs.map λr=>r.1.length-1).getD r 0=_;simp only[np,pr,Nt.len];rw[g1 a];rfl
 rw[e];have:=h.pos r a;lia
·show(N.af.map cC).getD s 0<=_;simp only[np,pr];rw[g1 (by rw[h.af];exact b)];exact tz _
·have:=h.small.2.1;show 0+(N.af.map cC).sum<=_;lia)
theorem nh{ys:List b}(p:Paired R xs ys) (h:x∈xs):∃y,y∈ys/\R x y:=by(
induction p with
|nil=>cases h
|cons r t a=>
 cases h with
 |head=>exact B (kt ..) r
 |tail _ h=>obtain⟨y,h1,h2⟩:=a h;exact Ix y (o0 _ h1) h2)
theorem KG{a:Type}{f:c->a}{g:d->a}(h:∀x y,R x y->f x=g y) (p:Paired R xs ys):xs.map f=ys.map g:=by(
induction p with
|nil=>rfl
|cons r t b=>rw[m0,m0,h _ _ r,b])
structure eh (x:WF) (H I:Hp) (l:List WF):Prop where
 but:Ch [x] H I
 nd:l.Nodup
 there:∀b,b∈l->I b≠none
 fresh:∀b,b∈l->b=x\/H b=none
theorem eh.start(h:H x≠none):eh x H H [x]:=⟨Ch.rfl' _ _,by simp,λb a=>by simp at a;rw[a];exact h,λb a=>.inl (by simpa using a)⟩
theorem eh.put(h:eh x H H1 l) (o:HO):eh x H (Uf H1 x o) l:=⟨h.but.put (by simp),h.nd,λb a=>by
 by_cases e:b=x
 ·rw[e,KE];simp
 ·rw[UF e];exact h.there b a,h.fresh⟩
theorem eh.free(h:eh x H H1 l) (b:H1 x≠none) (a:H1 q=none):H q=none:=by(
cases e:H q with
|none=>rfl
|some o=>
 have ne:q≠x:=λz=>b (by rw[<- z];exact a);rw[h.but q o e (by simpa using ne)]at a;cases a)
theorem eh.step(h:eh x H H1 l) (d:Ch [x] H1 H2) (j:H1 x≠none) (k:H2 x≠none) (f:H1 q=none) (i:H2 q≠none):eh x H H2 (l++[q]):=by(
refine⟨h.but.tr d λb c=>.inl c,?_,λb c=>?_,λb c=>?_⟩
·rw[iq];refine⟨h.nd,by simp,λa g b c=>?_⟩;simp only[sc]at c;rw[c];intro z;exact h.there a g (by rw[z];exact f)
·rcases cs.mp c with c|c
 ·by_cases e:b=x
  ·rw[e];exact k
  ·cases z:H1 b with
   |none=>exact absurd z (h.there b c)
   |some o=>rw[d b o z (by simpa using e)];simp
 ·simp only[sc]at c;rw[c];exact i
·rcases cs.mp c with c|c
 ·exact h.fresh b c
 ·simp only[sc]at c;rw[c];exact .inr (h.free j f))
theorem eh.hide {x:WF}{H I:Hp}{l:List WF}(h:eh x H I l):Tl (hide [x] H) (L2.hide l I):=λb o e=>by
 obtain⟨c,a⟩:=wl.mp e;refine wl.mpr ⟨λz=>?_,h.but b o a c⟩;rcases h.fresh b z with q|q
 ·exact c (by simp[q])
 ·rw[q]at a;cases a
theorem lc{H:Hp}(h:H a=some o):H a≠none:=by rw[h];simp
noncomputable def jP (H:Hp) (v:W1):W1:=match v with
 |.ref a=>match H a with
  |some (.lst es)=>Rs es.length
  |_=>.ak
 |_=>.ak
noncomputable def lA (H:Hp) (v:W1):W1:=match v with
 |.ref a=>match H a with
  |some (.tup (.ref s::_))=>match H s with
   |some (.lst es)=>.int ((es.length:Int)-1)
   |_=>.ak
  |_=>.ak
 |_=>.ak
theorem J4(F:sB K "__init__" "Search.__init__" qU f fd) (T:bg K mg CS CN) (OZ:a_ mg "NEVER" 1000000):AC P w K mg base xL 1 f fd zae (iY CS CN):=by(
refine F.ar j7 (λvs H Q E h=>?_) (λQk Qe outer s H vs Q E Qr h=>?_)
·refine j0 h λx dx n N Qb _=>?_;subst Qb;rfl
·intro Qj;refine gQ h λx dx n N Qc Po Pl OO k=>?_;subst Qc;refine et Pl.ex λO0 c r og d Ql O_ Qs ds fs h1 h2 Pj O7 Pk O8 Qn Qo Qp Qm=>?_;have sub:=b7 [x] H;refine B (On (zS 2 j7 (a0 b6 (by rfl) T.len b1 (UV (wS (V 1) rfl) PP)))
  (On (bq (V 0) (V 1) rfl)
  (On (bq (V 0) EQ rfl)
  (On (bq (V 0) (jp pP (db (UV (nl OZ rfl) PP)) (V 2)) rfl)
  (On (bq (V 0) (jp pP (db (UV EQ PP)) (V 2)) rfl)
  (On (bq (V 0) (jp pP (db (UV (nl OZ rfl) PP)) (V 2)) rfl)
  (On (bq (V 0) (jp pP (db (UV (nl OZ rfl) PP)) (V 2)) rfl)
  (On (bq (V 0) (iV (own:=[("departures",3)]) rfl j7.nd (cy (wS (V 1) rfl)) (fx rfl) (λ_ _ _ _ _=>zG 3 j7) (λ_ _ _ _ _=>gn) (λ_ _ _ _ _=>a0 (r:=uY K) yK (by rfl) T.len b1 (UV (V 3) PP))) rfl)
  (On (bq (V 0) (iV (own:=[("stops",4),("comes",5)]) (g:=uc K 2 (k1 (bh 4) (k1 (bh 5) ua))) rfl j7.nd (cy (wS (V 1) rfl)) (fx rfl) (λ_ _ _ _ _=>cw rfl (re (zG 4 j7) (re (zG 5 j7) cx))) (λ_ _ _ _ _=>gn) (λ_ _ _ _ _=>jp gP (a0 (r:=uY K) yK (by rfl) T.len b1 (UV (V 4) PP)) EQ)) rfl)
  (Fa (bq (V 0) (db PP) rfl))))))))))) ?_
 refine B rfl (wv n CN O0 _ _ O (sub _ _ h1) T.aS T.pH O (IN c _ O (.inl (TD.of (sub _ _ h2))) ?_));have en:((N.chg.map W1.int).length:Int)=((N.n:Nat):Int):=by rw[FM];rfl
 rw[en];have OP:N.n<=1000:=OO.small.1;refine B rfl (B rfl (bi x CS dx ([]) O Po T.aq T.lC (by decide) ?_));refine B rfl (bi x CS dx _ O KE T.aq T.nA (by show 1<1000;decide) ?_);have Px:=((eh.start (lc Po)).put (.ins CS dx (rc "network" (.ref n) []))).put (.ins CS dx (rc "taken" (.int 0) (rc "network" (.ref n) [])));have x0:(Uf (Uf H x (.ins CS dx (rc "network" (.ref n) []))) x (.ins CS dx (rc "taken" (.int 0) (rc "network" (.ref n) [])))) x=some _:=KE;refine o_ rfl rfl KE OP T.aq T.dJ (by show 2<1000;decide) λH1 P2 PK n1 O1 OS=>?_;have Py:=Px.step PK (lc x0) (lc OS) n1 (lc O1);refine o_ rfl rfl OS OP T.aq T.nz (by show 3<1000;decide) λH2 P4 Pf n2 O2 OT=>?_;have Pz:=Py.step Pf (lc OS) (lc OT) n2 (lc O2);refine o_ rfl rfl OT OP T.aq T.qR (by show 4<1000;decide) λQg P5 OY n3 O3 OU=>?_;have PB:=Pz.step OY (lc OT) (lc OU) n3 (lc O3);refine o_ rfl rfl OU OP T.aq T.qQ (by show 5<1000;decide) λOM P6 ON n4 O4 OV=>?_;have Pc:=PB.step ON (lc OU) (lc OV) n4 (lc O4);have U:∀b o,hide [x] H b=some o->OM b=some o:=λb o e=>by obtain⟨Pa,Pb⟩:=wl.mp e;exact Pc.but b o Pb Pa
 refine B rfl (wv n CN O0 _ _ O (U _ _ h1) T.aS T.hM O (zn d O ⟨ds,TD.of (U _ _ Pk)⟩ (λP7 n5=>?_)));have PX:ds.length=N.af.length:=Paired.length O8;have sz:∀ {m:Nat},m<=1000000->m<=Gc:=λh=>ed (small h);refine pj (jP OM) n5 (TD.of (U _ _ Pk)) (sz (by rw[PX,OO.af];lia)) (λv hv u Qh P_ Pp=>?_) ?_
 ·obtain⟨y,_,es,⟨a,rfl,l⟩,_⟩:=nh O8 hv;have Pm:=U _ _ l;refine⟨O,B rfl (IN a es O (.inl (TD.of (P_ _ _ Pm))) ?_)⟩;have:jP OM (.ref a)=Rs es.length:=by simp[jP,Pm]
  rw[this]at Pp;exact Pp
 have PN:ds.map (jP OM)=(N.af.map cC).map Rs:=by
  rw[ax];refine KG (λv y Qa=>?_) O8;obtain⟨es,⟨a,e,l⟩,P0⟩:=Qa;subst e;simp only[jP,U _ _ l,x1];rw[Paired.length P0]
 rw[PN];refine gJ rfl OV n5 T.aq T.ve (by show 6<1000;decide) λu J O5 OW=>?_;have Pd:=Pc.step J (lc OV) (lc OW) n5 (lc O5);have j:∀b o,hide [x] H b=some o->u b=some o:=λb o e=>by obtain⟨Pa,Pb⟩:=wl.mp e;exact Pd.but b o Pb Pa
 refine B rfl (wv n CN O0 _ _ O (j _ _ h1) T.aS T.iS O (zn r O ⟨O_,TD.of (j _ _ Pj)⟩ (λP8 n6=>?_)));have PY:O_.length=N.runs.length:=Paired.length O7;refine pj (lA u) n6 (TD.of (j _ _ Pj)) (sz (by rw[PY];exact OO.small.2.2.1)) (λv hv PF Qi Pt Pq=>?_) ?_
 ·obtain⟨y,_,sa,PL,⟨a,rfl,l⟩,OQ,Qq⟩:=nh O7 hv;refine g2 a _ O (pm.of (Pt _ _ (j _ _ l))) O (im _ _ O (g2 _ _ O O O (B rfl (IN sa _ O (.inl (TD.of (Pt _ _ (j _ _ OQ)))) (IN _ _ O O ?_)))));have:lA u (.ref a)=.int (((y.1.map Rs).length:Int)-1):=by simp[lA,j _ _ l,j _ _ OQ]
  rw[this]at Pq;exact Pq
 have PQ:O_.map (lA u)=(N.runs.map λr=>r.1.length-1).map Rs:=by
  rw[ax];have pos:∀y,y∈N.runs->0<y.1.length:=λy PU=>by
   obtain⟨i,hi,e⟩:=Tw.mem_getD PU ([],[]);have:=OO.pos i hi;unfold Nt.len at this;rw[e]at this;exact this
  have PJ:∀ {xs:List W1}{ys:List (List Nat×List Int)},(∀y,y∈ys->0<y.1.length)->Paired (λv (Pw:List Nat×List Int)=>∃s Pg,TupAt (hide [x] H) v [.ref s,.ref Pg]/\hide [x] H s=some (.lst (Pw.1.map Rs))/\hide [x] H Pg=some (.lst (Pw.2.map W1.int))) xs ys->xs.map (lA u)=ys.map (Rs∘λr=>r.1.length-1):=by
   intro xs ys Pn P1
   induction P1 with
   |nil=>rfl
   |@cons v y xs ys r t PV=>
    rw[m0,m0,PV λz hz=>Pn z (o0 _ hz)]
    congr 1
    refine Do r λsa PL Qd OQ _=>?_;obtain⟨a,rfl,l⟩:=Qd;have:=Pn y (kt ..);simp only[lA,j _ _ l,j _ _ OQ,x1,Rs,FM]
    congr 1
    lia
  exact PJ pos O7
 rw[PQ];refine gJ rfl OW n6 T.aq T.qq (by show 7<1000;decide) λPF A O6 OX=>?_;have PD:=Pd.step A (lc OW) (lc OX) n6 (lc O6);refine⟨f4 _,λP9 n7=>gJ rfl OX n7 T.aq T.lB (by show 8<1000;decide) λPH p Ph Pu=>?_⟩;have Y:=PD.step p (lc OX) (lc Pu) n7 (lc Ph);have nx:∀ {q:WF}{Pe:Hp}{o:HO},Pe q=some o->(∃C dx fs,Pe x=some (.ins C dx fs))->(∀C dx fs,o≠.ins C dx fs)->q∉[x]:=λe ⟨C,dx,fs,PM⟩ PR=>by
  simp only[sc];intro z;rw[z,PM]at e;exact PR _ _ _ (b3 e).symm
 have D:=nx O1 (b_ _ _ _ OS) (λ_ _ _ z=>by cases z);have L:=nx O2 (b_ _ _ _ OT) (λ_ _ _ z=>by cases z);have OR:=nx O3 (b_ _ _ _ OU) (λ_ _ _ z=>by cases z);have O9:=nx O4 (b_ _ _ _ OV) (λ_ _ _ z=>by cases z);have Pr:=nx O5 (b_ _ _ _ OW) (λ_ _ _ z=>by cases z);have PZ:=nx O6 (b_ _ _ _ OX) (λ_ _ _ z=>by cases z);refine k PH ⟨x,dx,n,P2,P4,P5,P6,P7,P8,P9⟩ rfl rfl ⟨Pu,?_,?_,?_,?_,?_,?_,(Ix ([]) Ph (.nil)),Y.nd,Pl.same Y.hide⟩ Y.but Y.fresh
 ·refine(p _ _ (A _ _ (J _ _ (ON _ _ (OY _ _ (Pf _ _ O1 D) D) D) D) D) D).trans ?_;simp[f1,FS]
 ·refine(p _ _ (A _ _ (J _ _ (ON _ _ (OY _ _ O2 L) L) L) L) L).trans ?_;simp[f1,Rs]
 ·refine(p _ _ (A _ _ (J _ _ (ON _ _ O3 OR) OR) OR) OR).trans ?_;simp[f1,FS]
 ·refine(p _ _ (A _ _ (J _ _ O4 O9) O9) O9).trans ?_;simp[f1,FS]
 ·exact p _ _ (A _ _ O5 Pr) Pr
 ·exact p _ _ O6 PZ)
def nH (CS CN:WF):Sp:=λvs H Q _=>∃(A:SA) (N:Nt) (S:SS) (stop:Nat) (Is:Int),vs=[.ref A.x,Rs stop,.int Is]/\ul CS CN H A N S/\pp N S/\stop<N.n/\
 ∀I:Hp,ul CS CN I A N (Tw.bI N (Tw.av N S stop Is Is) stop Is)->Ch A.own H I->Q .ak I
theorem L5:pu zaj zaj (s1 qh):=nb rfl rfl rfl (by decide +kernel)
theorem Jv(F:sB K "begin" "Search.begin" qh f fd) (T:bg K mg CS CN)
  (i:AC P w K mg base xL 2 n p zaf (nG CS CN)) (l:Binds K p zaf []) (mA:cf K CS "arrive" n)
  (j:AC P w K mg base xL 3 o q zad (rj CS CN)) (m:Binds K q zad []) (z:cf K CS "walk_on" o):AC P w K mg base xL 4 f fd zaj (nH CS CN):=by(
refine F.ar L5 (λvs H Q E h=>?_) (λU J outer s H vs Q E g h=>?_)
·refine hN h λA N S stop Is C _=>?_;subst C;rfl
·intro L;refine hO h λA N S stop Is D d c a k=>?_;subst D;refine B (On (ca (aA (V 0) T.aq mA i (g.mono) l .nil ws (UV (V 1) (UV (V 2) (UV (V 2) PP)))))
  (Fa (ca (aA (V 0) T.aq z j g m .nil ws (UV (V 1) (UV (V 2) PP)))))) ?_
 refine B rfl (nw A.x A.dx _ O d.ob O (B rfl (B rfl (B rfl (i3 A N S stop Is Is ⟨O,d,c,a,λH1 e r=>?_⟩)))));refine B rfl (nw A.x A.dx _ O e.ob O (B rfl (B rfl (b0 A N _ stop Is ⟨O,e,c.av a _ _,a,λH2 u t=>?_⟩))));exact k H2 u (r.tr t λb y=>.inl y))
def lG (CS CN:WF):Sp:=λvs H Q _=>∃(n:WF) (N:Nt) (stop:Nat) (Is:Int),vs=[.ref n,Rs stop,.int Is]/\f2 CN H n N/\dd N/\stop<N.n/\
 ∀(I:Hp) (A:SA) (k:Nat),ul CS CN I A N (aN N (cp N stop Is) k)->(aN N (cp N stop Is) k).ae=[]->Tl H I->Q (.ref A.x) I
theorem Bk:pu ["network","start","minute","search"] zah (s1 qV):=nb rfl rfl rfl (by decide +kernel)
theorem z'(f:f2 CN H n N) (h:dd N) (nx:H x=none) (j:H dx=none) (ne:dx≠x)
  (k:∀(I:Hp) (A:SA),A.x=x->ul CS CN I A N (f1 N)->Tl H I->(∀b,b∈A.own->H b=none)->a .ak I):
  iY CS CN [.ref x,.ref n] (Uf (Uf H dx (.own x)) x (.ins CS dx [])) a E0:=by(
have s0:Tl H (Uf (Uf H dx (.own x)) x (.ins CS dx [])):=λb o e=>by
 rw[UF (v0 e nx),UF (v0 e j)];exact e
have l:Tl H (hide [x] (Uf (Uf H dx (.own x)) x (.ins CS dx []))):=λb o e=>wl.mpr ⟨by simp only[sc];exact v0 e nx,s0 b o e⟩;refine Db x dx n N O KE (f.same l) h (λI A ex en g hB hf=>?_);refine k I A ex g (λb o e=>hB b o (s0 b o e) (by simp only[sc];exact v0 e nx)) λb i=>?_;rcases hf b i with rfl|q
·exact nx
·have c:b≠x:=λz=>by rw[z,KE]at q;cases q
 have d:b≠dx:=λz=>by rw[z,UF ne,KE]at q;cases q
 rwa [UF c,UF d]at q)
theorem kQ(s:Tl H H1) (b:Ch l H1 H2) (f:∀b,b∈l->H b=none):Tl H H2:=λa o e=>b a o (s a o e) λz=>by rw[f a z]at e;cases e
theorem J5(F:sB K "searched" "searched" qV f fd) (T:bg K mg CS CN) (OO:mg "Search"=some (.ref CS)) (TW:Mk K CS t)
  (l:AC P w K mg base xL 1 t z zae (iY CS CN)) (p:Binds K z zae [])
  (i:AC P w K mg base xL 4 q u zaj (nH CS CN)) (bB:Binds K u zaj []) (OM:cf K CS "begin" q)
  (GE:AC P w K mg base xL 5 r y zaa (ri CS CN)) (o:Binds K y zaa []) (ON:cf K CS "ride_to_the_end" r):AC P w K mg base xL 6 f fd zah (lG CS CN):=by(
refine F.ar Bk (λvs H Q E h=>?_) (λOV OT outer s H vs Q E b h=>?_)
·refine j0 h λn N stop Is OR _=>?_;subst OR;rfl
·intro OU;refine gQ h λn N stop Is OS J a c k=>?_;subst OS;refine B (On (zS 3 Bk (hP TW l (b.mono) rfl OO p .nil ws (UV (V 0) PP)))
  (On (ca (aA (V 3) T.aq OM i (b.mono) bB .nil ws (UV (V 1) (UV (V 2) PP))))
  (On (ca (lp (V 3) T.aq ON GE b o .nil ws))
  (Fa (tt (V 3)))))) ?_
 refine B rfl (λx dx a1 a2 a3=>z' J a a1 a2 a3 λH1 A ex e OP d=>⟨O,?_⟩);subst ex;refine B rfl (nw A.x A.dx _ O e.ob O (B rfl (B rfl (b0 A N _ stop Is ⟨O,e,fw a,c,λH2 g C=>?_⟩))));have L:=((fw a).av c Is Is).bI c Is;refine B rfl (nw A.x A.dx _ O g.ob O (nw A N _ O g L (λm Wp j ex _ _ U Y D=>?_)));have OQ:=kQ (kQ OP C d) D d;refine B rfl ?_;rw[<- ex];exact k m Wp j U Y OQ)
structure ay where
 x:WF
 dx:WF
 c:WF
 r:WF
 o:WF
 d:WF
 f:WF
 ds:List WF
 fs:List WF
noncomputable def ay.own (Wp:ay):List WF:=Wp.x::Wp.r::Wp.o::Wp.d::Wp.f::(Wp.ds++Wp.fs)
def kJ (G:Hp) (v:W1) (x:List Nat×List Int):Prop:=∃s a,TupAt G v [.ref s,.ref a]/\G s=some (.lst (x.1.map Rs))/\G a=some (.lst (x.2.map W1.int))
def hJ (pd:List (Nat×on)) (s:Nat):List on:=(pd.filter λd=>d.1==s).map (·.2)
structure NB (CN:WF) (H:Hp) (Wp:ay) (chg:List Int) (rn:List (List Nat×List Int)) (og:List (Nat×Int)) (pd:List (Nat×on)) (pw:Nat->List (Nat×Int×Nat)):Prop where
 nd:Wp.own.Nodup
 ob:H Wp.x=some (.ins CN Wp.dx (nf Wp.c Wp.r Wp.o Wp.d Wp.f))
 yT:hide Wp.own H Wp.c=some (.lst (chg.map W1.int))
 runs:∃b,H Wp.r=some (.lst b)/\Paired (kJ (hide Wp.own H)) b rn
 aZ:∃os,H Wp.o=some (.lst os)/\Paired (λv x=>TupAt (hide Wp.own H) v (j1 x)) os og
 af:H Wp.d=some (.lst (Wp.ds.map W1.ref))
 e8:Wp.ds.length=chg.length
 dep:∀s a,Wp.ds[s]?=some a->∃es,H a=some (.lst es)/\Paired (λv e=>TupAt (hide Wp.own H) v (aX e)) es (hJ pd s)
 foot:H Wp.f=some (.lst (Wp.fs.map W1.ref))
 cY:Wp.fs.length=chg.length
 ft:∀s a,Wp.fs[s]?=some a->∃es,H a=some (.lst es)/\Paired (λv e=>TupAt (hide Wp.own H) v (jK e)) es (pw s)
section
variable {CN:WF}{H I:Hp}{Wp:ay}{chg:List Int}{rn:List (List Nat×List Int)}{og:List (Nat×Int)}{pd:List (Nat×on)}{pw:Nat->List (Nat×Int×Nat)}
theorem kJ.same(s:Tl G G') (h:kJ G v x):kJ G' v x:=by obtain⟨a,b,c,d,e⟩:=h;exact(IN a b (c.same s) (s _ _ d) (s _ _ e))
theorem NB.there(h:NB CN H Wp chg rn og pd pw) (a:b∈Wp.own):H b≠none:=by(
unfold ay.own at a;simp only[rs,cs]at a;rcases a with rfl|rfl|rfl|rfl|rfl|a|a
·rw[h.ob];simp
·obtain⟨_,e,_⟩:=h.runs;rw[e];simp
·obtain⟨_,e,_⟩:=h.aZ;rw[e];simp
·rw[h.af];simp
·rw[h.foot];simp
·obtain⟨i,hi⟩:=fW.mp a;obtain⟨_,e,_⟩:=h.dep i b hi;rw[e];simp
·obtain⟨i,hi⟩:=fW.mp a;obtain⟨_,e,_⟩:=h.ft i b hi;rw[e];simp)
theorem pJ(f:a∈l) (g:H t=none):Tl (hide l H) (hide l (Uf (Uf H t o) a u)):=λb v e=>by
 obtain⟨c,d⟩:=wl.mp e;refine wl.mpr ⟨c,?_⟩;rw[UF (λz=>c (by rw[z];exact f)),UF (v0 d g)];exact d
theorem pZ{s:Nat}(h:Wp.ds[s]?=some a):a∈Wp.own:=by
 unfold ay.own;simp[pi h]
theorem lh{s:Nat}(h:Wp.fs[s]?=some a):a∈Wp.own:=by
 unfold ay.own;simp[pi h]
structure kH (CN:WF) (H I:Hp) (Wp:ay) (a:WF):Prop where
 same:Tl (hide Wp.own H) (hide Wp.own I)
 keep:∀b,b∈Wp.own->b≠a->I b=H b
theorem NB.keep(h:NB CN H Wp chg rn og pd pw) (d:a∈Wp.own) (c:H t=none):kH CN H (Uf (Uf H t o) a u) Wp a:=
 ⟨pJ d c,λb e ne=>by rw[UF ne,UF];exact λz=>h.there e (by rw[z];exact c)⟩
theorem NB.move(h:NB CN H Wp chg rn og pd pw) (k:kH CN H I Wp a) (ob:I Wp.x=some (.ins CN Wp.dx (nf Wp.c Wp.r Wp.o Wp.d Wp.f))) 
  (hd:Wp.d≠a) (hf:Wp.f≠a) (runs:∃g,I Wp.r=some (.lst g)/\Paired (kJ (hide Wp.own I)) g m) (aZ:∃os,I Wp.o=some (.lst os)/\Paired (λv x=>TupAt (hide Wp.own I) v (j1 x)) os i)
  (dep:∀s b,Wp.ds[s]?=some b->∃es,I b=some (.lst es)/\Paired (λv e=>TupAt (hide Wp.own I) v (aX e)) es (hJ j s))
  (ft:∀s b,Wp.fs[s]?=some b->∃es,I b=some (.lst es)/\Paired (λv e=>TupAt (hide Wp.own I) v (jK e)) es (l s)):NB CN I Wp chg m i j l:=
 ⟨h.nd,ob,k.same _ _ h.yT,runs,aZ,(k.keep _ (by simp[ay.own]) hd).trans h.af,h.e8,dep,(k.keep _ (by simp[ay.own]) hf).trans h.foot,h.cY,ft⟩
theorem NB.vc(h:NB CN H Wp chg rn og pd pw) (k:kH CN H I Wp a) (ne:Wp.r≠a):∃b,I Wp.r=some (.lst b)/\Paired (kJ (hide Wp.own I)) b rn:=by
 obtain⟨b,e,p⟩:=h.runs;exact Ix b ((k.keep _ (by simp[ay.own]) ne).trans e) (aj (λ_ _ q=>q.same k.same) p)
theorem NB.uO(h:NB CN H Wp chg rn og pd pw) (k:kH CN H I Wp a) (ne:Wp.o≠a):∃os,I Wp.o=some (.lst os)/\Paired (λv x=>TupAt (hide Wp.own I) v (j1 x)) os og:=by
 obtain⟨b,e,p⟩:=h.aZ;exact Ix b ((k.keep _ (by simp[ay.own]) ne).trans e) (aj (λ_ _ q=>q.same k.same) p)
theorem NB.o3(h:NB CN H Wp chg rn og pd pw) (k:kH CN H I Wp a) (c:Wp.ds[s]?=some b) (ne:b≠a):∃es,I b=some (.lst es)/\Paired (λv e=>TupAt (hide Wp.own I) v (aX e)) es (hJ pd s):=by
 obtain⟨es,e,p⟩:=h.dep s b c;exact Ix es ((k.keep _ (pZ c) ne).trans e) (aj (λ_ _ q=>q.same k.same) p)
theorem NB.pb(h:NB CN H Wp chg rn og pd pw) (k:kH CN H I Wp a) (c:Wp.fs[s]?=some b) (ne:b≠a):∃es,I b=some (.lst es)/\Paired (λv e=>TupAt (hide Wp.own I) v (jK e)) es (pw s):=by
 obtain⟨es,e,p⟩:=h.ft s b c;exact Ix es ((k.keep _ (lh c) ne).trans e) (aj (λ_ _ q=>q.same k.same) p)
theorem NB.rC(h:NB CN H Wp chg rn og pd pw) (c:a∈Wp.own) (d:H t=none):TupAt (hide Wp.own (Uf (Uf H t (.tup xs)) a u)) (.ref t) xs:=
 have b:t∉Wp.own:=λz=>h.there z d
 (Ix t O (wl.mpr ⟨b,by rw[UF (λz=>b (by rw[z];exact c)),KE]⟩))
structure jv (Wp:ay):Prop where
 x:∀b,b∈Wp.own->b=Wp.r\/b=Wp.o\/b=Wp.d\/b=Wp.f\/b∈Wp.ds\/b∈Wp.fs->Wp.x≠b
 r:Wp.r≠Wp.o/\Wp.r≠Wp.d/\Wp.r≠Wp.f/\Wp.r∉Wp.ds/\Wp.r∉Wp.fs
 o:Wp.o≠Wp.d/\Wp.o≠Wp.f/\Wp.o∉Wp.ds/\Wp.o∉Wp.fs
 d:Wp.d≠Wp.f/\Wp.d∉Wp.ds/\Wp.d∉Wp.fs
 f:Wp.f∉Wp.ds/\Wp.f∉Wp.fs
 ds:Wp.ds.Nodup
 fs:Wp.fs.Nodup
 df:∀a,a∈Wp.ds->a∉Wp.fs
theorem jv.of (h:Wp.own.Nodup):jv Wp:=by(
unfold ay.own at h;simp only[iu,rs,cs,not_or,iq]at h;obtain⟨⟨y,A,C,D,E,J⟩,⟨r,s,t,u,x⟩,⟨k,l,m,n⟩,⟨d,e,f⟩,⟨g,i⟩,o,p,q⟩:=h;refine⟨λb _ c=>?_,⟨r,s,t,u,x⟩,⟨k,l,m,n⟩,⟨d,e,f⟩,⟨g,i⟩,o,p,λa j c=>q a j a c rfl⟩;rcases c with rfl|rfl|rfl|rfl|c|c
·exact y
·exact A
·exact C
·exact D
·exact λz=>E (by rw[z];exact c)
·exact λz=>J (by rw[z];exact c))
theorem fF {c:Type}{l:List c}{a b:c}(h:a∉l) (d:b∈l):b≠a:=λz=>h (by rw[<- z];exact d)
theorem NB.K'(h:NB CN H Wp chg rn og pd pw) (f:H t=none) {os:List W1}(g:H Wp.o=some (.lst os)) (y:Nat×Int):NB CN (Uf (Uf H t (.tup (j1 y))) Wp.o (.lst (os++[.ref t]))) Wp chg rn (og++[y]) pd pw:=by(
have n:=jv.of h.nd;have d:Wp.o∈Wp.own:=by simp[ay.own]
have k:=h.keep (a:=Wp.o) (t:=t) (o:=.tup (j1 y)) (u:=.lst (os++[.ref t])) d f;obtain⟨i,e,p⟩:=h.aZ;rw[g]at e;cases e;refine h.move k ((k.keep _ (by simp[ay.own]) (n.x _ d (.inr (.inl rfl)))).trans h.ob) (Ne.symm n.o.1) (Ne.symm n.o.2.1) (h.vc k n.r.1) (B KE (Paired.snoc (aj (λ_ _ q=>q.same k.same) p) (h.rC d f))) (λs b c=>h.o3 k c (fF n.o.2.2.1 (pi c))) (λs b c=>h.pb k c (fF n.o.2.2.2 (pi c))))
theorem NB.La(h:NB CN H Wp chg rn og pd pw) (g:H t=none) (l:H Wp.r=some (.lst i)) (m:hide Wp.own H s=some (.lst (y.1.map Rs))) (j:hide Wp.own H d=some (.lst (y.2.map W1.int))):NB CN (Uf (Uf H t (.tup [.ref s,.ref d])) Wp.r (.lst (i++[.ref t]))) Wp chg (rn++[y]) og pd pw:=by(
have n:=jv.of h.nd;have f:Wp.r∈Wp.own:=by simp[ay.own]
have k:=h.keep (a:=Wp.r) (t:=t) (o:=.tup [.ref s,.ref d]) (u:=.lst (i++[.ref t])) f g;obtain⟨z,e,p⟩:=h.runs;rw[l]at e;cases e;refine h.move k ((k.keep _ (by simp[ay.own]) (n.x _ f (.inl rfl))).trans h.ob) (Ne.symm n.r.2.1) (Ne.symm n.r.2.2.1) (B KE (Paired.snoc (aj (λ_ _ q=>q.same k.same) p) (IN s d (h.rC f g) (k.same _ _ m) (k.same _ _ j)))) (h.uO k (Ne.symm n.r.1)) (λs b c=>h.o3 k c (fF n.r.2.2.2.1 (pi c))) (λs b c=>h.pb k c (fF n.r.2.2.2.2 (pi c))))
theorem F4 (pd:List (Nat×on)) (s0:Nat) (e:on) (s:Nat):hJ (pd++[(s0,e)]) s=hJ pd s++(if s0=s then [e]else []):=by(
unfold hJ;rw[kz,bL]
congr 1
by_cases q:s0=s
·simp[q]
·simp[q])
theorem NB.K9(h:NB CN H Wp chg rn og pd pw) (l:H t=none) (i:Wp.ds[s0]?=some a) (m:H a=some (.lst es)) (y:on):NB CN (Uf (Uf H t (.tup (aX y))) a (.lst (es++[.ref t]))) Wp chg rn og (pd++[(s0,y)]) pw:=by(
have n:=jv.of h.nd;have g:=pi i;have j:=pZ i;have k:=h.keep (a:=a) (t:=t) (o:=.tup (aX y)) (u:=.lst (es++[.ref t])) j l;obtain⟨D,e,p⟩:=h.dep s0 a i;rw[m]at e;cases e;refine h.move k ((k.keep _ (by simp[ay.own]) (n.x _ j (.inr (.inr (.inr (.inr (.inl g))))))).trans h.ob) (Ne.symm (fF n.d.2.1 g)) (Ne.symm (fF n.f.1 g)) (h.vc k (Ne.symm (fF n.r.2.2.2.1 g))) (h.uO k (Ne.symm (fF n.o.2.2.1 g))) (λs b c=>?_) (λs b c=>h.pb k c (λz=>n.df a g (by rw[<- z];exact pi c)));rw[F4];by_cases q:s0=s
·subst q;rw[i]at c;cases c;rw[No rfl];exact B KE (Paired.snoc (aj (λ_ _ q=>q.same k.same) p) (h.rC j l))
·rw[Ps q,fm];refine h.o3 k c λz=>q ?_;subst z;have A:=(aD.mp i);have C:=(aD.mp c);exact(rO n.ds).mp (A.2.trans C.2.symm))
theorem NB.K_(h:NB CN H Wp chg rn og pd pw) (l:H t=none) (i:Wp.fs[s0]?=some a) (m:H a=some (.lst es)) (y:Nat×Int×Nat):NB CN (Uf (Uf H t (.tup (jK y))) a (.lst (es++[.ref t]))) Wp chg rn og pd (λs=>pw s++(if s0=s then [y]else [])):=by(
have n:=jv.of h.nd;have g:=pi i;have j:=lh i;have k:=h.keep (a:=a) (t:=t) (o:=.tup (jK y)) (u:=.lst (es++[.ref t])) j l;obtain⟨D,e,p⟩:=h.ft s0 a i;rw[m]at e;cases e;refine h.move k ((k.keep _ (by simp[ay.own]) (n.x _ j (.inr (.inr (.inr (.inr (.inr g))))))).trans h.ob) (Ne.symm (fF n.d.2.2 g)) (Ne.symm (fF n.f.2 g)) (h.vc k (Ne.symm (fF n.r.2.2.2.2 g))) (h.uO k (Ne.symm (fF n.o.2.2.2 g))) (λs b c=>h.o3 k c (λz=>n.df b (pi c) (by rw[z];exact g))) (λs b c=>?_);by_cases q:s0=s
·subst q;rw[i]at c;cases c;rw[No rfl];exact B KE (Paired.snoc (aj (λ_ _ q=>q.same k.same) p) (h.rC j l))
·rw[Ps q,fm];refine h.pb k c λz=>q ?_;subst z;have A:=(aD.mp i);have C:=(aD.mp c);exact(rO n.fs).mp (A.2.trans C.2.symm))
end
theorem IF{a b:Type}{l:List a}{f:a->b}(h:i<l.length) (d:a):(l.map f)[i]?=some (f (l.getD i d)):=by rw[pr,bW h d];rfl
theorem F3 (pd:List (Nat×on)) (s:Nat):(hJ pd s).length<=pd.length:=by unfold hJ;rw[FM];exact ma ..
theorem va (r:Nat) (x:aQ):(ey r x).length=x.1.length-1:=by unfold ey;simp
def vk (CN:WF):Sp:=λvs H Q _=>∃(Wp:ay) (chg:List Int) (rn:List (List Nat×List Int)) (og:List (Nat×Int)) (pd:List (Nat×on)) (pw:Nat->List (Nat×Int×Nat)) (s a g:WF) (x:aQ),vs=[.ref Wp.x,.ref s,.ref a,.ref g]/\NB CN H Wp chg rn og pd pw/\
 hide Wp.own H s=some (.lst (x.1.map Rs))/\hide Wp.own H a=some (.lst (x.2.1.map W1.int))/\hide Wp.own H g=some (.lst (x.2.2.map W1.int))/\x.2.2.length=x.1.length/\0<x.1.length/\(∀st,st∈x.1->st<chg.length)/\rn.length<=100000/\pd.length+x.1.length<=1000000/\
 ∀I,NB CN I Wp chg (rn++[(x.1,x.2.1)]) og (pd++ey rn.length x) pw->Ch Wp.own H I->Q .ak I
theorem vf:pu ["self","stops","comes","goes","run","call"] zas (s1 qa):=nb rfl rfl rfl (by decide +kernel)
theorem Jm(F:sB K "add_run" "Network.add_run" qa f fd) (T:bg K mg CS CN):AC P w K mg base xL 1 f fd zas (vk CN):=by(
refine F.ar vf (λvs H Q E h=>?_) (λO0 OY outer s0 H vs Q E O3 h=>?_)
·refine pQ h λWp chg rn og pd pw s m g x OW=>?_;obtain⟨rfl,_⟩:=OW;rfl
·intro OZ;refine pQ h λWp chg rn og pd pw s m g x OX=>?_;obtain⟨rfl,hB,o,ON,hg,O1,O2,OP,O4,O5,k⟩:=OX;refine B (On (zS 4 vf (a0 b6 (by rfl) T.len b1 (UV (wS (V 0) rfl) PP)))
  (On (ca (cG cm da dc cZ (wS (V 0) rfl) (UV (bY (UV (V 1) (UV (V 2) PP))) PP)))
  (Fa (cH bN rfl (nk rfl T.range (UV (jp gP (a0 b6 (by rfl) T.len b1 (UV (V 1) PP)) EQ) PP)) (zG 5 vf)
   (Fa (ca (cG cm da dc cZ (xz wE (wS (V 0) rfl) (xz wE (V 1) (V 5))) (UV (bY (UV (xz wE (V 3) (V 5)) (UV (V 4) (UV (V 5) PP)))) PP)))))))) ?_
 obtain⟨l,j,OT⟩:=hB.runs;have OR:l.length=rn.length:=Paired.length OT;refine B rfl (wv Wp.x CN Wp.dx _ _ O hB.ob T.aS T.iS O (IN Wp.r l O (.inl (TD.of j)) ?_));rw[OR];refine B rfl (b' Wp.x CN Wp.dx _ _ O hB.ob T.aS T.iS O (.inl ⟨O,⟨_,TD.of j⟩⟩) (B rfl (zn _ O (by show 2<=Gc;decide) (λt p=>?_))));have tr:t≠Wp.r:=λz=>hB.there (b:=Wp.r) (by simp[ay.own]) (by rw[<- z];exact p);refine bb Wp.r l _ O O ((UF (Ne.symm tr)).trans j) (small (by lia)) ?_;have OM:=hB.La p j (y:=(x.1,x.2.1)) o ON;have C:Ch Wp.own H (Uf (Uf H t (.tup [.ref s,.ref m])) Wp.r (.lst (l++[.ref t]))):=((Ch.rfl' _ _).new p).put (by simp[ay.own]);have OU:=C.hide;refine B rfl (IN s _ O (.inl (TD.of (b7 _ _ _ _ (OU _ _ o)))) (IN _ _ O O ⟨_,O,by rw[FM];lia,by rw[FM];lia,?_⟩));have en:((((x.1.map Rs).length:Nat):Int)-1).toNat=x.1.length-1:=by rw[FM];lia
 let L:Nat->St->Hp->Prop:=λq ZB H2=>∃A,ZB=[some (.ref Wp.x),some (.ref s),some (.ref m),some (.ref g),some (Rs rn.length),A]/\NB CN H2 Wp chg (rn++[(x.1,x.2.1)]) og (pd++(ey rn.length x).take q) pw/\Ch Wp.own H H2
 refine kY L
  (zn none O (by rw[List.take_zero,fm];exact OM) C) ?_ ?_
 ·rintro q ZB H2 D ⟨A,rfl,c,i⟩;have D:q<x.1.length-1:=n' D en;have J:=i.hide;have N:(0:Int)+((q:Nat):Int)=((q:Nat):Int):=by lia
  show bh 5 (W1.int ((0:Int)+((q:Nat):Int))) _ _ _;rw[N];have OO:x.1.getD q 0<chg.length:=OP _ (Tw.getD_mem (by lia) _);have U:∃a,Wp.ds[x.1.getD q 0]?=some a:=⟨_,g1 (by rw[c.e8];exact OO)⟩;obtain⟨a,e⟩:=U;obtain⟨es,n,OS⟩:=c.dep _ a e;refine B rfl (wv Wp.x CN Wp.dx _ _ O c.ob T.aS T.hM O (B rfl (B rfl (Db s _ _ _ O O (TD.of (b7 _ _ _ _ (J _ _ o))) (tw (by lia)) (bi Wp.d _ _ _ O O (TD.of c.af) (lv (show(Wp.ds.map W1.ref)[x.1.getD q 0]?=some (W1.ref a) by rw[pr,e];rfl)) (.inl ⟨O,⟨_,TD.of n⟩⟩) (B rfl (B rfl (Db g _ _ _ O O (TD.of (b7 _ _ _ _ (J _ _ hg))) (jC (by lia)) (B rfl (zn _ O (by show 3<=Gc;decide) (λOV u=>?_)))))))))));have ta:a≠OV:=λz=>c.there (pZ e) (by rw[z];exact u);have OQ:es.length<=1000000:=by
   have h1:es.length=_:=Paired.length OS;have h2:=F3 (pd++(ey rn.length x).take q) (x.1.getD q 0);rw[ls,aP,va]at h2;lia
  refine bb a es _ O O ((UF ta).trans n) (small OQ) ?_;refine zn _ O ?_ ((i.new u).put (pZ e));have:=c.K9 u e n (x.2.2.getD q 0,rn.length,q);have Y:(ey rn.length x).take (q+1)=(ey rn.length x).take q++[(x.1.getD q 0,x.2.2.getD q 0,rn.length,q)]:=by
   rw[cB]
   congr 1
   unfold ey;rw[pr,gy (by lia)];rfl
  rw[Y,<-dv];exact this
 ·rintro ZB H2 ⟨A,rfl,c,i⟩;refine k H2 ?_ i;rw[en,wb (by rw[va];lia)]at c;exact c)
noncomputable def hH (e:on):List Int:=[e.1,(e.2.1:Int),(e.2.2:Int)]
theorem F1(h:c6 (hH a) (hH b)):iM a b:=by(
obtain⟨g,r,i⟩:=a;obtain⟨g',d,c⟩:=b;unfold iM;simp only;rcases h with h|h
·simp only[hH,kx]at h;lia
·simp only[hH,ci,hj,ev,dL,fX,and_false,g9]at h;lia)
theorem KC(p:Paired (λv e=>TupAt H v (aX e)) es D):∃ts:List (WF×on),es=ts.map (λt=>W1.ref t.1)/\D=ts.map (·.2)/\∀t,t∈ts->H t.1=some (.tup (aX t.2)):=by(
induction p with
|nil=>exact zn ([]) O O (λt h=>by simp at h)
|cons r t i=>
 obtain⟨a,rfl,g⟩:=r;obtain⟨ts,c,d,f⟩:=i;refine zn ((a,_)::ts) (by rw[c];rfl) (by rw[d];rfl) (λt b=>?_);rcases rs.mp b with rfl|b
 ·exact g
 ·exact f t b)
theorem Ay:∀(ts:List (WF×on)),(∀t,t∈ts->H t.1=some (.tup (aX t.2)))->Paired (λv e=>TupAt H v (aX e)) (ts.map λt=>W1.ref t.1) (ts.map (·.2))
 |[],_=>.nil
 |t::ts,h=>.cons (Ix t.1 O (h t (kt ..))) (Ay ts λu hu=>h u (o0 _ hu))
theorem Lv(n:TD K H a es) (p:Paired (λv e=>TupAt H v (aX e)) es D)
  (k:∀(i:List W1) (c:List on) (q:WF),c.Perm D->c.Pairwise iM->Paired (λv e=>TupAt H v (aX e)) i c->H q=none->Q (.ref q) (Uf H q (.lst i))):u0 K [W1.ref a] H Q:=by(
obtain⟨ts,rfl,rfl,d⟩:=KC p
let f:WF×on->WF×List Int:=λt=>(t.1,hH t.2)
let g:WF×List Int->WF×on:=λt=>(t.1,t.2.getD 0 0,(t.2.getD 1 0).toNat,(t.2.getD 2 0).toNat)
have gf:∀t,g (f t)=t:=λt=>by obtain⟨a,x,y,z⟩:=t;simp[f,g,hH]
refine g2 a (ts.map f) O (by rw[ax];exact n) (λt b=>?_) (λus q l A o=>?_)
·obtain⟨u,hu,rfl⟩:=mo.mp b;exact⟨pm.of (d u hu),by simp[f,hH]⟩
·have j:∀u,u∈us->f (g u)=u:=λu hu=>by
  obtain⟨t,b,rfl⟩:=mo.mp (l.mem_iff.mp hu);rw[gf]
 have pg:(us.map g).Perm ts:=by
  have:=l.map g;rw[ax]at this;have e:ts.map (g∘f)=ts:=by
   conv=>rhs;rw[<- rT ts]
   exact eE λt _=>gf t
  rwa [e]at this
 have m:(us.map λt=>W1.ref t.1)=(us.map g).map λt=>W1.ref t.1:=by rw[ax];rfl
 rw[m];refine k _ ((us.map g).map (·.2)) q (pg.map _) ?_ (Ay _ λt b=>d t (pg.mem_iff.mp b)) o;rw[ax,jl];refine A.imp_of_mem λ{x y} r s h=>F1 ?_;have h1:=cM (·.2) (j x r);have h2:=cM (·.2) (j y s);simp only[f]at h1 h2;show c6 (hH (g x).2) (hH (g y).2);rw[h1,h2];exact h)
theorem zW{E:Hp->Prop}(hv:∀x,nm ((nm ZB vs).set v (some x)) vs=nm ZB vs) (J:H1 D=none) (Y:TD K H1 a xs) (hz:xs.length<=Gc)
  (post:∀(H:Hp) (as:List WF),as.length=xs.length->(D::as).Nodup->H D=some (.lst (as.map W1.ref))->(∀b,b∈as->H b=some (.lst []))->(∀b,b∈as->H1 b=none)->Tl H1 H->E H):
  ∃W:Nat->Nat->Hp->Prop,(∃m,W 0 m (Uf H1 D (.lst [])))/\∀i m H,W i m H->
   ((cO K a).stop i H/\E H)\/((cO K a).go i H/\∃k:Hp->Prop,(∀I,k I->∃N,N<m/\W (i+1) N I)/\∀x I,(cO K a).eQ i H x I->bh v x (nm ZB vs) I λu H2=>nm u vs=nm ZB vs/\iZ u H2 λb A=>
    if b=true then vN j_ u A λy C=>∃acc,C D=some (.lst acc)/\acc.length<Gc/\k (Uf C D (.lst (acc++[y])))else k A):=by(
refine mT (xs:=xs) (λi H=>∃as:List WF,as.length=i/\(D::as).Nodup/\H D=some (.lst (as.map W1.ref))/\(∀b,b∈as->H b=some (.lst []))/\(∀b,b∈as->H1 b=none)/\Tl H1 H) ⟨[],O,by simp,KE,λb c=>by simp at c,λb c=>by simp at c,Tl.new J⟩
 (λi H _ OM=>by obtain⟨_,_,_,_,_,_,s⟩:=OM;exact Y.same s) ?_ (λH ON=>by obtain⟨as,l,d,f,h,n,g⟩:=ON;exact post H as l d f h n g)
rintro i x H hi ⟨as,l,d,f,h,n,g⟩;have OO:i<xs.length:=(aD.mp hi).1;refine⟨hv x,?_⟩;dsimp only[iZ];rw[No rfl];refine⟨f4 _,λt j=>?_⟩;have r:D≠t:=λz=>by rw[z,j]at f;cases f
have ta:∀b,b∈as->b≠t:=λb c z=>by have:=h b c;rw[z,j]at this;cases this
refine zn (as.map W1.ref) ((UF r).trans f) (by rw[FM];lia) ⟨as++[t],by rw[ls,l];rfl,?_,by rw[KE,bL];rfl,λb c=>?_,λb c=>?_,λb o e=>?_⟩
·rw[iu]at d⊢;refine⟨λz=>?_,?_⟩
 ·rcases cs.mp z with z|z
  ·exact d.1 z
  ·simp only[sc]at z;exact r z
 ·rw[iq];refine⟨d.2,by simp,λp U q L=>?_⟩;simp only[sc]at L;rw[L];exact ta p U
·rw[iu]at d;rcases cs.mp c with c|c
 ·rw[UF (λz=>d.1 (by rw[<- z];exact c)),UF (ta b c)];exact h b c
 ·simp only[sc]at c;rw[c,UF (Ne.symm r),KE]
·rcases cs.mp c with c|c
 ·exact n b c
 ·simp only[sc]at c;rw[c];exact g.free j
·have Q:b≠D:=v0 e J;have T:b≠t:=λz=>by have:=g b o e;rw[z,j]at this;cases this
 rw[UF Q,UF T];exact g b o e)
def gb (H:Hp) (v:W1) (y:(Nat×Int)×aQ):Prop:=∃s a g,TupAt H v [Rs y.1.1,.int y.1.2,.ref s,.ref a,.ref g]/\H s=some (.lst (y.2.1.map Rs))/\H a=some (.lst (y.2.2.1.map W1.int))/\H g=some (.lst (y.2.2.2.map W1.int))
def oR (H:Hp) (v:W1) (w:Wk):Prop:=TupAt H v [Rs w.1,Rs w.2.1,.int w.2.2]
theorem gb.same(s:Tl H I) (h:gb H v y):gb I v y:=by obtain⟨a,b,c,d,e,f,g⟩:=h;exact(nw a b c (d.same s) (s _ _ e) (s _ _ f) (s _ _ g))
structure oK (chg:List Int) (Z:List ((Nat×Int)×aQ)) (W:List Wk):Prop where
 n:chg.length<=1000
 runs:Z.length<=100000
 calls:(Z.map λy=>y.2.1.length).sum<=300000
 goes:∀y,y∈Z->y.2.2.2.length=y.2.1.length/\0<y.2.1.length/\∀st,st∈y.2.1->st<chg.length
 walks:W.length<=100000/\∀w,w∈W->w.1<chg.length
def rg (CN:WF):Sp:=λvs H Q _=>∃(x dx c d e:WF) (chg:List Int) (Z:List ((Nat×Int)×aQ)) (a b:List W1) (W:List Wk),vs=[.ref x,.ref c,.ref d,.ref e]/\H x=some (.ins CN dx [])/\H c=some (.lst (chg.map W1.int))/\H d=some (.lst a)/\Paired (gb (hide [x] H)) a Z/\
 H e=some (.lst b)/\Paired (oR H) b W/\oK chg Z W/\∀(I:Hp) (N:Nt),ss chg (Z.map (·.2)) (Z.map (·.1)) W N->f2 CN I x N->Ch [x] H I->Q .ak I
theorem d5:pu ["self","changes","runs","walks","trip","begins","stops","comes","goes","number","start","goal","minutes","change","departures"] zak (s1 qK):=nb rfl rfl rfl (by decide +kernel)
theorem Fb{R:List aQ}(h:R[i]?=some x):ei (R.take (i+1))=ei (R.take i)++ey i x:=by(
have hi:=(aD.mp h).1;unfold ei;rw[cB,h,cK,wi,oB]
congr 1
simp[aP,kr (ed hi)])
theorem GW{W:List Wk}(h:W[i]?=some x) (s:Nat):dm (W.take (i+1)) s=dm (W.take i) s++(if x.1=s then [(x.2.1,x.2.2,i)]else []):=by(
have hi:=(aD.mp h).1;unfold dm;rw[cB,h,cK,wi,kz,bL]
congr 1
by_cases e:x.1=s
·simp[e,aP,kr (ed hi)]
·simp[e])
theorem ye (R:List aQ):(ei R).length<=(R.map λx=>x.1.length).sum:=by(
unfold ei;have:∀(l:List aQ) (k:Nat),((l.zipIdx k).flatMap λx=>ey x.2 x.1).length<=(l.map λx=>x.1.length).sum:=by
 intro l
 induction l with
 |nil=>intro k;simp
 |cons x l a=>
  intro k;rw[kB,gA,ls,m0,dV,va];have:=a (k+1);simp only;lia
exact this R 0)
theorem rm {a:Type}(f:a->Nat):∀(l:List a) (i:Nat),((l.take i).map f).sum<=(l.map f).sum
 |[],i=>by simp
 |x::l,0=>by simp
 |x::l,i+1=>by
  have:=rm f l i;rw[List.take_succ_cons,m0,m0,dV,dV];lia
theorem Kq{fs:List WF}(h:(([x]++[c]++[r]++[o])++(d::ds)++(f::fs)).Nodup):(x::r::o::d::f::(ds++fs)).Nodup/\c∉(x::r::o::d::f::(ds++fs)):=by
 simp only[iu,iq,rs,cs,ir,g9,not_or,me,mc,dv]at h⊢;grind
theorem Ah{H:Hp}{m:List WF}(h1:l.Nodup) (h2:∀b,b∈l->H b≠none) (c:m.Nodup) (d:∀b,b∈m->H b=none):(l++m).Nodup:=by
 rw[iq];exact⟨h1,c,λa f b g e=>h2 a f (by rw[e];exact d b g)⟩
theorem uQ(h:xs.length=ys.length) (f:∀(i:Nat) (x:g) (y:j),xs[i]?=some x->ys[i]?=some y->R x y):Paired R xs ys:=by(
induction xs generalizing ys with
|nil=>cases ys with
 |nil=>exact .nil
 |cons=>cases h
|cons x xs e=>cases ys with
 |nil=>cases h
 |cons y ys=>exact .cons (f 0 x y rfl rfl) (e (Nat.succ.inj h) λi a b c d=>f (i+1) a b c d))
theorem TupAt.zQ(h:TupAt H v xs) (d:H q=none) (c:H D=some (.lst l)):TupAt (Uf (Uf H q o) D u) v xs:=by
 obtain⟨a,e,b⟩:=h;refine Ix a e ?_;rw[UF (λz=>by rw[z,c]at b;cases b),UF (v0 b d)];exact b
theorem JW(F:sB K "__init__" "Network.__init__" qK f fd) (T:bg K mg CS CN) (Rx:mg "list"=none) (Ry:mg "sorted"=none)
  (QG:AC P w K mg base xL 1 QV QW zas (vk CN)) (QK:Binds K QW zas []) (mA:cf K CN "add_run" QV):AC P w K mg base xL 2 f fd zak (rg CN):=by(
refine F.ar d5 (λvs H Q E h=>?_) (λRP RM outer s0 H vs Q E PV h=>?_)
·refine pQ h λx dx OX Pq Pd chg Z PH PJ W RK=>?_;obtain⟨rfl,_⟩:=RK;rfl
·intro RO;refine pQ h λx dx OX Pq Pd chg Z PH PJ W RL=>?_;obtain⟨rfl,Pm,OW,Pt,Qt,PX,Qs,hA,k⟩:=RL;refine B (On (bq (V 0) (p1 oY (by rfl) Rx sI (UV (V 1) PP)) rfl)
  (On (bq (V 0) (db PP) rfl)
  (On (bq (V 0) (db PP) rfl)
  (On (bq (V 0) (iV (own:=[("change",13)]) rfl d5.nd (cy (V 1)) (fx rfl) (λ_ _ _ _ _=>zG 13 d5) (λ_ _ _ _ _=>gn) (λ_ _ _ _ _=>db PP)) rfl)
  (On (bq (V 0) (iV (own:=[("change",13)]) rfl d5.nd (cy (V 1)) (fx rfl) (λ_ _ _ _ _=>zG 13 d5) (λ_ _ _ _ _=>gn) (λ_ _ _ _ _=>db PP)) rfl)
  (On (cH bN rfl (cy (V 2)) (cw rfl (re (zG 4 d5) (re (zG 5 d5) (re (zG 6 d5) (re (zG 7 d5) (re (zG 8 d5) cx))))))
   (On (ca (cG cm da dc cZ (wS (V 0) rfl) (UV (bY (UV (V 4) (UV (V 5) PP))) PP)))
   (Fa (ca (aA (V 0) T.aS mA QG PV QK .nil ws (UV (V 6) (UV (V 7) (UV (V 8) PP))))))))
  (On (cH bN rfl (nk rfl T.range (UV (a0 b6 (by rfl) T.len b1 (UV (V 3) PP)) PP)) (zG 9 d5)
   (On (dI (xz wE (V 3) (V 9)) (cw rfl (re (zG 10 d5) (re (zG 11 d5) (re (zG 12 d5) cx)))))
   (Fa (ca (cG cm da dc cZ (xz wE (wS (V 0) rfl) (V 10)) (UV (bY (UV (V 11) (UV (V 12) (UV (V 9) PP)))) PP))))))
  (Fa (bq (V 0) (iV (own:=[("departures",14)]) rfl d5.nd (cy (wS (V 0) rfl)) (fx rfl) (λ_ _ _ _ _=>zG 14 d5) (λ_ _ _ _ _=>gn) (λ_ _ _ _ _=>a0 (r:=u0 K) FQ (by rfl) Ry Ea (UV (V 14) PP))) rfl))))))))) ?_
 have xs:∀ {H2:Hp}{o:HO},H2 x=some o->x∈([x]:List WF):=λ_=>by simp
 have O2:∀ {b:WF}{l:List W1},H b=some (.lst l)->b∉[x]:=λe=>by
  simp only[sc];intro z;rw[z,Pm]at e;cases e
 refine B rfl (IN OX _ O (.inl (TD.of OW)) (λc Qp=>?_));refine gJ rfl Pm Qp T.aS T.pH (by decide) λH1 QI OO Py=>?_;have QD:=(eh.start (lc Pm)).step QI (lc Pm) (lc Py) Qp (lc OO);refine⟨f4 _,λr Qr=>gJ rfl Py Qr T.aS T.iS (by show 1<1000;decide) λH2 Y OT Pz=>?_⟩;have QE:=QD.step Y (lc Py) (lc Pz) Qr (lc OT);refine⟨f4 _,λo no=>gJ rfl Pz no T.aS T.pI (by show 2<1000;decide) λOM ON PL PB=>?_⟩;have OS:=QE.step ON (lc Pz) (lc PB) no (lc PL);have sz:(chg.map W1.int).length<=Gc:=by rw[FM];exact ed (small (by have:=hA.n;lia))
 refine B rfl (zn OX O ⟨_,TD.of (OS.but _ _ OW (O2 OW))⟩ (λd nd=>?_));refine zW (λ_=>rfl) nd (TD.of (OS.but _ _ OW (O2 OW))) sz λO9 ds Ra Ri Qj Qh n4 D=>?_;have QF:([x]++[c]++[r]++[o]).Nodup:=OS.nd;have RB:O9 x=some _:=D _ _ PB;refine B rfl (bi x CN dx _ O RB T.aS T.hM (by show 3<1000;decide) ?_);have PK:∀b,b∈d::ds->OM b=none:=λb g=>by
  rcases rs.mp g with rfl|g
  ·exact nd
  ·exact n4 b g
 have xd:∀b,b∈d::ds->b≠x:=λb g z=>by have:=PK b g;rw[z,PB]at this;cases this
 generalize PR:Uf O9 x (.ins CN dx (rc "departures" (.ref d) (rc "origins" (.ref o) (rc "runs" (.ref r) (rc "changes" (.ref c) [])))))=A;have Qb:A x=some (.ins CN dx (rc "departures" (.ref d) (rc "origins" (.ref o) (rc "runs" (.ref r) (rc "changes" (.ref c) []))))):=by rw[<- PR];exact KE
 have Pa:Ch [x] OM A:=by rw[<- PR];exact(D.but _).put (by simp)
 have Qe:∀b,b≠x->A b=O9 b:=λb g=>by rw[<- PR];exact UF g
 have Qo:A OX=some (.lst (chg.map W1.int)):=Pa _ _ (OS.but _ _ OW (O2 OW)) (O2 OW);refine B rfl (zn OX O ⟨_,TD.of Qo⟩ (λOU Qq=>?_));refine zW (λ_=>rfl) Qq (TD.of Qo) sz λPD fs Rb Rl QR QO n5 Qv=>?_;have RD:PD x=some _:=Qv _ _ Qb;refine B rfl (bi x CN dx _ O RD T.aS T.m4 (by show 4<1000;decide) ?_);have PQ:∀b,b∈OU::fs->A b=none:=λb g=>by
  rcases rs.mp g with rfl|g
  ·exact Qq
  ·exact n5 b g
 have QA:∀b,b∈OU::fs->b≠x:=λb g z=>by have:=PQ b g;rw[z,Qb]at this;cases this
 generalize PU:Uf PD x (.ins CN dx (rc "footpaths" (.ref OU) (rc "departures" (.ref d) (rc "origins" (.ref o) (rc "runs" (.ref r) (rc "changes" (.ref c) []))))))=J;have RC:J x=some (.ins CN dx (nf c r o d OU)):=by rw[<- PU];exact KE
 have Pf:Ch [x] A J:=by rw[<- PU];exact(Qv.but _).put (by simp)
 have Qg:∀b,b≠x->J b=PD b:=λb g=>by rw[<- PU];exact UF g
 have Qw:∀b,b∈([x]++[c]++[r]++[o])->OM b≠none:=OS.there;have Rj:(([x]++[c]++[r]++[o])++(d::ds)).Nodup:=Ah QF Qw Ri PK;have Qx:∀b,b∈([x]++[c]++[r]++[o])++(d::ds)->A b≠none:=λb g=>by
  by_cases z:b=x
  ·rw[z,Qb];simp
  ·rw[Qe b z];rcases cs.mp g with g|g
   ·cases q:OM b with
    |none=>exact absurd q (Qw b g)
    |some u=>rw[D b u q];simp
   ·rcases rs.mp g with rfl|g
    ·rw[Qj];simp
    ·rw[Qh b g];simp
 have Rm:(([x]++[c]++[r]++[o])++(d::ds)++(OU::fs)).Nodup:=Ah Rj Qx Rl PQ;obtain⟨Rn,QM⟩:=Kq Rm;have P4:∀ {b:WF}{l:List W1}{Qd:Hp},Qd b=some (.lst l)->(∃fl,Qd x=some (.ins CN dx fl))->b∉[x]:=λe RG=>by
  obtain⟨fl,QP⟩:=RG;simp only[sc];intro z;rw[z,QP]at e;cases e
 have QL:J c=some (.lst (chg.map W1.int)):=by
  have m:=P4 OO ⟨_,Py⟩;exact Pf _ _ (Pa _ _ (ON _ _ (Y _ _ OO m) m) m) m
 have Ru:J r=some (.lst []):=by
  have m:=P4 OT ⟨_,Pz⟩;exact Pf _ _ (Pa _ _ (ON _ _ OT m) m) m
 have Ro:J o=some (.lst []):=by
  have m:=P4 PL ⟨_,PB⟩;exact Pf _ _ (Pa _ _ PL m) m
 have Qi:∀b,b∈d::ds->J b=O9 b:=λb g=>by
  have q:A b=O9 b:=Qe b (xd b g);cases z:O9 b with
  |none=>exact absurd (q.trans z) (Qx b (fY _ g))
  |some u=>exact Pf _ _ (q.trans z) (by simp only[sc];exact xd b g)
 let Pe:ay:=⟨x,dx,c,r,o,d,OU,ds,fs⟩
 have Qm:NB CN J Pe chg [] [] [] (λs=>dm (W.take 0) s):=by
  refine⟨Rn,RC,wl.mpr ⟨QM,QL⟩,(Ix ([]) Ru (.nil)),(Ix ([]) Ro (.nil)),(Qi d (kt ..)).trans Qj,Ra.trans (FM ..),λs a C=>Ix ([]) ((Qi a (o0 _ (pi C))).trans (Qh a (pi C))) (.nil),(Qg OU (QA OU (kt ..))).trans QR,Rb.trans (FM ..),λs a C=>Ix ([]) ((Qg a (QA a (o0 _ (pi C)))).trans (QO a (pi C))) (.nil)⟩
 have QH:Ch [x] H J:=(OS.but.tr Pa λb g=>.inl g).tr Pf λb g=>.inl g;have Ql:∀b,b∈Pe.own->b=x\/H b=none:=λb g=>by
  by_cases z:b=x
  ·exact .inl z
  ·refine .inr ?_;have OV:b∈([x]++[c]++[r]++[o])++(d::ds)++(OU::fs):=by
    simp only[ay.own,Pe,rs,cs,ir,g9]at g⊢;grind
   cases q:H b with
   |none=>rfl
   |some u=>
    exfalso;have m:b∉[x]:=by simpa using z
    rcases cs.mp OV with OV|OV
    ·rcases cs.mp OV with OV|OV
     ·rcases OS.fresh b OV with w|w
      ·exact z w
      ·rw[w]at q;cases q
     ·have:=PK b OV;rw[OS.but b u q m]at this;cases this
    ·have:=PQ b OV;rw[Pa b u (OS.but b u q m) m]at this;cases this
 obtain⟨Wp,QZ,fresh,QB⟩:∃Wp:ay,NB CN J Wp chg [] [] [] (λs=>dm (W.take 0) s)/\(∀b,b∈Wp.own->b=x\/H b=none)/\Wp.x=x:=zn Pe Qm Ql O;clear Qm Ql
 clear_value Pe
 subst QB;have P1:∀ {H2:Hp},Ch Wp.own J H2->Tl (hide [Wp.x] H) (hide Wp.own H2):=λ{H2} Y b u e=>by
  obtain⟨Px,O3⟩:=wl.mp e;have Qu:b∉Wp.own:=λz=>by
   rcases fresh b z with w|w
   ·exact Px (by simp[w])
   ·rw[w]at O3;cases O3
  exact wl.mpr ⟨Qu,Y b u (QH b u O3 Px) Qu⟩
 have Pc:∀ {H2:Hp},Ch Wp.own J H2->∀b u,H b=some u->b∉[Wp.x]->H2 b=some u:=λY b u e m=>b7 _ _ _ _ (P1 Y b u (wl.mpr ⟨m,e⟩));have Rc:PH.length=Z.length:=Paired.length Qt;refine B rfl (zn Pq O ⟨_,TD.of (Pc (Ch.rfl' _ _) _ _ Pt (O2 Pt))⟩ ?_)
 let PF:Nat->St->Hp->Prop:=λi ZB H2=>∃O4 O5 O6 O7 O8,ZB=[some (.ref Wp.x),some (.ref OX),some (.ref Pq),some (.ref Pd),O4,O5,O6,O7,O8,none,none,none,none,none,none]/\
   NB CN H2 Wp chg ((Z.take i).map λy=>(y.2.1,y.2.2.1)) ((Z.take i).map (·.1)) (ei ((Z.take i).map (·.2))) (λs=>dm (W.take 0) s)/\Ch Wp.own J H2
 refine gM (K:=K) (a:=Pq) (xs:=PH) PF
  (b0 none none none none none ⟨O,QZ,Ch.rfl' _ _⟩) (λi ZB H2 _ RH=>by obtain⟨_,_,_,_,_,_,_,Y⟩:=RH;exact TD.of (Pc Y _ _ Pt (O2 Pt))) ?_ ?_
 ·rintro i v ZB H2 hi ⟨O4,O5,O6,O7,O8,rfl,OY,Y⟩;obtain⟨y,OP,sa,QN,QX,⟨ta,rfl,Pl⟩,Q7,Q3,Q4⟩:=eu Qt hi;have Q5:i<Z.length:=(aD.mp OP).1;have Qc:=pi OP;have Q_:=P1 Y;refine g2 ta _ O (pm.of (b7 _ _ _ _ (Q_ _ _ Pl))) O (im _ _ O (im _ _ O (im _ _ O (im _ _ O (IN _ _ O O ?_)))));obtain⟨os,Ph,po⟩:=OY.aZ;have RV:os.length=i:=by rw[Paired.length po,FM,aP];lia
  refine B rfl (b' Wp.x CN Wp.dx _ _ O OY.ob T.aS T.pI O (.inl ⟨O,⟨_,TD.of Ph⟩⟩) (B rfl (zn _ O (by show 2<=Gc;decide) (λt O1=>?_))));have to:Wp.o≠t:=λz=>OY.there (b:=Wp.o) (by simp[ay.own]) (by rw[z];exact O1);refine bb Wp.o os _ O O ((UF to).trans Ph) (small (by have:=hA.runs;lia)) ?_;have p:=OY.K' O1 Ph y.1;have ON:Ch Wp.own J (Uf (Uf H2 t (.tup (j1 y.1))) Wp.o (.lst (os++[.ref t]))):=(Y.new O1).put (by simp[ay.own]);have PZ:=P1 ON;have PM:((Z.take i).map λy=>(y.2.1,y.2.2.1)).length=i:=by rw[FM,aP];lia
  have QS:(Z.map (·.2))[i]?=some y.2:=by rw[pr,OP];rfl
  have Qk:∀j,(Z.take j).map (·.2)=(Z.map (·.2)).take j:=λj=>by rw[nM]
  have zs:(ei ((Z.take i).map (·.2))).length+y.2.1.length<=1000000:=by
   have h1:=ye ((Z.take i).map (·.2));rw[ax]at h1;have h2:=rm (λy=>y.2.1.length) Z i;have RQ:=hA.calls;have RR:y.2.1.length<=(Z.map λy=>y.2.1.length).sum:=by
    have:=jR (Z.map λy=>y.2.1.length) i;rw[np,pr,OP]at this;exact this
   have RS:((Z.take i).map ((λx=>x.1.length)∘λx=>x.2)).sum=((Z.take i).map λy=>y.2.1.length).sum:=rfl;lia
  refine B rfl (nw Wp.x Wp.dx _ O p.ob O (B rfl (B rfl (B rfl ⟨Wp,chg,_,_,_,_,sa,QN,QX,y.2,O,p,PZ _ _ Q7,PZ _ _ Q3,PZ _ _ Q4,(hA.goes y Qc).1,(hA.goes y Qc).2.1,(hA.goes y Qc).2.2,by rw[PM];have:=hA.runs;lia,zs,λRN Q0 QJ=>?_⟩))));refine b0 _ _ _ _ _ ⟨O,?_,ON.tr QJ λb g=>.inl g⟩;have OO:(Z.take (i+1)).map (λy=>(y.2.1,y.2.2.1))=(Z.take i).map (λy=>(y.2.1,y.2.2.1))++[(y.2.1,y.2.2.1)]:=by rw[cB,OP,cK,bL];rfl
  have OT:(Z.take (i+1)).map (·.1)=(Z.take i).map (·.1)++[y.1]:=by rw[cB,OP,cK,bL];rfl
  rw[OO,OT,Qk,Fb QS,<-Qk,<-PM];have:=Q0;rw[PM]at this⊢;exact this
 ·rintro ZB H2 ⟨O4,O5,O6,O7,O8,rfl,OY,Y⟩;rw[Rc,dy]at OY;have RU:PJ.length=W.length:=Paired.length Qs;have Qz:Pd∉[Wp.x]:=O2 PX;refine B rfl (IN Pd _ O (.inl (TD.of (Pc Y _ _ PX Qz))) ⟨_,O,by lia,by have:=hA.walks.1;lia,?_⟩);have en:((PJ.length:Nat):Int).toNat=W.length:=by lia
  let PF:Nat->St->Hp->Prop:=λi ZB OM=>∃O4 O5 O6 O7 O8 Qa P8 P9 P_,ZB=[some (.ref Wp.x),some (.ref OX),some (.ref Pq),some (.ref Pd),O4,O5,O6,O7,O8,Qa,P8,P9,P_,none,none]/\
    NB CN OM Wp chg (Z.map λy=>(y.2.1,y.2.2.1)) (Z.map (·.1)) (ei (Z.map (·.2))) (λs=>dm (W.take i) s)/\Ch Wp.own J OM
  refine kY PF
   ⟨_,_,_,_,_,_,_,_,_,O,OY,Y⟩ ?_ ?_
  ·rintro i ZB OM hi ⟨O4,O5,O6,O7,O8,Qa,P8,P9,P_,rfl,p,ON⟩;have hi:i<W.length:=n' hi en;have QQ:(0:Int)+((i:Nat):Int)=((i:Nat):Int):=by lia
   show bh 9 (W1.int ((0:Int)+((i:Nat):Int))) _ _ _;rw[QQ];obtain⟨⟨st,go,mi⟩,hw⟩:∃y,W[i]?=some y:=⟨_,g1 hi⟩;obtain⟨RW,Q9,⟨ta,rfl,Pl⟩⟩:=c5 Qs hw;have tx:ta∉[Wp.x]:=by simp only[sc];intro z;rw[z,Pm]at Pl;cases Pl
   have Q8:st<chg.length:=hA.walks.2 _ (pi hw);refine B rfl (B rfl (Db Pd _ _ _ O O (TD.of (Pc ON _ _ PX Qz)) (lv Q9) (g2 ta _ O (pm.of (Pc ON _ _ Pl tx)) O (im _ _ O (im _ _ O (IN _ _ O O ?_))))));obtain⟨fa,Pg⟩:∃a,Wp.fs[st]?=some a:=⟨_,g1 (by rw[p.cY];exact Q8)⟩;obtain⟨es,O0,Po⟩:=p.ft _ fa Pg;refine B rfl (wv Wp.x CN Wp.dx _ _ O p.ob T.aS T.m4 O (B rfl (bi Wp.f _ _ _ O O (TD.of p.foot) (lv (show(Wp.fs.map W1.ref)[st]?=some (W1.ref fa) by rw[pr,Pg];rfl)) (.inl ⟨O,⟨_,TD.of O0⟩⟩) (B rfl (B rfl (zn _ O (by show 3<=Gc;decide) (λt O1=>?_)))))));have Rz:fa≠t:=λz=>p.there (lh Pg) (by rw[z];exact O1);have Rf:es.length<=1000000:=by
    have h1:es.length=_:=Paired.length Po;have h2:(dm (W.take i) st).length<=(W.take i).length:=by
     unfold dm;rw[FM];refine dz (ma ..) ?_;rw[Cy];exact tz _
    rw[aP]at h2;have:=hA.walks.1;lia
   refine bb fa es _ O O ((UF Rz).trans O0) (small Rf) ?_;refine⟨_,_,_,_,_,_,_,_,_,O,?_,(ON.new O1).put (lh Pg)⟩;have:=p.K_ O1 Pg O0 (go,mi,i);have QT:(λs=>dm (W.take (i+1)) s)=λs=>dm (W.take i) s++(if st=s then [(go,mi,i)]else []):=funext λs=>GW hw s;rw[QT];exact this
  ·rintro ZB OM ⟨O4,O5,O6,O7,O8,Qa,P8,P9,P_,rfl,p,ON⟩;rw[en,dy]at p;have Rh:=jv.of p.nd;refine B rfl (wv Wp.x CN Wp.dx _ _ O p.ob T.aS T.hM O (zn Wp.d O ⟨_,TD.of p.af⟩ (λOQ P2=>?_)));refine mT (xs:=Wp.ds.map W1.ref) (λi A=>∃(as:List WF) (U:List (List on)),as.length=i/\OQ∉as/\A OQ=some (.lst (as.map W1.ref))/\Paired (λa L=>∃es,A a=some (.lst es)/\Paired (λv e=>TupAt A v (aX e)) es L) as U/\(∀(s:Nat) (L:List on),U[s]?=some L->L.Perm (hJ (ei (Z.map (·.2))) s)/\L.Pairwise iM)/\Tl OM A)
    ⟨[],[],O,by simp,KE,.nil,λs L e=>by simp at e,Tl.new P2⟩ (λi A _ RI=>by obtain⟨_,_,_,_,_,_,_,D⟩:=RI;exact TD.of (D _ _ p.af)) ?_ ?_
   ·rintro i v A hi ⟨as,U,Pn,P5,OZ,Pb,Pr,D⟩;obtain⟨a,C,rfl⟩:∃a,Wp.ds[i]?=some a/\v=W1.ref a:=by
     rw[pr]at hi;cases q:Wp.ds[i]? with
     |none=>rw[q]at hi;cases hi
     |some a=>rw[q]at hi;cases hi;exact Ix a O O
    obtain⟨es,O0,Po⟩:=p.dep i a C;have RT:U.length=i:=by rw[<- Pn];exact(Paired.length Pb).symm
    refine⟨O,?_⟩;dsimp only[iZ];rw[No rfl];have Q5:i<1000000:=by
     have:=(aD.mp C).1;rw[p.e8]at this;have:=hA.n;lia
    refine B rfl ?_;dsimp only[j_];refine Lv (TD.of (D _ _ O0)) (aj (λ_ _ q=>(q.same (b7 _ _)).same D) Po) λPN QC q Rq Rw Rp Pj=>?_;have P6:OQ≠q:=λz=>by rw[z,Pj]at OZ;cases OZ
    have Rt:∀b,b∈as->b≠q:=λb g z=>by
     obtain⟨_,_,es,e,_⟩:=nh Pb g;rw[z,Pj]at e;cases e
    refine zn _ ((UF P6).trans OZ) (by rw[FM,Pn];exact small (by lia)) ⟨as++[q],U++[QC],by rw[ls,Pn];rfl,?_,by rw[KE,bL];rfl,?_,λs L e=>?_,λb u e=>?_⟩
    ·intro z;rcases cs.mp z with z|z
     ·exact P5 z
     ·simp only[sc]at z;exact P6 z
    ·refine Paired.snoc ?_ (Ix PN (by rw[UF (Ne.symm P6),KE]) (aj (λ_ _ z=>z.zQ Pj OZ) Rp));have:∀ {xs:List WF}{ys:List (List on)},(∀b,b∈xs->b≠q/\b≠OQ)->Paired (λa L=>∃es,A a=some (.lst es)/\Paired (λv e=>TupAt A v (aX e)) es L) xs ys->Paired (λa L=>∃es,(Uf (Uf A q (.lst PN)) OQ (.lst (as.map W1.ref++[W1.ref q]))) a=some (.lst es)/\Paired (λv e=>TupAt (Uf (Uf A q (.lst PN)) OQ (.lst (as.map W1.ref++[W1.ref q]))) v (aX e)) es L) xs ys:=by
      intro xs ys hm Pp
      induction Pp with
      |nil=>exact .nil
      |@cons b y xs ys r t PY=>
       obtain⟨es,OO,OT⟩:=r;obtain⟨m1,m2⟩:=hm b (kt ..);exact .cons (Ix es (by rw[UF m2,UF m1];exact OO) (aj (λ_ _ z=>z.zQ Pj OZ) OT)) (PY λc Q2=>hm c (o0 _ Q2))
     exact this (λb g=>⟨Rt b g,λz=>P5 (by rw[<- z];exact g)⟩) Pb
    ·by_cases Rr:s<U.length
     ·rw[ow Rr]at e;exact Pr s L e
     ·rw[ou (by lia)]at e;have QU:s-U.length=0:=by
       cases O3:s-U.length with
       |zero=>rfl
       |succ m=>rw[O3]at e;simp at e
      rw[QU]at e;cases e;have:s=i:=by lia
      subst this;exact⟨Rq,Rw⟩
    ·rw[UF (v0 e P2),UF (λz=>by have:=D b u e;rw[z,Pj]at this;cases this)];exact D b u e
   ·rintro A ⟨as,U,Pn,P5,OZ,Pb,Pr,D⟩;have RF:Wp.x≠OQ:=v0 p.ob P2;refine B rfl (bi Wp.x CN Wp.dx _ O (D _ _ p.ob) T.aS T.hM (by show 5<1000;decide) ?_);generalize Qn:Uf A Wp.x (.ins CN Wp.dx (rc "departures" (.ref OQ) (nf Wp.c Wp.r Wp.o Wp.d Wp.f)))=OR;have RE:OR Wp.x=some (.ins CN Wp.dx (nf Wp.c Wp.r Wp.o OQ Wp.f)):=by rw[<- Qn];exact KE
    have O_:∀b u,A b=some u->b≠Wp.x->OR b=some u:=λb u e m=>by rw[<- Qn,UF m];exact e
    have Qy:∀b u,hide Wp.own OM b=some u->OR b=some u:=λb u e=>by
     obtain⟨Px,O3⟩:=wl.mp e;exact O_ b u (D _ _ O3) λz=>Px (by rw[z];simp[ay.own])
    have P7:Tl (hide Wp.own OM) OR:=Qy;have RA:∀ {v:W1}{xs:List W1},TupAt A v xs->TupAt OR v xs:=λRJ=>by obtain⟨a,e,C⟩:=RJ;exact Ix a e (O_ _ _ C (λz=>by have q:=D _ _ p.ob;rw[z,q]at C;cases C))
    have Pw:∀b u,b∈Wp.own->b≠Wp.x->OM b=some u->OR b=some u:=λb u _ m e=>O_ b u (D _ _ e) m;obtain⟨Rv,PV,Pp⟩:=p.runs;obtain⟨os,Ph,po⟩:=p.aZ;have P0:U.length=chg.length:=by rw[<- Paired.length Pb,Pn,FM,p.e8]
    let N:Nt:=⟨chg,Z.map λy=>(y.2.1,y.2.2.1),U,(s4 chg.length).map λs=>dm W s,Z.map (·.1)⟩
    have Q1:ss chg (Z.map (·.2)) (Z.map (·.1)) W N:=by
     refine⟨O,O,by rw[ax];rfl,P0,by simp[N],λs Pk=>?_,λs Pk=>?_,λs Pk=>?_⟩
     ·have e:U[s]?=some (U.getD s []):=bW (by rw[P0];exact Pk) [];exact(Pr s _ e).1
     ·have e:U[s]?=some (U.getD s []):=bW (by rw[P0];exact Pk) [];exact(Pr s _ e).2
     ·show((s4 chg.length).map λs=>dm W s).getD s []=_;rw[np,pr,gy Pk];rfl
    have Pu:=λb (g:b=Wp.r\/b=Wp.o\/b=Wp.d\/b=Wp.f\/b∈Wp.ds\/b∈Wp.fs) (hm:b∈Wp.own)=>Ne.symm (Rh.x b hm g);have QY:f2 CN OR Wp.x N:=by
     refine⟨Wp.dx,Wp.c,Wp.r,Wp.o,OQ,Wp.f,Rv,os,as.map W1.ref,Wp.fs.map W1.ref,RE,Qy _ _ p.yT,Pw _ _ (by simp[ay.own]) (Pu _ (.inl rfl) (by simp[ay.own])) PV,aj (λv y q=>q.same P7) Pp,O_ _ _ OZ (Ne.symm RF),?_,Pw _ _ (by simp[ay.own]) (Pu _ (.inr (.inr (.inr (.inl rfl)))) (by simp[ay.own])) p.foot,?_,Pw _ _ (by simp[ay.own]) (Pu _ (.inr (.inl rfl)) (by simp[ay.own])) Ph,aj (λv y q=>q.same P7) po⟩
     ·have:∀ {xs:List WF}{ys:List (List on)},Paired (λa L=>∃es,A a=some (.lst es)/\Paired (λv e=>TupAt A v (aX e)) es L) xs ys->Paired (λv x=>∃es,LstAt OR v es/\Paired (λv e=>TupAt OR v (aX e)) es x) (xs.map W1.ref) ys:=by
       intro xs ys Pp
       induction Pp with
       |nil=>exact .nil
       |@cons b y xs ys r t PY=>
        obtain⟨es,OO,OT⟩:=r;exact .cons (Ix es (Ix b O (O_ _ _ OO (λz=>by have q:=D _ _ p.ob;rw[z,q]at OO;cases OO))) (aj (λ_ _ z=>RA z) OT)) PY
      exact this Pb
     ·refine uQ (by simp[N,p.cY]) λi v y hv OP=>?_;obtain⟨a,C,rfl⟩:∃a,Wp.fs[i]?=some a/\v=W1.ref a:=by
       rw[pr]at hv;cases q:Wp.fs[i]? with
       |none=>rw[q]at hv;cases hv
       |some a=>rw[q]at hv;cases hv;exact Ix a O O
      obtain⟨es,O0,Po⟩:=p.ft i a C;have Q6:i<chg.length:=by have:=(aD.mp C).1;rw[p.cY]at this;exact this
      have OP:((s4 chg.length).map λs=>dm W s)[i]?=some y:=OP;rw[pr,gy Q6]at OP;cases OP;exact Ix es (Ix a O (Pw _ _ (lh C) (Pu _ (.inr (.inr (.inr (.inr (.inr (pi C)))))) (lh C)) O0)) (aj (λ_ _ q=>q.same P7) Po)
    refine k OR N Q1 QY λb u e m=>?_;have Rg:b≠Wp.x:=by simpa using m
    exact O_ b u (D _ _ (Pc ON b u e m)) Rg)
end Dv
namespace L2
open PySem PySem.Spec PyProof.Rows
theorem y' {b:Type}{ix:Nat->Nat}{xs ys:List b}(h:∀k,k<ys.length->xs[ix k]?=ys[k]?):(s4 ys.length).filterMap (λk=>xs[ix k]?)=ys:=by(
rw[Tw.kT (g:=λk=>ys[k]?) λk a=>h k (bS.mp a)];clear h
induction ys with
|nil=>rfl
|cons y ys c=>
 rw[bt,List.range_succ_eq_map,hn];simp only[oy,sX]
 congr 1)
theorem p5 (xs:List W1):eM xs none none (some (-1))=xs.reverse:=by(
unfold eM;rw[NL];show(nT ((xs.length:Int)-1) (-1) (-1)).filterMap (xs[·]?)=_;rw[Nx,sX];have:=y' (ix:=λk=>xs.length-1-k) (xs:=xs) (ys:=xs.reverse) λk a=>by
 rw[fh]at a;rw[Cp a]
rw[fh]at this;exact this)
theorem zX{K:wf}{g:TG}{te:TE}{w:Hp->Prop}(f:W1->List W1) (A:H1 D=none) (J:TD K H1 a xs) (hz:xs.length<=Gc)
  (step:∀x,x∈xs->∀(H:Hp) (Q:VK),Tl H1 H->(∀p,H p=none->Q (.ref p) (Uf H p (.tup (f x))))->g x (nm ZB vs) H λj H2=>nm j vs=nm ZB vs/\te j H2 Q)
  (post:∀(H:Hp) (as:List WF),as.length=xs.length->H D=some (.lst (as.map W1.ref))->Paired (λa x=>H a=some (.tup (f x))) as xs->Tl H1 H->(∀b,b∈as->H1 b=none)->w H):
  ∃W:Nat->Nat->Hp->Prop,(∃m,W 0 m (Uf H1 D (.lst [])))/\∀i m H,W i m H->
   ((cO K a).stop i H/\w H)\/((cO K a).go i H/\∃n:Hp->Prop,(∀I,n I->∃C,C<m/\W (i+1) C I)/\∀x I,(cO K a).eQ i H x I->g x (nm ZB vs) I λj H2=>nm j vs=nm ZB vs/\iZ j H2 λb t=>
    if b=true then te j t λy u=>∃acc,u D=some (.lst acc)/\acc.length<Gc/\n (Uf u D (.lst (acc++[y])))else n t):=by(
refine mT (xs:=xs) (λi H=>∃as:List WF,as.length=i/\H D=some (.lst (as.map W1.ref))/\Paired (λa x=>H a=some (.tup (f x))) as (xs.take i)/\Tl H1 H/\∀b,b∈as->H1 b=none) ⟨[],O,KE,.nil,Tl.new A,λb c=>by simp at c⟩
 (λi H _ L=>by obtain⟨_,_,_,_,s,_⟩:=L;exact J.same s) ?_ (λH N=>by obtain⟨as,q,d,k,h,r⟩:=N;exact post H as q d (by rw[dy]at k;exact k) h r)
rintro i x H hi ⟨as,q,d,k,h,r⟩;have T:i<xs.length:=(aD.mp hi).1;refine step x (pi hi) H _ h λp l=>?_;have E:D≠p:=λz=>by rw[z,l]at d;cases d
refine zn (as.map W1.ref) ((UF E).trans d) (by rw[FM];lia) ⟨as++[p],by rw[ls,q];rfl,by rw[KE,bL];rfl,?_,λb o e=>?_,λb c=>?_⟩
·rw[cB,hi,cK];refine Paired.snoc (Dv.aj (λb y e=>?_) k) (by rw[UF (Ne.symm E),KE]);rw[UF (λz=>by rw[z,d]at e;cases e),UF (v0 e l)];exact e
·rw[UF (v0 e A),UF (λz=>by have:=h b o e;rw[z,l]at this;cases this)];exact h b o e
·rcases cs.mp c with c|c
 ·exact r b c
 ·simp only[sc]at c;rw[c];exact h.free l)
end L2
namespace Dv
open PySem L2 Tw
variable {P:fr}{w:kw}{K:wf}{mg:Str->Option Tk}{base:s2}{CP CN CS CL CG:WF}
def kc (H:Hp) (v:W1):List W1:=match v with
 |.ref a=>match H a with
  |some (.tup xs)=>xs
  |_=>[]
 |_=>[]
noncomputable def ro:List W1->List W1
 |[a,b,c]=>[b,a,c]
 |l=>l
def Af:W1->W1
 |.int i=>.int (-i)
 |v=>v
theorem AS{l:List Int}(h0:ZB[j]?=some (some (.ref a))) (h:TD K H a (l.map W1.int)) (hz:l.length<=Gc) (hv:∀x,nm ((nm ZB [v]).set v (some x)) [v]=nm ZB [v]) (hg:∀x,((nm ZB [v]).set v (some x))[v]?=some (some x))
  (k:∀p D,H p=none->H D=none->D≠p->Q (.ref D) (Uf (Uf H p (.lst (l.map W1.int).reverse)) D (.lst ((l.reverse.map λx=> -x).map W1.int)))):
  lH (ui K (vQ K (bZ j) rx rx (ry (vR (rU λi=>.int (-i)) (tC (.int 1)))))) (bh v) iZ (vR (rU λi=>.int (-i)) (bZ v)) [v] ZB H Q:=by(
refine B h0 (B rfl (B rfl ⟨a,_,O,h,(by intro z;cases z),?_,λp m=>?_⟩))
·show(eM (l.map W1.int) none none (some (-1))).length<=Gc;rw[p5,fh,FM];exact hz
·show ∃b,W1.ref p=W1.ref b/\_;have e:eM (l.map W1.int) none none (some (-1))=(l.map W1.int).reverse:=p5 _;rw[e];refine zn p O ⟨_,TD.of KE⟩ (λD c=>?_);have d:D≠p:=λz=>by rw[z,KE]at c;cases c
 refine pj Af c (TD.of KE) (by rw[fh,FM];exact hz) (λx f H2 o q n=>?_) ?_
 ·rw[wo,mo]at f;obtain⟨i,_,rfl⟩:=f;exact⟨hv _,B (hg _) (Ix i O n)⟩
 ·have g:(l.map W1.int).reverse.map Af=(l.reverse.map λx=> -x).map W1.int:=by
   rw[<- CB,ax,ax];rfl
  rw[g];exact k p D m (by rw[UF d]at c;exact c) d)
def gc (y:(Nat×Int)×aQ):(Nat×Int)×aQ:=(y.1,ut y.2)
def vA (CN:WF):Sp:=λvs H Q _=>∃(c d e:WF) (chg:List Int) (Z:List ((Nat×Int)×aQ)) (a b:List W1) (W:List Wk),vs=[.ref c,.ref d,.ref e]/\H c=some (.lst (chg.map W1.int))/\H d=some (.lst a)/\Paired (gb H) a Z/\
 H e=some (.lst b)/\Paired (oR H) b W/\oK chg Z W/\(∀y,y∈Z->y.2.2.1.length=y.2.1.length)/\(∀w,w∈W->w.2.1<chg.length)/\(∀y,y∈Z->y.2.1.length<=1000000)/\
 ∀(I:Hp) (n:WF) (N:Nt),ss chg ((Z.map (·.2)).map ut) (Z.map (·.1)) (W.map bD) N->f2 CN I n N->Tl H I->Q (.ref n) I
theorem ez:pu ["changes","runs","walks","runs_back","trip","begins","stops","comes","goes","came","gone","walks_back","go","come","start","goal","minutes"] zat (s1 qI):=nb rfl rfl rfl (by decide +kernel)
theorem JU(F:sB K "mirrored_network" "mirrored_network" qI f fd) (T:bg K mg CS CN) (Qb:mg "Network"=some (.ref CN)) (TW:Mk K CN PN)
  (Py:AC P w K mg base xL 2 PN PQ zak (rg CN)) (PB:Binds K PQ zak []):AC P w K mg base xL 4 f fd zat (vA CN):=by(
refine F.ar ez (λvs H Q E h=>?_) (λQv Qq outer s0 H vs Q E P2 h=>?_)
·refine pW h λOX OS Pc chg Z OU Ph W Qo=>?_;obtain⟨rfl,_⟩:=Qo;rfl
·intro Qs;refine pW h λOX OS Pc chg Z OU Ph W Qp=>?_;obtain⟨rfl,PY,Po,Pw,Pp,O2,hA,Pn,P8,hsz,k⟩:=Qp;refine B (On (zS 3 ez (db PP))
  (On (cH bN rfl (cy (V 1)) (cw rfl (re (zG 4 ez) (re (zG 5 ez) (re (zG 6 ez) (re (zG 7 ez) (re (zG 8 ez) cx))))))
   (On (p6 (i:=9) (own:=[("go",12)]) rfl ez.nd rfl rfl rfl (cy (lq (V 8) fI fI (d2 (eL eP EQ)))) (fx rfl) (λ_ _ _ _ _=>zG 12 ez) (λ_ _ _ _ _=>gn) (λ_ _ _ _ _=>eL eP (V 12)))
   (On (p6 (i:=10) (own:=[("come",13)]) rfl ez.nd rfl rfl rfl (cy (lq (V 7) fI fI (d2 (eL eP EQ)))) (fx rfl) (λ_ _ _ _ _=>zG 13 ez) (λ_ _ _ _ _=>gn) (λ_ _ _ _ _=>eL eP (V 13)))
   (Fa (ca (cG cm da dc cZ (V 3) (UV (bY (UV (V 4) (UV (V 5) (UV (lq (V 6) fI fI (d2 (eL eP EQ))) (UV (V 9) (UV (V 10) PP)))))) PP)))))))
  (On (p6 (i:=11) (own:=[("start",14),("goal",15),("minutes",16)]) (g:=uc K 3 (k1 (bh 14) (k1 (bh 15) (k1 (bh 16) ua)))) rfl ez.nd rfl rfl rfl (cy (V 2)) (fx rfl) (λ_ _ _ _ _=>cw rfl (re (zG 14 ez) (re (zG 15 ez) (re (zG 16 ez) cx)))) (λ_ _ _ _ _=>gn) (λ_ _ _ _ _=>bY (UV (V 15) (UV (V 14) (UV (V 16) PP)))))
  (Fa (tt (hP TW Py (P2.mono) rfl Qb PB .nil ws (UV (V 0) (UV (V 3) (UV (V 11) PP))))))))) ?_
 refine⟨f4 _,λb O1=>?_⟩;have sz:∀ {m:Nat},m<=1000000->m<=Gc:=λh=>ed (small h);have P_:OU.length=Z.length:=Paired.length Pw;refine B rfl (zn OS O ⟨_,TD.of ((Tl.new O1) _ _ Po)⟩ ?_)
 let Pz:Nat->St->Hp->Prop:=λi ZB H2=>∃O7 O8 O9 O_ Pa Pb O6 bs,ZB=[some (.ref OX),some (.ref OS),some (.ref Pc),some (.ref b),O7,O8,O9,O_,Pa,Pb,O6,none,none,none,none,none,none]/\H2 b=some (.lst bs)/\Paired (gb (hide [b] H2)) bs ((Z.take i).map gc)/\Tl H H2
 refine gM (K:=K) (a:=OS) (xs:=OU) Pz
  (fc none none none none none none none ([]) ⟨O,KE,.nil,Tl.new O1⟩) (λi ZB H2 _ Qn=>by obtain⟨_,_,_,_,_,_,_,_,_,_,_,d⟩:=Qn;exact TD.of (d _ _ Po)) ?_ ?_
 ·rintro i v ZB H2 hi ⟨O7,O8,O9,O_,Pa,Pb,O6,bs,rfl,C,D,d⟩;obtain⟨y,r,sa,Qw,Qy,⟨ta,rfl,P6⟩,P4,PZ,P0⟩:=eu Pw hi;have Qz:i<Z.length:=(aD.mp r).1;have Pd:=pi r;have Qm:=hsz y Pd;have QC:=Pn y Pd;have QD:=(hA.goes y Pd).1;refine g2 ta _ O (pm.of (d _ _ P6)) O (im _ _ O (im _ _ O (im _ _ O (im _ _ O (IN _ _ O O ?_)))));simp only[lI,h3];refine AS (j:=8) (v:=12) ?h0 (TD.of (d _ _ P0)) (sz (by lia)) ?hv ?hg λQi J Qg O0 Qd=>?_
  case h0=>rfl
  case hv=>exact λ_=>rfl
  case hg=>exact λ_=>rfl
  generalize Pj:Uf (Uf H2 Qi (.lst (y.2.2.2.map W1.int).reverse)) J (.lst ((y.2.2.2.reverse.map λx=> -x).map W1.int))=l;have o:Tl H2 l:=by rw[<- Pj];exact(Tl.new Qg).tr (Tl.new (by rw[UF Qd];exact O0))
  have PL:l J=some (.lst ((y.2.2.2.reverse.map λx=> -x).map W1.int)):=by rw[<- Pj];exact KE
  simp only[bh,lI,h3];refine AS (j:=7) (v:=13) ?h0 (TD.of (o _ _ (d _ _ PZ))) (sz (by lia)) ?hv ?hg λp2 L Qh Pr Qe=>?_
  case h0=>rfl
  case hv=>exact λ_=>rfl
  case hg=>exact λ_=>rfl
  generalize Pk:Uf (Uf l p2 (.lst (y.2.2.1.map W1.int).reverse)) L (.lst ((y.2.2.1.reverse.map λx=> -x).map W1.int))=s;have p:Tl l s:=by rw[<- Pk];exact(Tl.new Qh).tr (Tl.new (by rw[UF Qe];exact Pr))
  have PM:s L=some (.lst ((y.2.2.1.reverse.map λx=> -x).map W1.int)):=by rw[<- Pk];exact KE
  have OT:Tl H2 s:=o.tr p;have OQ:s b=some (.lst bs):=OT _ _ C;have QA:bs.length=i:=by rw[Paired.length D,FM,aP];lia
  refine zn _ O (.inl ⟨O,⟨_,TD.of OQ⟩⟩) (B rfl (B rfl (B rfl (B rfl (B rfl ⟨sa,_,O,TD.of (OT _ _ (d _ _ P4)),(by intro z;cases z),?_,λY Pt=>?_⟩)))))
  ·show(eM (y.2.1.map Rs) none none (some (-1))).length<=Gc;rw[p5,fh,FM];exact sz Qm
  have PH:eM (y.2.1.map Rs) none none (some (-1))=(y.2.1.reverse).map Rs:=by rw[p5,CB]
  refine B rfl (zn _ O (by show 5<=Gc;decide) (λt U=>?_));have PJ:eM (y.2.1.map Rs) none none (some (-(1:Int)))=(y.2.1.reverse).map Rs:=PH;rw[PJ]at U⊢;have Px:Y≠t:=λz=>by rw[<- z,KE]at U;cases U
  have Pu:s t=none:=by rw[UF (Ne.symm Px)]at U;exact U
  have OV:b≠Y:=v0 OQ Pt;have OW:b≠t:=v0 OQ Pu;refine bb b bs _ O O (by rw[UF OW,UF OV];exact OQ) (small (by have:=hA.runs;lia)) ?_;generalize OP:Uf (Uf (Uf s Y (.lst (y.2.1.reverse.map Rs))) t (.tup [Rs y.1.1,.int y.1.2,.ref Y,.ref J,.ref L])) b (.lst (bs++[W1.ref t]))=A;have OO:∀c u,s c=some u->c≠b->A c=some u:=λc u e m=>by rw[<- OP,UF m,UF (v0 e Pu),UF (v0 e Pt)];exact e
  have P1:Tl (hide [b] H2) (hide [b] A):=λc u e=>by
   obtain⟨O3,O4⟩:=wl.mp e;exact wl.mpr ⟨O3,OO c u (OT _ _ O4) (by simpa using O3)⟩
  have Pf:J≠b:=λz=>by rw[z,C]at O0;cases O0
  have Pg:L≠b:=λz=>by have:=o _ _ C;rw[<- z,Pr]at this;cases this
  have OR:∀ {c:WF},c≠b->c∉[b]:=λm=>by simpa using m
  have PK:A b=some (.lst (bs++[W1.ref t])):=by rw[<- OP];exact KE
  have new:gb (hide [b] A) (W1.ref t) (gc y):=by
   refine nw Y J L (Ix t O (wl.mpr ⟨OR (Ne.symm OW),?_⟩)) (wl.mpr ⟨OR (Ne.symm OV),?_⟩) (wl.mpr ⟨OR Pf,?_⟩) (wl.mpr ⟨OR Pg,?_⟩)
   ·rw[<- OP,UF (Ne.symm OW),KE];rfl
   ·rw[<- OP,UF (Ne.symm OV),UF Px,KE];rfl
   ·exact OO _ _ (p _ _ PL) Pf
   ·exact OO _ _ PM Pg
  refine fc _ _ _ _ _ _ _ (bs++[W1.ref t]) ⟨O,PK,?_,λc u e=>OO c u (OT _ _ (d _ _ e)) (v0 e O1)⟩;rw[cB,r,cK,bL];exact Paired.snoc (aj (λ_ _ q=>q.same P1) D) new
 ·rintro ZB H2 ⟨O7,O8,O9,O_,Pa,Pb,O6,bs,rfl,C,D,d⟩;rw[P_,dy]at D;refine B rfl (zn Pc O ⟨_,TD.of (d _ _ Pp)⟩ (λPe Pq=>?_));have P9:Ph.length=W.length:=Paired.length O2;refine zX (λv=>ro (kc H2 v)) Pq (TD.of (d _ _ Pp)) (sz (by have:=hA.walks.1;lia)) (λv hv l Qr o OM=>?_) λl as Qa PV Qk o Qx=>?_
  ·obtain⟨ON,_,a,rfl,OY⟩:=nh O2 hv;have Pm:=d _ _ OY;have e:ro (kc H2 (.ref a))=[Rs ON.2.1,Rs ON.1,.int ON.2.2]:=by simp[kc,Pm,ro]
   rw[e]at OM;refine g2 a _ O (pm.of (o _ _ Pm)) O (im _ _ O (im _ _ O (g2 _ _ O O O (B rfl (B rfl (zn _ O (by show 3<=Gc;decide) OM))))))
  have Qu:b≠Pe:=v0 C Pq;have O5:Tl H l:=d.tr o;refine B rfl (B rfl (B rfl (λx dx nx Qc ne=>?_)));have p:Tl l (Uf (Uf l dx (.own x)) x (.ins CN dx [])):=(Tl.new Qc).tr (Tl.new (by rw[UF (Ne.symm ne)];exact nx));have Ql:Tl (hide [b] H2) (hide [x] (Uf (Uf l dx (.own x)) x (.ins CN dx []))):=λc u e=>by
   obtain⟨O3,O4⟩:=wl.mp e;have OM:=o _ _ O4;exact wl.mpr ⟨by simpa using v0 OM nx,p _ _ OM⟩
  have Qj:Paired (oR (Uf (Uf l dx (.own x)) x (.ins CN dx []))) (as.map W1.ref) (W.map bD):=by
   refine uQ (by rw[FM,FM,Qa,P9]) λi v y hv r=>?_;obtain⟨a,OY,rfl⟩:∃a,as[i]?=some a/\v=W1.ref a:=by
    rw[pr]at hv;cases q:as[i]? with
    |none=>rw[q]at hv;cases hv
    |some a=>rw[q]at hv;cases hv;exact Ix a O O
   obtain⟨QB,P7,e⟩:=eu Qk OY;obtain⟨ON,OZ,Qt,rfl,PX⟩:=eu O2 P7;rw[pr,OZ]at r;cases r;refine Ix a O (p _ _ ?_);rw[e];simp[kc,d _ _ PX,ro,bD]
  have PR:oK chg (Z.map gc) (W.map bD):=by
   refine⟨hA.n,by rw[FM];exact hA.runs,?_,λy r=>?_,by rw[FM];exact hA.walks.1,λON OZ=>?_⟩
   ·rw[ax];have:((λy:(Nat×Int)×aQ=>y.2.1.length)∘gc)=λy=>y.2.1.length:=funext λy=>by simp[gc,ut]
    rw[this];exact hA.calls
   ·obtain⟨z,hz,rfl⟩:=mo.mp r;have h1:=hA.goes z hz;refine⟨by simp[gc,ut,Pn z hz],by simp only[gc,ut,fh];exact h1.2.1,λst P5=>h1.2.2 st (by simpa [gc,ut]using P5)⟩
   ·obtain⟨z,hz,rfl⟩:=mo.mp OZ;exact P8 z hz
  refine⟨x,dx,OX,b,Pe,chg,Z.map gc,bs,as.map W1.ref,W.map bD,O,KE,p _ _ (O5 _ _ PY),p _ _ (o _ _ C),aj (λ_ _ q=>q.same Ql) D,p _ _ PV,Qj,PR,λA N Pl PU hB=>⟨O,?_⟩⟩;refine k A x N ?_ PU λc u e=>hB c u (p _ _ (O5 _ _ e)) (by simpa using v0 (O5 _ _ e) nx);have PD:(Z.map gc).map (·.2)=(Z.map (·.2)).map ut:=by rw[ax,ax];rfl
  have PF:(Z.map gc).map (·.1)=Z.map (·.1):=by rw[ax];rfl
  rw[PD,PF]at Pl;exact Pl)
structure PA where
 x:WF
 dx:WF
 c:WF
 t:WF
 w:WF
 l:WF
 n:WF
noncomputable def PA.own (A:PA):List WF:=[A.x,A.c,A.t,A.w,A.l,A.n]
noncomputable def pf (c t w l n:WF):List (Str×W1):=[("changes",.ref c),("trips",.ref t),("walks",.ref w),("lateness",.ref l),("networks",.ref n)]
def kK (G:Hp) (v:W1) (p:bu):Prop:=∃s b g,TupAt G v [Rs p.days,.ref s,.ref b,.ref g]/\G s=some (.lst (p.calls.map λa=>Rs a.halt))/\G b=some (.lst (p.calls.map λa=>Rs a.comes))/\G g=some (.lst (p.calls.map λa=>Rs a.goes))
def jz (G:Hp) (v:W1) (w:Sg45.Walk):Prop:=TupAt G v [Rs w.from_,Rs w.to,Rs w.minutes]
def ju (G:Hp) (o:Option W1) (x:Nat×Nat):Prop:=match o with
 |none=>x=(0,0)
 |some v=>TupAt G v [Rs x.1,Rs x.2]
def el (i d:Nat):List sw:=[ii (i:Int),ii (d:Int)]
structure kG (G:Hp) (lk:List (List sw×W1)) (ts:List bu):Prop where
 at_:∀(i d:Nat) (p:bu),ts[i]?=some p->d<7->ju G (io lk (el i d)) (p.late.getD d (0,0))
 no:∀(i d:Nat),ts.length<=i->io lk (el i d)=none
def ck (z:Str) (d:Nat):List sw:=[jf z,ii (d:Int)]
structure cd (CP CN:WF) (H:Hp) (A:PA) (T:t1) (m:Nat):Prop where
 nd:A.own.Nodup
 ob:H A.x=some (.ins CP A.dx (pf A.c A.t A.w A.l A.n))
 chg:H A.c=some (.lst (T.stops.map Rs))
 trips:∃ts,H A.t=some (.lst ts)/\Paired (kK (hide A.own H)) ts T.trips
 walks:∃e,H A.w=some (.lst e)/\Paired (jz (hide A.own H)) e T.walks
 late:∃lk,H A.l=some (.dT lk)/\lk.length<=m/\kG (hide A.own H) lk T.trips
 bo:∃b,H A.n=some (.dT b)/\b.length<=2*m/\∀(d:Nat),d<7->(∀v,io b (ck "forward" d)=some v->∃a N,v=W1.ref a/\f2 CN H a N/\ss (up T) (wT T d) (lm T d) (ol T) N)/\
  ∀v,io b (ck "mirrored" d)=some v->∃a N,v=W1.ref a/\f2 CN H a N/\ss (up T) ((wT T d).map ut) (lm T d) ((ol T).map bD) N
theorem kK.same(s:Tl G G') (h:kK G v p):kK G' v p:=by obtain⟨a,b,c,d,e,f,g⟩:=h;exact(nw a b c (d.same s) (s _ _ e) (s _ _ f) (s _ _ g))
theorem jz.same(s:Tl G G') (h:jz G v p):jz G' v p:=TupAt.same s h
theorem ju.same(s:Tl G G') (h:ju G o x):ju G' o x:=by(
cases o with
|none=>exact h
|some v=>exact TupAt.same s h)
theorem kG.same(s:Tl G G') (h:kG G lk ts):kG G' lk ts:=⟨λi d p a b=>(h.at_ i d p a b).same s,h.no⟩
section
variable {CP CN:WF}{H I:Hp}{A:PA}{T:t1}{m:Nat}
theorem cd.more(h:cd CP CN H A T m) (hm:m<=d):cd CP CN H A T d:=by
 obtain⟨lk,h1,h2,a⟩:=h.late;obtain⟨e,b,f,c⟩:=h.bo;exact {h with late:=zn lk h1 (by lia) a,bo:=zn e b (by lia) c}
theorem cd.same (h:cd CP CN H A T m) (s:Tl H I):cd CP CN I A T m:=by(
have c:Tl (hide A.own H) (hide A.own I):=λb o e=>by
 obtain⟨k,l⟩:=wl.mp e;exact wl.mpr ⟨k,s _ _ l⟩
obtain⟨ts,u,x⟩:=h.trips;obtain⟨C,y,z⟩:=h.walks;obtain⟨lk,h1,h2,n⟩:=h.late;obtain⟨t,p,r,j⟩:=h.bo;exact⟨h.nd,s _ _ h.ob,s _ _ h.chg,(Ix ts (s _ _ u) (aj (λ_ _ q=>q.same c) x)),(Ix C (s _ _ y) (aj (λ_ _ q=>q.same c) z)),(zn lk (s _ _ h1) h2 (n.same c)),(zn t (s _ _ p) r (λd hd=>⟨λv e=>by obtain⟨a,N,f,g,i⟩:=(j d hd).1 v e;exact(IN a N f (g.same s) i),λv e=>by obtain⟨a,N,f,g,i⟩:=(j d hd).2 v e;exact(IN a N f (g.same s) i)⟩))⟩)
theorem cd.there(h:cd CP CN H A T m) (a:b∈A.own):H b≠none:=by(
simp only[PA.own,rs,ir,g9]at a;rcases a with rfl|rfl|rfl|rfl|rfl|rfl
·rw[h.ob];simp
·rw[h.chg];simp
·obtain⟨_,e,_⟩:=h.trips;rw[e];simp
·obtain⟨_,e,_⟩:=h.walks;rw[e];simp
·obtain⟨_,e,_⟩:=h.late;rw[e];simp
·obtain⟨_,e,_⟩:=h.bo;rw[e];simp)
theorem lj (h:A.own.Nodup) (i j:Nat) (e:decide (i<6/\j<6/\i≠j)=true):A.own[i]'(gB e).1≠A.own[j]'(gB e).2.1:=Ad h i j _ _ (gB e).2.2
theorem cd.build(h:cd CP CN H A T m) (s:Tl (hide A.own H) (hide A.own I)) (ob:I A.x=H A.x) (chg:I A.c=some (.lst (T'.stops.map Rs))) (trips:∃ts,I A.t=some (.lst ts)/\Paired (kK (hide A.own I)) ts T'.trips)
  (walks:∃a,I A.w=some (.lst a)/\Paired (jz (hide A.own I)) a T'.walks) (late:∃lk,I A.l=some (.dT lk)/\lk.length<=b/\kG (hide A.own I) lk T'.trips)
  (bo:I A.n=some (.dT [])):cd CP CN I A T' b:=
 ⟨h.nd,ob.trans h.ob,chg,trips,walks,late,(zn ([]) bo (f4 _) (λd _=>⟨λv e=>by simp[io]at e,λv e=>by simp[io]at e⟩))⟩
end
structure bV (K:wf) (mg:Str->Option Tk) (CP:WF):Prop where
 cl:cE K CP
 chg:ao K CP "changes"
 trips:ao K CP "trips"
 walks:ao K CP "walks"
 late:ao K CP "lateness"
 bo:ao K CP "networks"
 len:mg "len"=none
 range:mg "range"=none
 zip:mg "zip"=none
 c2:a_ mg "OUT_OF_RANGE" (-2)
 c4:a_ mg "CANNOT_RUN" (-4)
 c8:a_ mg "FULL" (-8)
 ms:a_ mg "MOST_STOPS" 256
 mt:a_ mg "MOST_TRIPS" 1024
 mw:a_ mg "MOST_WALKS" 4096
 md:a_ mg "MINUTES_OF_A_DAY" 1440
 mi:a_ mg "MINUTES_TOLD" 2880
 dw:a_ mg "DAYS_OF_A_WEEK" 7
theorem j3{K:wf}{lo:Int}(a:∀R:VK,R (.int d) H->tb ZB H R) (k:Q (.bl (decide (lo<=d)&&decide (d<=hi))) H):rq (d3 λi j=>.bl (decide (i<=j))) (d3 λi j=>.bl (decide (i<=j))) (tC (.int lo)) tb (tC (.int hi)) ZB H Q:=by(
refine a _ (IN _ _ O O (B rfl ?_));by_cases h0:lo<=d
·rw[No (sK h0)];rw[sK h0]at k;exact IN _ _ O O k
·rw[Ps (by simpa using h0)];rw[sn h0]at k;exact k)
theorem p7{K:wf}{lo:Int}(a:∀R:VK,R (.int d) H->tb ZB H R) (b:∀R:VK,R (.int hi) H->tc ZB H R) (k:Q (.bl (decide (lo<=d)&&decide (d<hi))) H):rq (d3 λi j=>.bl (decide (i<=j))) (d3 λi j=>.bl (decide (i<j))) (tC (.int lo)) tb tc ZB H Q:=by(
refine a _ (IN _ _ O O (B rfl ?_));by_cases h0:lo<=d
·rw[No (sK h0)];rw[sK h0]at k;exact b _ (IN _ _ O O k)
·rw[Ps (by simpa using h0)];rw[sn h0]at k;exact k)
def rd:Sp:=λvs H Q _=>∃(d:Int),vs=[.int d]/\Q (.bl (decide (0<=d)&&decide (d<7))) H
theorem L':pu ["day"] ["day"] (s1 qA):=nb rfl rfl rfl (by decide +kernel)
theorem JN(F:sB K "is_day" "is_day" qA f fd) (T:bV K mg CP):AC P w K mg base xL 1 f fd ["day"] rd:=by(
refine F.ar L' (λvs H Q E h=>?_) (λb A outer s H vs Q E c h=>?_)
·obtain⟨d,rfl,_⟩:=h;rfl
·intro a;obtain⟨d,rfl,k⟩:=h;exact B (Fa (tt (p3 cv d1 EQ (V 0) (nl T.dw rfl)))) (p7 (K:=K) (λR q=>B rfl q) (λR q=>q) k))
def rf:Sp:=λvs H Q _=>∃(d:Int),vs=[.int d]/\Q (.bl (decide (0<=d)&&decide (d<2880))) H
theorem Ma:pu zao zao (s1 qB):=nb rfl rfl rfl (by decide +kernel)
theorem JO(F:sB K "is_minute" "is_minute" qB f fd) (T:bV K mg CP):AC P w K mg base xL 1 f fd zao rf:=by(
refine F.ar Ma (λvs H Q E h=>?_) (λb A outer s H vs Q E c h=>?_)
·obtain⟨d,rfl,_⟩:=h;rfl
·intro a;obtain⟨d,rfl,k⟩:=h;exact B (Fa (tt (p3 cv d1 EQ (V 0) (nl T.mi rfl)))) (p7 (K:=K) (λR q=>B rfl q) (λR q=>q) k))
def j9:Sp:=λvs H Q _=>∃(d:Int),vs=[.int d]/\Q (.bl (decide (0<=d)&&decide (d<=4096))) H
theorem Mb:pu zai zai (s1 qC):=nb rfl rfl rfl (by decide +kernel)
theorem JP(F:sB K "is_most" "is_most" qC f fd) (c:a_ mg "MOST_ROWS" 4096):AC P w K mg base xL 1 f fd zai j9:=by(
refine F.ar Mb (λvs H Q E h=>?_) (λb A outer s H vs Q E e h=>?_)
·obtain⟨d,rfl,_⟩:=h;rfl
·intro a;obtain⟨d,rfl,k⟩:=h;exact B (Fa (tt (p3 cv cv EQ (V 0) (nl c rfl)))) (j3 (K:=K) (λR q=>B rfl q) k))
def rb (CP CN:WF):Sp:=λvs H Q _=>∃(A:PA) (T:t1) (m:Nat) (d:Int),vs=[.ref A.x,.int d]/\cd CP CN H A T m/\Q (.bl (decide (0<=d)&&decide (d<(T.stops.length:Int)))) H
theorem L_:pu zal zal (s1 qz):=nb rfl rfl rfl (by decide +kernel)
theorem JM(F:sB K "has_stop" "Plan.has_stop" qz f fd) (T:bV K mg CP):AC P w K mg base xL 1 f fd zal (rb CP CN):=by(
refine F.ar L_ (λvs H Q E h=>?_) (λl i outer s H vs Q E n h=>?_)
·refine j0 h λA a m d e _=>?_;subst e;rfl
·intro j;refine Km h λA a m d g=>?_;obtain⟨rfl,b,k⟩:=g;refine B (Fa (tt (p3 cv d1 EQ (V 1) (a0 b6 (by rfl) T.len b1 (UV (wS (V 0) rfl) PP))))) (p7 (K:=K) (hi:=(a.stops.length:Int)) (λR q=>B rfl q) (λR q=>?_) k);refine B rfl (wv A.x CP A.dx _ _ O b.ob T.cl T.chg O (IN A.c _ O (.inl (TD.of b.chg)) ?_));rw[FM];exact q)
noncomputable def pM (T:t1) (a b d t:Int):Bool:=(decide (0<=a)&&decide (a<(T.stops.length:Int)))&&((decide (0<=b)&&decide (b<(T.stops.length:Int)))&&((decide (0<=d)&&decide (d<7))&&(decide (0<=t)&&decide (t<2880))))
theorem jV (T:t1) (a b d t:Int):pM T a b d t=b2 T a b d t:=by(
unfold pM b2 eV u8;have c:decide (a<(T.stops.length:Int))=decide (a<=(T.stops.length:Int)-1):=by rw[iv];lia
have e:decide (b<(T.stops.length:Int))=decide (b<=(T.stops.length:Int)-1):=by rw[iv];lia
have f:decide (d<7)=decide (d<=6):=by rw[iv];lia
have g:decide (t<2880)=decide (t<=2879):=by rw[iv];lia
rw[c,e,f,g])
def hY (CP CN:WF):Sp:=λvs H Q _=>∃(A:PA) (T:t1) (m:Nat) (a b d t:Int),vs=[.ref A.x,.int a,.int b,.int d,.int t]/\cd CP CN H A T m/\Q (.bl (pM T a b d t)) H
theorem L7:pu zac zac (s1 qk):=nb rfl rfl rfl (by decide +kernel)
theorem Jy(F:sB K "can_ask" "can_ask" qk f fd) (T:bV K mg CP) (i:AC P w K mg base xL 1 C J zal (rb CP CN)) (j:Binds K J zal []) (r:cf K CP "has_stop" C)
  (u:AC P w K mg base xL 1 p D ["day"] rd) (y:Binds K D ["day"] []) (Y:mg "is_day"=some (.ref p)) (N:cV K (.ref p)=true)
  (GM:AC P w K mg base xL 1 q L zao rf) (z:Binds K L zao []) (OM:mg "is_minute"=some (.ref q)) (U:cV K (.ref q)=true):AC P w K mg base xL 2 f fd zac (hY CP CN):=by(
refine F.ar L7 (λvs H Q E h=>?_) (λOR OP outer s H vs Q E g h=>?_)
·refine pV h λA c m a b d t ON _=>?_;subst ON;rfl
·intro OQ;refine pU h λA c m a b d t OO=>?_;obtain⟨rfl,e,k⟩:=OO;refine B (Fa (tt (uR (aA (V 0) T.cl r i g j .nil ws (UV (V 1) PP)) (uR (aA (V 0) T.cl r i g j .nil ws (UV (V 2) PP)) (uR (ge u g rfl Y N y .nil ws (UV (V 3) PP)) (KQ (ge GM g rfl OM U z .nil ws (UV (V 4) PP)))))))) ?_;unfold pM at k;refine B rfl (nw A.x A.dx _ O e.ob O (B rfl (dQ A c m a ⟨O,e,B rfl ?_⟩)));cases l:(decide (0<=a)&&decide (a<(c.stops.length:Int)))with
 |false=>rw[l]at k;exact v6 k
 |true=>
  rw[l,oc]at k;refine wn (B rfl (nw A.x A.dx _ O e.ob O (B rfl (dQ A c m b ⟨O,e,B rfl ?_⟩))));cases n:(decide (0<=b)&&decide (b<(c.stops.length:Int)))with
  |false=>rw[n]at k;exact v6 k
  |true=>
   rw[n,oc]at k;refine wn (B rfl (Ix d O (B rfl ?_)));cases o:(decide (0<=d)&&decide (d<7))with
   |false=>rw[o]at k;exact v6 k
   |true=>
    rw[o,oc]at k;exact wn (B rfl (Ix t O k)))
structure oP (T:t1):Prop where
 stops:T.stops.length<=256
 trips:T.trips.length<=1024
 walks:T.walks.length<=4096
 late:∀p,p∈T.trips->p.late.length=7
theorem mL{D:Ends}(h0:ZB[0]?=some (some (.ref x))) (c:H x=some (.ins C dx fs)) (b:H q=none) (cl:cE K C) (e:ao K C fl) (hf:fs.length<1000)
  (k:∀(I:Hp),Ch [x] H I->I q=some u->I x=some (.ins C dx (rc fl (.ref q) fs))->D.nx ZB I):
  bZ 0 ZB (Uf H q u) λf H2=>∃a C dx fs,f=.ref a/\H2 a=some (.ins C dx fs)/\cE K C/\ao K C fl/\fs.length<1000/\D.nx ZB (Uf H2 a (.ins C dx (rc fl (.ref q) fs))):=by
 have d:x≠q:=v0 c b;refine B h0 (bi x C dx fs O ((UF d).trans c) cl e hf (k _ (((Ch.rfl' _ _).new b).put (by simp)) ?_ KE));rw[UF (Ne.symm d),KE]
def vD (CP CN:WF):Sp:=λvs H Q _=>∃(x dx:WF),vs=[.ref x]/\H x=some (.ins CP dx [])/\
 ∀(I:Hp) (A:PA),A.x=x->cd CP CN I A eb 0->Ch [x] H I->(∀b,b∈A.own->b=x\/H b=none)->Q .ak I
theorem Me:pu zaa zaa (s1 qN):=nb rfl rfl rfl (by decide +kernel)
theorem JZ(F:sB K "__init__" "Plan.__init__" qN f fd) (T:bV K mg CP):AC P w K mg base xL 1 f fd zaa (vD CP CN):=by(
refine F.ar Me (λvs H Q E h=>?_) (λO8 O4 outer s H vs Q E O9 h=>?_)
·refine iU h λx dx O2=>?_;obtain⟨rfl,_⟩:=O2;rfl
·intro O7;refine Do h λx dx O3 N k=>?_;subst O3;refine B (On (bq (V 0) (db PP) rfl) (On (bq (V 0) (db PP) rfl) (On (bq (V 0) (db PP) rfl) (On (bq (V 0) AD rfl) (Fa (bq (V 0) AD rfl)))))) ?_;have OS:=eh.start (lc N);refine⟨f4 _,λc ON=>mL rfl N ON T.cl T.chg (by decide) λH1 OY A g=>?_⟩;have OT:=OS.step OY (lc N) (lc g) ON (lc A);refine⟨f4 _,λt OP=>mL rfl g OP T.cl T.trips (by show 1<1000;decide) λH2 Y D j=>?_⟩;have OU:=OT.step Y (lc g) (lc j) OP (lc D);refine⟨f4 _,λO1 OQ=>mL rfl j OQ T.cl T.walks (by show 2<1000;decide) λO5 y J m=>?_⟩;have OV:=OU.step y (lc j) (lc m) OQ (lc J);refine λl OO=>mL rfl m OO T.cl T.late (by show 3<1000;decide) λO6 b L r=>?_;have OW:=OV.step b (lc m) (lc r) OO (lc L);refine λn nn=>mL rfl r nn T.cl T.bo (by show 4<1000;decide) λOX a OM OR=>?_;have u:=OW.step a (lc r) (lc OR) nn (lc OM);have nx:∀ {q:WF}{U:Hp}{o:HO},U q=some o->(∃C dx fs,U x=some (.ins C dx fs))->(∀C dx fs,o≠.ins C dx fs)->q∉[x]:=λe ⟨C,dx,fs,OZ⟩ O0=>by
  simp only[sc];intro z;rw[z,OZ]at e;exact O0 _ _ _ (b3 e).symm
 have n1:=nx A (b_ _ _ _ g) (λ_ _ _ z=>by cases z);have n2:=nx D (b_ _ _ _ j) (λ_ _ _ z=>by cases z);have n3:=nx J (b_ _ _ _ m) (λ_ _ _ z=>by cases z);have n4:=nx L (b_ _ _ _ r) (λ_ _ _ z=>by cases z);refine k OX ⟨x,dx,c,t,O1,l,n⟩ rfl ⟨u.nd,OR,a _ _ (b _ _ (y _ _ (Y _ _ A n1) n1) n1) n1,(Ix ([]) (a _ _ (b _ _ (y _ _ D n2) n2) n2) (.nil)),(Ix ([]) (a _ _ (b _ _ J n3) n3) (.nil)),(zn ([]) (a _ _ L n4) (tz _) ⟨λi d p e=>by simp[eb]at e,λi d _=>Nc⟩),(zn ([]) OM (f4 _) (λd _=>⟨λv e=>by simp[io]at e,λv e=>by simp[io]at e⟩))⟩ u.but u.fresh)
theorem cd.clear(h:cd CP CN H A T m):cd CP CN (Uf H A.n (.dT [])) A T m/\hide A.own (Uf H A.n (.dT []))=hide A.own H:=by
 have n:=lj h.nd;have a:hide A.own (Uf H A.n (.dT []))=hide A.own H:=fD (by simp[PA.own]);obtain⟨ts,e,f⟩:=h.trips;obtain⟨j,g,i⟩:=h.walks;obtain⟨lk,b,c,d⟩:=h.late;refine⟨h.build (by rw[a];exact Tl.rfl' _) (UF (n 0 5 rfl)) ((UF (n 1 5 rfl)).trans h.chg) (Ix ts ((UF (n 2 5 rfl)).trans e) (by rw[a];exact f)) (Ix j ((UF (n 3 5 rfl)).trans g) (by rw[a];exact i)) (zn lk ((UF (n 4 5 rfl)).trans b) c (by rw[a];exact d)) KE,a⟩
def hZ (CP CN:WF) (args:List Int->Option c9) (n:Nat):Sp:=λvs H Q _=>∃(A:PA) (T:t1) (m:Nat) (l:List Int) (c:c9),vs=W1.ref A.x::l.map W1.int/\l.length=n/\args l=some c/\cd CP CN H A T m/\oP T/\m<=1000/\
 ∀I,cd CP CN I A (Ev T c).2 (m+1)->Ch A.own H I->Q (.int (Ev T c).1.code) I
def kN:List Int->Option c9
 |[c]=>some (.halt c)
 |_=>none
theorem LZ:pu zau zau (s1 qb):=nb rfl rfl rfl (by decide +kernel)
theorem Jo(F:sB K "add_stop" "Plan.add_stop" qb f fd) (T:bV K mg CP):AC P w K mg base xL 1 f fd zau (hZ CP CN kN 1):=by(
refine F.ar LZ (λvs H Q E h=>?_) (λOQ OO outer s H vs Q E OS h=>?_)
·refine gR h λA a m l c OM o _=>?_;subst OM;simp[o]
·intro OP;refine gS h λA a m l c ON o u b hT hm k=>?_;subst ON;obtain⟨ch,rfl⟩:=k7 o;cases u;refine B (On (it (bR (j2 cv cv EQ (V 1) EQ)) (Fa (tt (nl T.c2 rfl))) he)
  (On (it (ga c0 (a0 b6 (by rfl) T.len b1 (UV (wS (V 0) rfl) PP)) (nl T.ms rfl) (li _)) (Fa (tt (nl T.c8 rfl))) he)
  (On (ca (ll od oe sC pG (wS (V 0) rfl)))
  (On (ca (cG cm da dc cZ (wS (V 0) rfl) (UV (V 1) PP)))
  (Fa (tt (jp gP (a0 b6 (by rfl) T.len b1 (UV (wS (V 0) rfl) PP)) EQ))))))) ?_
 obtain⟨OU,p,_⟩:=b.bo;refine j3 (K:=K) (d:=ch) (λR q=>B rfl q) (B rfl ?_);cases e:(decide (0<=ch)&&decide (ch<=120))with
 |false=>
  have i:Ev a (.halt ch)=(bM (-2),a):=by simp only[Ev,u8,e,a9]
  rw[i]at k;exact wn (k H (b.more (by lia)) (Ch.rfl' _ _))
 |true=>
  refine v6 ?_;refine B rfl (wv A.x CP A.dx _ _ O b.ob T.cl T.chg O (g2 A.c _ O (.inl (TD.of b.chg)) O (B rfl ?_)));by_cases c:a.stops.length=256
  ·have i:Ev a (.halt ch)=(bM (-8),a):=by simp only[Ev,u8,e,c,a9,c',aK]
   rw[i]at k;rw[sK (by rw[FM,c];rfl)];exact wn (k H (b.more (by lia)) (Ch.rfl' _ _))
  ·have i:Ev a (.halt ch)=(bM a.stops.length,{a with stops:=a.stops++[ch.toNat]}):=by simp only[Ev,u8,e,c,c',aK]
   rw[i]at k;rw[sn (by rw[FM];intro z;injection z with z;lia)];refine v6 ?_;refine B rfl (b' A.x CP A.dx _ _ O b.ob T.cl T.bo O (.inr (.inr (.inl ⟨O,.inr ⟨_,p⟩⟩))) (g2 A.n _ O O p ?_));obtain⟨g,OR⟩:=b.clear;refine B rfl (b' A.x CP A.dx _ _ O g.ob T.cl T.chg O (.inl ⟨O,⟨_,TD.of g.chg⟩⟩) (B rfl (bb A.c _ _ O O g.chg (small (by rw[FM];have:=hT.stops;lia)) ?_)));have n:=lj b.nd;have j:hide A.own (Uf (Uf H A.n (.dT [])) A.c (.lst (a.stops.map Rs++[W1.int ch])))=hide A.own (Uf H A.n (.dT [])):=fD (by simp[PA.own]);refine B rfl (wv A.x CP A.dx _ _ O ((UF (n 0 1 rfl)).trans g.ob) T.cl T.chg O (IN A.c _ O (.inl (TD.of KE)) (IN _ _ O O ?_)));obtain⟨ts,J,L⟩:=g.trips;obtain⟨Y,N,U⟩:=g.walks;obtain⟨lk,C,OT,D⟩:=g.late;have y:0<=ch:=by simp only[ev,dL]at e;exact e.1
   have r:(a.stops++[ch.toNat]).map Rs=a.stops.map Rs++[W1.int ch]:=by
    rw[bL];simp only[m0,hr,Rs,fi y]
   have hB:Ch A.own H (Uf (Uf H A.n (.dT [])) A.c (.lst (a.stops.map Rs++[W1.int ch]))):=((Ch.rfl' _ _).put (by simp[PA.own])).put (by simp[PA.own]);have:=k (Uf (Uf H A.n (.dT [])) A.c (.lst (a.stops.map Rs++[W1.int ch]))) (g.build (T':= {a with stops:=a.stops++[ch.toNat]}) (by rw[j];exact Tl.rfl' _) (UF (n 0 1 rfl)) (by rw[r];exact KE) (Ix ts ((UF (n 2 1 rfl)).trans J) (by rw[j];exact L)) (Ix Y ((UF (n 3 1 rfl)).trans N) (by rw[j];exact U)) (zn lk ((UF (n 4 1 rfl)).trans C) (by lia) (by rw[j];exact D)) ((UF (n 5 1 rfl)).trans KE)) hB;have t:((a.stops.map Rs++[W1.int ch]).length:Int)-1=(a.stops.length:Int):=by rw[ls,FM,bK];lia
   show Q (W1.int (((a.stops.map Rs++[W1.int ch]).length:Int)-1)) _;rw[t];exact this)
theorem Bz (T:t1) (a:Int):(decide (0<=a)&&decide (a<(T.stops.length:Int)))=eV T a:=by(
unfold eV u8;have b:decide (a<(T.stops.length:Int))=decide (a<=(T.stops.length:Int)-1):=by rw[iv];lia
rw[b])
def kO:List Int->Option c9
 |[a,b,m]=>some (.walk a b m)
 |_=>none
theorem L0:pu zav zav (s1 qd):=nb rfl rfl rfl (by decide +kernel)
theorem Jq(F:sB K "add_walk" "Plan.add_walk" qd f fd) (T:bV K mg CP) (OO:AC P w K mg base xL 1 OZ O0 zal (rb CP CN)) (OP:Binds K O0 zal []) (OU:cf K CP "has_stop" OZ):AC P w K mg base xL 2 f fd zav (hZ CP CN kO 3):=by(
refine F.ar L0 (λvs H Q E h=>?_) (λPf Pd outer s H vs Q E OS h=>?_)
·refine gR h λA g m l c Pb Y _=>?_;subst Pb;simp[Y]
·intro Pe;refine gS h λA g m l c Pc Y O1 i hT hm k=>?_;subst Pc;obtain⟨a,b,mi,rfl⟩:=pB Y;cases O1;refine B (On (it (PW.pt (ew (bR (cz (aA (V 0) T.cl OU OO OS OP .nil ws (UV (V 1) PP)))) (ew (bR (cz (aA (V 0) T.cl OU OO OS OP .nil ws (UV (V 2) PP)))) (gU (bR (j2 cv cv EQ (V 3) EQ)))))) (Fa (tt (nl T.c2 rfl))) he)
  (On (it (ga c0 (a0 b6 (by rfl) T.len b1 (UV (wS (V 0) rfl) PP)) (nl T.mw rfl) (li _)) (Fa (tt (nl T.c8 rfl))) he)
  (On (ca (ll od oe sC pG (wS (V 0) rfl)))
  (On (ca (cG cm da dc cZ (wS (V 0) rfl) (UV (bY (UV (V 1) (UV (V 2) (UV (V 3) PP)))) PP)))
  (Fa (tt (jp gP (a0 b6 (by rfl) T.len b1 (UV (wS (V 0) rfl) PP)) EQ))))))) ?_
 obtain⟨Pj,OR,_⟩:=i.bo;obtain⟨Pa,O8,O9⟩:=i.walks;have OT:Pa.length=g.walks.length:=Paired.length O9;have N:(eV g a&&(eV g b&&u8 mi 0 240))=false->Q (.int (-2)) H:=λe=>by
  have y:Ev g (.walk a b mi)=(bM (-2),g):=by simp only[Ev,e,a9]
  rw[y]at k;exact k H (i.more (by lia)) (Ch.rfl' _ _)
 refine B rfl (nw A.x A.dx _ O i.ob O (B rfl (dQ A g m a ⟨O,i,B rfl ?_⟩)));rw[Bz];cases p:eV g a with
 |false=>exact wn (wn (N (by rw[p];rfl)))
 |true=>
  refine v6 (B rfl (nw A.x A.dx _ O i.ob O (B rfl (dQ A g m b ⟨O,i,B rfl ?_⟩))));rw[Bz];cases u:eV g b with
  |false=>exact wn (wn (N (by rw[p,u];rfl)))
  |true=>
   refine v6 ?_;refine j3 (K:=K) (d:=mi) (λR q=>B rfl q) (B rfl ?_);cases J:(decide (0<=mi)&&decide (mi<=240))with
   |false=>exact wn (N (by rw[p,u];exact J))
   |true=>
    have all:(eV g a&&(eV g b&&u8 mi 0 240))=true:=by rw[p,u];exact J
    refine v6 ?_;refine B rfl (wv A.x CP A.dx _ _ O i.ob T.cl T.walks O (g2 A.w _ O (.inl (TD.of O8)) O (B rfl ?_)));by_cases c:g.walks.length=4096
    ·have y:Ev g (.walk a b mi)=(bM (-8),g):=by simp only[Ev,all,c,a9,c',aK]
     rw[y]at k;rw[sK (by rw[OT,c];rfl)];exact wn (k H (i.more (by lia)) (Ch.rfl' _ _))
    ·have y:Ev g (.walk a b mi)=(bM g.walks.length,{g with walks:=g.walks++[⟨a.toNat,b.toNat,mi.toNat⟩]}):=by simp only[Ev,all,c,c',aK]
     rw[y]at k;rw[sn (by rw[OT];intro z;injection z with z;lia)];refine v6 ?_;refine B rfl (b' A.x CP A.dx _ _ O i.ob T.cl T.bo O (.inr (.inr (.inl ⟨O,.inr ⟨_,OR⟩⟩))) (g2 A.n _ O O OR ?_));obtain⟨o,Pg⟩:=i.clear;obtain⟨D,OW,OX⟩:=o.walks;obtain⟨ts,O6,O7⟩:=o.trips;obtain⟨lk,O2,Ph,O3⟩:=o.late;have n:=lj i.nd;have O4:D.length=g.walks.length:=Paired.length OX;refine B rfl (b' A.x CP A.dx _ _ O o.ob T.cl T.walks O (.inl ⟨O,⟨_,TD.of OW⟩⟩) (B rfl (B rfl (zn _ O (by show 3<=Gc;decide) (λt OM=>?_)))));have ON:∀j,j∈A.own->j≠t:=λj U z=>o.there U (by rw[z];exact OM);refine bb A.w _ _ O O ((UF (ON A.w (by simp[PA.own]))).trans OW) (small (by have:=hT.walks;lia)) ?_;generalize C:Uf (Uf (Uf H A.n (.dT [])) t (.tup [W1.int a,W1.int b,W1.int mi])) A.w (.lst (D++[W1.ref t]))=H2;have L:Tl (hide A.own (Uf H A.n (.dT []))) (hide A.own H2):=by rw[<- C];exact pJ (by simp[PA.own]) OM
     have r:∀j,j∈A.own->j≠A.w->H2 j=(Uf H A.n (.dT [])) j:=λj U O5=>by rw[<- C,UF O5,UF (ON j U)]
     have OQ:H2 A.w=some (.lst (D++[W1.ref t])):=by rw[<- C];exact KE
     have OV:t∉A.own:=λz=>ON t z rfl;have O_:jz (hide A.own H2) (W1.ref t) ⟨a.toNat,b.toNat,mi.toNat⟩:=by
      refine Ix t O (wl.mpr ⟨OV,?_⟩);rw[<- C,UF (λz=>OV (by rw[z];simp[PA.own])),KE];unfold eV u8 at p u;simp only[ev,dL]at p u J;simp only[Rs,fi p.1,fi u.1,fi J.1]
     refine B rfl (wv A.x CP A.dx _ _ O ((r A.x (by simp[PA.own]) (n 0 3 rfl)).trans o.ob) T.cl T.walks O (IN A.w _ O (.inl (TD.of OQ)) (IN _ _ O O ?_)));have hB:Ch A.own H H2:=by rw[<- C];exact(((Ch.rfl' _ _).put (by simp[PA.own])).new OM).put (by simp[PA.own])
     have:=k H2 (o.build (T':= {g with walks:=g.walks++[⟨a.toNat,b.toNat,mi.toNat⟩]}) L (r A.x (by simp[PA.own]) (n 0 3 rfl)) ((r A.c (by simp[PA.own]) (n 1 3 rfl)).trans o.chg) (Ix ts ((r A.t (by simp[PA.own]) (n 2 3 rfl)).trans O6) (aj (λ_ _ q=>q.same L) O7)) (B OQ (Paired.snoc (aj (λ_ _ q=>q.same L) OX) O_)) (zn lk ((r A.l (by simp[PA.own]) (n 4 3 rfl)).trans O2) (by lia) (O3.same L)) ((r A.n (by simp[PA.own]) (n 5 3 rfl)).trans KE)) hB;have OY:((D++[W1.ref t]).length:Int)-1=(g.walks.length:Int):=by rw[ls,O4,bK];lia
     show Q (W1.int (((D++[W1.ref t]).length:Int)-1)) _;rw[OY];exact this)
noncomputable def kM:List Int->Option c9
 |[p,d,i,m]=>some (.late p d i m)
 |_=>none
theorem Mg:pu zaw zaw (s1 qY):=nb rfl rfl rfl (by decide +kernel)
theorem J8(F:sB K "tell_late" "Plan.tell_late" qY f fd) (T:bV K mg CP) (Pg:AC P w K mg base xL 1 O4 Po ["day"] rd) (Ph:Binds K Po ["day"] []) (PB:mg "is_day"=some (.ref O4)) (Pw:cV K (.ref O4)=true):AC P w K mg base xL 2 f fd zaw (hZ CP CN kM 4):=by(
refine F.ar Mg (λvs H Q E h=>?_) (λPR PN outer s H vs Q E O7 h=>?_)
·refine gR h λA a m l c PL OZ _=>?_;subst PL;simp[OZ]
·intro PQ;refine gS h λA a m l c PM OZ Pq r hT hm k=>?_;subst PM;obtain⟨p,d,i,mi,rfl⟩:=d0 OZ;cases Pq;have hu:=hK O7;have Pr:=hT.late;refine B (On (it (PW.pt (ew (bR (j2 cv d1 EQ (V 1) (a0 b6 (by rfl) T.len b1 (UV (wS (V 0) rfl) PP)))) (gU (bR (cz (ge Pg O7 rfl PB Pw Ph .nil ws (UV (V 2) PP))))))) (Fa (tt (nl T.c2 rfl))) he)
  (On (it (PW.pt (ew (bR (j2 cv cv EQ (V 3) EQ)) (gU (bR (j2 cv cv EQ (V 4) EQ))))) (Fa (tt (nl T.c2 rfl))) he)
  (On (ca (ll od oe sC pG (wS (V 0) rfl)))
  (On (nr hu (wS (V 0) rfl) (bY (UV (V 1) (UV (V 2) PP))) (bY (UV (V 3) (UV (V 4) PP))) rfl)
  (Fa (tt EQ)))))) ?_
 obtain⟨PV,O6,_⟩:=r.bo;obtain⟨ts,OV,OO⟩:=r.trips;have Py:ts.length=a.trips.length:=Paired.length OO;have PD:(decide (0<=p)&&decide (p<(ts.length:Int)))=u8 p 0 ((a.trips.length:Int)-1):=by
  rw[Py];unfold u8;have g:decide (p<(a.trips.length:Int))=decide (p<=(a.trips.length:Int)-1):=by rw[iv];lia
  rw[g]
 have Pk:(decide (0<=d)&&decide (d<7))=u8 d 0 6:=by
  unfold u8;have g:decide (d<7)=decide (d<=6):=by rw[iv];lia
  rw[g]
 have OP:(u8 p 0 ((a.trips.length:Int)-1)&&(u8 d 0 6&&(u8 i 0 63&&u8 mi 0 240)))=false->Q (.int (-2)) H:=λe=>by
  have OX:Ev a (.late p d i mi)=(bM (-2),a):=by simp only[Ev,e,a9]
  rw[OX]at k;exact k H (r.more (by lia)) (Ch.rfl' _ _)
 refine p7 (K:=K) (d:=p) (hi:=(ts.length:Int)) (λR q=>B rfl q) (λR q=>B rfl (wv A.x CP A.dx _ _ O r.ob T.cl T.trips O (IN A.t _ O (.inl (TD.of OV)) q))) (B rfl ?_);rw[PD];cases ep:u8 p 0 ((a.trips.length:Int)-1)with
 |false=>exact wn (wn (OP (by rw[ep];rfl)))
 |true=>
  refine v6 (B rfl (Ix d O (B rfl ?_)));rw[Pk];cases D:u8 d 0 6 with
  |false=>exact wn (OP (by rw[ep,D];rfl))
  |true=>
   refine v6 ?_;dsimp only[rv,lI,vM,BI,BH,rz];refine j3 (K:=K) (d:=i) (λR q=>B rfl q) (B rfl ?_);cases N:(decide (0<=i)&&decide (i<=63))with
   |false=>exact wn (wn (OP (by rw[ep,D,show u8 i 0 63=false from N];rfl)))
   |true=>
    refine v6 ?_;refine j3 (K:=K) (d:=mi) (λR q=>B rfl q) (B rfl ?_);cases OR:(decide (0<=mi)&&decide (mi<=240))with
    |false=>exact wn (OP (by rw[ep,D,show u8 i 0 63=true from N,show u8 mi 0 240=false from OR];rfl))
    |true=>
     have all:(u8 p 0 ((a.trips.length:Int)-1)&&(u8 d 0 6&&(u8 i 0 63&&u8 mi 0 240)))=true:=by rw[ep,D,show u8 i 0 63=true from N,show u8 mi 0 240=true from OR];rfl
     have OX:Ev a (.late p d i mi)=(bM 0,{a with trips:=a.trips.mapIdx λk x=>if k=p.toNat then {x with late:=x.late.set d.toNat (i.toNat,mi.toNat)}else x}):=by simp only[Ev,all,c',aK]
     rw[OX]at k;refine v6 ?_;refine B rfl (b' A.x CP A.dx _ _ O r.ob T.cl T.bo O (.inr (.inr (.inl ⟨O,.inr ⟨_,O6⟩⟩))) (g2 A.n _ O O O6 ?_));obtain⟨o,PU⟩:=r.clear;obtain⟨Pe,Pc,Pd⟩:=o.walks;obtain⟨ts,OV,OO⟩:=o.trips;obtain⟨lk,O_,Px,O1⟩:=o.late;have n:=lj r.nd;generalize OS:Uf H A.n (.dT [])=H1 at o Pe Pc Pd ts OV OO lk O_ Px O1;refine B rfl (zn _ O (by show 2<=Gc;decide) (λtv O2=>?_));have OW:∀b,b∈A.own->b≠tv:=λb J z=>o.there J (by rw[z];exact O2);refine B rfl (wv A.x CP A.dx _ _ O ((UF (OW A.x (by simp[PA.own]))).trans o.ob) T.cl T.late O (B rfl (zn _ O (by show 2<=Gc;decide) (λtk OM=>?_))));have O9:tk≠tv:=λz=>by rw[z,KE]at OM;cases OM
     have Pa:H1 tk=none:=by rw[UF O9]at OM;exact OM
     have O8:∀b,b∈A.own->b≠tk:=λb J z=>o.there J (by rw[z];exact Pa);simp only[u8,ev,dL]at ep D N OR;have Pm:(el p.toNat d.toNat).map kV=[W1.int p,W1.int d]:=by
      simp only[el,m0,hr,kV,fi ep.1,fi D.1]
     refine IN A.l _ O (f7.t (k:=el p.toNat d.toNat) ((UF (O8 A.l (by simp[PA.own]))).trans ((UF (OW A.l (by simp[PA.own]))).trans O_)) (by rw[Pm];exact KE) (small (by lia))) ?_;generalize U:Uf (Uf (Uf H1 tv (.tup [W1.int i,W1.int mi])) tk (.tup [W1.int p,W1.int d])) A.l (.dT (aC lk (el p.toNat d.toNat) (W1.ref tv)))=H2;have L:∀b,b∈A.own->b≠A.l->H2 b=H1 b:=λb J Pz=>by rw[<- U,UF Pz,UF (O8 b J),UF (OW b J)]
     have OT:Tl (hide A.own H1) (hide A.own H2):=λb u e=>by
      obtain⟨OU,ON⟩:=wl.mp e;refine wl.mpr ⟨OU,?_⟩;rw[<- U,UF (λz=>OU (by rw[z];simp[PA.own])),UF (v0 ON Pa),UF (v0 ON O2)];exact ON
     have Pn:H2 A.l=some (.dT (aC lk (el p.toNat d.toNat) (W1.ref tv))):=by rw[<- U];exact KE
     have Pb:tv∉A.own:=λz=>OW tv z rfl;have PK:hide A.own H2 tv=some (.tup [Rs i.toNat,Rs mi.toNat]):=by
      refine wl.mpr ⟨Pb,?_⟩;rw[<- U,UF (λz=>Pb (by rw[z];simp[PA.own])),UF (Ne.symm O9),KE];simp only[Rs,fi N.1,fi OR.1]
     have hB:Ch A.own H H2:=by
      rw[<- U,<-OS];refine Ch.put (Ch.new (Ch.new ((Ch.rfl' _ _).put (by simp[PA.own])) (by rw[OS];exact O2)) ?_) (by simp[PA.own]);rw[OS];exact OM
     refine k H2 (o.build (T':= {a with trips:=a.trips.mapIdx λk x=>if k=p.toNat then {x with late:=x.late.set d.toNat (i.toNat,mi.toNat)}else x}) OT (L A.x (by simp[PA.own]) (n 0 4 rfl)) ((L A.c (by simp[PA.own]) (n 1 4 rfl)).trans o.chg) (Ix ts ((L A.t (by simp[PA.own]) (n 2 4 rfl)).trans OV) ?_) (Ix Pe ((L A.w (by simp[PA.own]) (n 3 4 rfl)).trans Pc) (aj (λ_ _ q=>q.same OT) Pd)) (zn _ Pn ?_ ⟨λY d' PX g Pl=>?_,λY d' O5=>?_⟩) ((L A.n (by simp[PA.own]) (n 5 4 rfl)).trans (by rw[<- OS];exact KE))) hB
     ·refine uQ (by rw[wj];exact Paired.length OO) λj v y hv O0=>?_;obtain⟨Pf,Pu,PJ⟩:=eu OO hv;rw[Cs,Pu]at O0;simp only[ik,hk]at O0;refine lb (PJ.same OT) λsa Pj Pp OU ON PF PH=>?_;have:y.days=Pf.days/\y.calls=Pf.calls:=by rw[<- O0];split<;>exact⟨O,O⟩
      exact nw sa Pj Pp (by rw[this.1];exact OU) (by rw[this.2];exact ON) (by rw[this.2];exact PF) (by rw[this.2];exact PH)
     ·unfold aC;split
      ·rw[FM];lia
      ·rw[ls,bK];lia
     ·rw[kf];rw[Cs]at g;cases OQ:a.trips[Y]? with
      |none=>rw[OQ]at g;cases g
      |some C=>
       rw[OQ]at g;simp only[ik,hk]at g;have aG:=(O1.at_ Y d' C OQ Pl).same OT;by_cases OY:Y=p.toNat
       ·rw[No OY]at g;subst g;by_cases O3:d'=d.toNat
        ·subst OY O3;rw[No rfl];have Pt:d.toNat<C.late.length:=by
          have:=Pr C (pi OQ);lia
         show ju _ _ ((C.late.set d.toNat (i.toNat,mi.toNat)).getD d.toNat (0,0));rw[Tw.gW Pt,No rfl];exact Ix tv O PK
        ·rw[Ps (λz=>by simp only[el,kx]at z;have:=z.2.1;injection this with this;lia)];show ju _ _ ((C.late.set d.toNat (i.toNat,mi.toNat)).getD d' (0,0));have:(C.late.set d.toNat (i.toNat,mi.toNat)).getD d' (0,0)=C.late.getD d' (0,0):=by
          rw[np,sW (Ne.symm O3),<-np]
         rw[this];exact aG
       ·rw[Ps OY]at g;subst g;rw[Ps (λz=>by simp only[el,kx]at z;have:=z.1;injection this with this;lia)];exact aG
     ·rw[wj]at O5;rw[kf,Ps (λz=>by simp only[el,kx]at z;have:=z.1;injection this with this;lia)];exact O1.no Y d' O5)
end Dv
namespace L2
open PySem
theorem G0{g:TG}{tb:TS}{D:Ends}(Pv:Nat->St->Hp->Prop) (h0:Pv 0 ZB H) (w:∀i ZB H,i<=xs.length->Pv i ZB H->TD K H a xs/\TD K H b ys/\TD K H c zs) (E:ys.length=xs.length) (hz:zs.length=xs.length)
  (A:∀i x y z T ZB H,xs[i]?=some x->ys[i]?=some y->zs[i]?=some z->Pv i ZB H->H T=none->g (.ref T) ZB (Uf H T (.tup [x,y,z])) λh H2=>tb {D with nx:=Pv (i+1),ct:=Pv (i+1),bk:=D.nx} h H2) (hd:∀ZB H,Pv xs.length ZB H->D.nx ZB H):
  ∃W:Nat->Nat->St->Hp->Prop,(∃m,W 0 m ZB H)/\∀i m ZB H,W i m ZB H->
   ((mr K a b c).stop i H/\D.nx ZB H)\/((mr K a b c).go i H/\∃N:St->Hp->Prop,(∀f I,N f I->∃k,k<m/\W (i+1) k f I)/\∀x I,(mr K a b c).eQ i H x I->g x ZB I λh H2=>tb {D with nx:=N,ct:=N,bk:=D.nx} h H2):=by(
refine Ix (λi m ZB H=>m=xs.length-i/\i<=xs.length/\Pv i ZB H) (zn xs.length (by simp) (f4 _) h0) ?_;rintro i m ZB H ⟨rfl,hi,p⟩;obtain⟨d,l,n⟩:=w i ZB H hi p;by_cases j:i<xs.length
·have o:xs[i]?=some xs[i]:=g1 j;have q:ys[i]?=some (ys[i]'(by lia)):=g1 (by lia);have r:zs[i]?=some (zs[i]'(by lia)):=g1 (by lia);refine .inr ⟨(i3 xs ys zs _ _ _ ⟨d,l,n,o,q,r⟩),Ix (Pv (i+1)) (λf I C=>⟨xs.length-(i+1),by lia,O,j,C⟩) (λv I y=>?_)⟩;obtain⟨T,x,y,z,rfl,hT,rfl,s,t,u⟩:=y;exact A i x y z T ZB H (s xs d) (t ys l) (u zs n) p hT
·have e:i=xs.length:=by lia
 subst e;exact .inl ⟨(Ix xs d (tz _)),hd ZB H p⟩)
end L2
namespace Dv
open PySem L2 Tw
variable {P:fr}{w:kw}{K:wf}{mg:Str->Option Tk}{base:s2}{CP CN CS CL CG:WF}
noncomputable def hS (n:Int):Int->List (Int×Int×Int)->Bool
 |_,[]=>true
 |gone,(s,c,g)::l=>if n<=s\/c<gone\/g<c\/2880<=g then false else hS n g l
def vq:Sp:=λvs H Q _=>∃(s c g:WF) (l:List (Int×Int×Int)) (n:Int),vs=[.ref s,.ref c,.ref g,.int n]/\H s=some (.lst (l.map λx=>W1.int x.1))/\H c=some (.lst (l.map λx=>W1.int x.2.1))/\H g=some (.lst (l.map λx=>W1.int x.2.2))/\
 ∀I,Tl H I->Q (.bl (hS n 0 l)) I
theorem lD:pu ["stops","comes","goes","stop_count","gone","stop","come","go"] zax (s1 qn):=nb rfl rfl rfl (by decide +kernel)
theorem JB(F:sB K "can_run" "can_run" qn f fd) (T:bV K mg CP):AC P w K mg base xL 1 f fd zax vq:=by(
refine F.ar lD (λvs H Q E h=>?_) (λOS OQ outer s0 H vs Q E OT h=>?_)
·refine hN h λs c g l n OO _=>?_;subst OO;rfl
·intro OR;refine hO h λs c g l n OP J D hg k=>?_;subst OP;refine B (On (zS 4 lD EQ)
  (On (cH bN rfl (KZ rfl T.zip (UV (V 0) (UV (V 1) (UV (V 2) PP)))) (cw rfl (re (zG 5 lD) (re (zG 6 lD) (re (zG 7 lD) cx))))
   (On (it (PW.pt (ew (ga la (V 5) (V 3) (li _)) (ew (ga d1 (V 6) (V 4) (li _)) (ew (ga d1 (V 7) (V 6) (li _)) (gU (ga la (V 7) (nl T.mi rfl) (li _))))))) (Fa (tt ni)) he)
   (Fa (zS 4 lD (V 7)))))
  (Fa (tt ni)))) ?_
 refine B rfl (B rfl (B rfl (i3 s c g _ _ _ ⟨O,TD.of J,TD.of D,TD.of hg,?_⟩)))
 let U:Nat->St->Hp->Prop:=λi ZB H2=>∃gone u A C,ZB=[some (.ref s),some (.ref c),some (.ref g),some (.int n),some (.int gone),u,A,C]/\hS n 0 l=hS n gone (l.drop i)/\Tl H H2
 refine G0 U
  (dQ 0 none none none ⟨O,O,Tl.rfl' _⟩) (λi ZB H2 _ ON=>by obtain⟨_,_,_,_,_,_,j⟩:=ON;exact⟨TD.of (j _ _ J),TD.of (j _ _ D),TD.of (j _ _ hg)⟩) (by rw[FM,FM]) (by rw[FM,FM]) ?_ ?_
 ·rintro i x y z t ZB H2 m r hz ⟨gone,u,A,C,rfl,e,j⟩ OM;rw[pr]at m r hz;cases q:l[i]? with
  |none=>rw[q]at m;cases m
  |some p=>
   obtain⟨a,b,d⟩:=p;rw[q]at m r hz;cases m;cases r;cases hz;have L:=(aD.mp q);have Y:l.drop i=(a,b,d)::l.drop (i+1):=by rw[x2 L.1,L.2]
   rw[Y]at e;have N:Tl H (Uf H2 t (.tup [W1.int a,W1.int b,W1.int d])):=j.tr (Tl.new OM);refine g2 t _ O (pm.of KE) O (im _ _ O (im _ _ O (IN _ _ O O ?_)));have o:(n<=a\/b<gone\/d<b\/2880<=d)->Q (.bl false) (Uf H2 t (.tup [W1.int a,W1.int b,W1.int d])):=λh=>by
    have:=k _ N;rw[e]at this;simp only[hS,No h]at this;exact this
   refine B rfl (B rfl (IN _ _ O O (B rfl ?_)));by_cases c1:n<=a
   ·rw[sK c1];exact wn (wn (o (.inl c1)))
   rw[sn c1];refine v6 (B rfl (B rfl (IN _ _ O O (B rfl ?_))));by_cases c2:b<gone
   ·rw[sK c2];exact wn (wn (o (.inr (.inl c2))))
   rw[sn c2];refine v6 (B rfl (B rfl (IN _ _ O O (B rfl ?_))));by_cases c3:d<b
   ·rw[sK c3];exact wn (wn (o (.inr (.inr (.inl c3)))))
   rw[sn c3];refine v6 (B rfl (IN _ _ O O (B rfl ?_)));by_cases c4:2880<=d
   ·rw[sK c4];exact wn (o (.inr (.inr (.inr c4))))
   rw[sn c4];refine v6 (B rfl (dQ d _ _ _ ⟨O,?_,N⟩));rw[e];simp only[hS];rw[Ps (by lia)]
 ·rintro ZB H2 ⟨gone,u,A,C,rfl,e,j⟩;rw[FM,CC]at e;have:=k H2 j;rw[e]at this;exact this)
noncomputable def cQ:List Int->List (Int×Int×Int)
 |a::b::c::l=>(a,b,c)::cQ l
 |_=>[]
theorem BP:∀(l:List Int) (n i:Nat),l.length=3*n->i<n->(cQ l)[i]?=some (l.getD (3*i) 0,l.getD (3*i+1) 0,l.getD (3*i+2) 0)
 |a::b::c::l,n,0,_,_=>rfl
 |a::b::c::l,n,i+1,h,hi=>by
  have:=BP l (n-1) i (by simp at h;lia) (by lia);show(cQ l)[i]?=_;rw[this];have d:3*(i+1)=3*i+1+1+1:=by lia
  simp[d,List.getD_cons_succ]
 |[],n,i,h,hi=>by simp at h;lia
 |[_],n,i,h,hi=>by simp at h;lia
 |[_,_],n,i,h,hi=>by simp at h;lia
theorem BQ:∀(l:List Int) (n:Nat),l.length=3*n->(cQ l).length=n
 |[],n,h=>by simp at h;simp[cQ];lia
 |[_],n,h=>by simp at h;lia
 |[_,_],n,h=>by simp at h;lia
 |a::b::c::l,n,h=>by
  have:=BQ l (n-1) (by simp at h;lia);show(cQ l).length+1=n;rw[this];simp at h;lia
theorem AG (l:List Int) (n k:Nat) (h:l.length=3*n) (c:0<n) (b:k<3):eM (l.map W1.int) (some (k:Int)) none (some 3)=(s4 n).map λi=>W1.int (l.getD (3*i+k) 0):=by(
have e:fR (some (k:Int)) none (some 3) (l.map W1.int).length=((k:Int),((3*n:Nat):Int),3):=by
 rw[FM,h];unfold fR;simp only[xt,show(3:Int)>0 by decide,a9];rw[Ps (by lia)]
 congr 1
 lia
unfold eM;rw[e];show(nT (k:Int) ((3*n:Nat):Int) 3).filterMap ((l.map W1.int)[·]?)=_;have a:nT (k:Int) ((3*n:Nat):Int) 3=(s4 n).map λi=>3*i+k:=by
 unfold nT;simp only[show(3:Int)>0 by decide,a9];rw[No (by lia)];have:((((3*n:Nat):Int)-(k:Int)+3-1)/3).toNat=n:=by lia
 rw[this];refine eE λi _=>?_;lia
rw[a,sX];have:=y' (ix:=λi=>3*i+k) (xs:=l.map W1.int) (ys:=(s4 n).map λi=>W1.int (l.getD (3*i+k) 0)) λi hi=>by
 simp only[FM,fZ]at hi;rw[IF (by lia) 0,pr,gy hi];rfl
simp only[FM,fZ]at this;exact this)
theorem u2 {a:Type}(f:Int×Int×Int->a) (l:List Int) (n:Nat) (h:l.length=3*n):(cQ l).map f=(s4 n).map λi=>f (l.getD (3*i) 0,l.getD (3*i+1) 0,l.getD (3*i+2) 0):=by(
apply wm;intro i;by_cases hi:i<n
·rw[pr,BP l n i h hi,pr,gy hi];rfl
·rw[ip (by rw[FM,BQ l n h];lia),ip (by simp;lia)])
def iI (x:Int×Int×Int):xh:=⟨x.1.toNat,x.2.1.toNat,x.2.2.toNat⟩
theorem tQ:∀l:List Int,fV (cL l)=(cQ l).map iI
 |[]=>rfl
 |[_]=>rfl
 |[_,_]=>rfl
 |a::b::c::l=>by
  show⟨a.toNat,b.toNat,c.toNat⟩::fV (cL l)=_;rw[tQ l];rfl
theorem vU:∀(l:List Int),(∀z,z∈l->0<=z)->∀x,x∈cQ l->0<=x.1/\0<=x.2.1/\0<=x.2.2
 |[],_,x,h=>by simp[cQ]at h
 |[_],_,x,h=>by simp[cQ]at h
 |[_,_],_,x,h=>by simp[cQ]at h
 |a::b::c::l,h0,x,h=>by
  rcases rs.mp h with rfl|h
  ·exact⟨h0 a (by simp),h0 b (by simp),h0 c (by simp)⟩
  ·exact vU l (λz hz=>h0 z (by simp[hz])) x h
def iN (g:Int):List (Int×Int×Int)->Bool
 |[]=>true
 |x::_=>decide (g<=x.2.1)
theorem A9 (T:t1):∀(l:List (Int×Int×Int)) (gone:Int),(∀x,x∈l->0<=x.1/\0<=x.2.1/\0<=x.2.2)->hS (T.stops.length:Int) gone l=(eW T (l.map iI)&&iN gone l)
 |[],_,_=>rfl
 |(s,c,g)::l,gone,h=>by
  obtain⟨h1,h2,n⟩:=h (s,c,g) (kt ..);simp only at h1 h2 n;have o:=A9 T l g λx a=>h x (o0 _ a);unfold hS;rw[o];have key:eW T (((s,c,g)::l).map iI)=((decide (s.toNat<T.stops.length)&&(decide (c.toNat<=g.toNat)&&decide (g.toNat<2880)))&&(eW T (l.map iI)&&iN g l)):=by
   unfold eW;cases l with
   |nil=>simp[iI,iN]
   |cons x l=>
    have a:=h x (by simp);have e:decide (g.toNat<=x.2.1.toNat)=decide (g<=x.2.1):=by rw[iv];lia
    simp only[m0,List.all_cons,List.tail_cons,oE,iI,iN,e];generalize decide (s.toNat<T.stops.length)=b;generalize decide (c.toNat<=g.toNat)=d;generalize decide (g.toNat<2880)=f;generalize decide (g<=x.2.1)=i;generalize decide (x.1.toNat<T.stops.length)=j;generalize decide (x.2.1.toNat<=x.2.2.toNat)=k;generalize decide (x.2.2.toNat<2880)=m;cases b<;>cases d<;>cases f<;>cases i<;>cases j<;>cases k<;>cases m<;>simp
  rw[key];by_cases c1:(T.stops.length:Int)<=s\/c<gone\/g<c\/2880<=g
  ·rw[No c1];symm;rcases c1 with q|q|q|q
   ·rw[sn (show ¬s.toNat<T.stops.length by lia)];rfl
   ·simp only[iN,sn (show ¬gone<=c by lia),oa]
   ·rw[sn (show ¬c.toNat<=g.toNat by lia)];simp
   ·rw[sn (show ¬g.toNat<2880 by lia)];simp
  ·rw[Ps c1];rw[sK (show s.toNat<T.stops.length by lia),sK (show c.toNat<=g.toNat by lia),sK (show g.toNat<2880 by lia)];simp only[iN,sK (show gone<=c by lia),oc,xq]
theorem LO (T:t1) (l:List Int) (h:∀z,z∈l->0<=z):hS (T.stops.length:Int) 0 (cQ l)=eW T (fV (cL l)):=by(
have a:=vU l h;rw[A9 T _ 0 a,tQ];cases e:cQ l with
|nil=>simp[iN]
|cons x r=>
 have:=a x (by rw[e];simp);simp only[iN,sK this.2.1,xq])
def vG (CP CN:WF):Sp:=λvs H Q _=>∃(A:PA) (T:t1) (m:Nat) (d:Int) (a:WF) (row:List Int),vs=[W1.ref A.x,.int d,.ref a]/\H a=some (.lst (row.map W1.int))/\(∀z,z∈row->0<=z)/\
 ((1<=d/\d<=127)/\(2<=(row.length:Int)/3/\(row.length:Int)/3<=64)->(row.length:Int)=3*((row.length:Int)/3))/\cd CP CN H A T m/\oP T/\m<=1000/\
 ∀I,cd CP CN I A (Ev T (.trip d (cL row) ((row.length:Int)/3))).2 (m+1)->Ch A.own H I->Q (.int (Ev T (.trip d (cL row) ((row.length:Int)/3))).1.code) I
theorem q3:pu ["self","days","calls","stops","comes","goes"] zaE (s1 qc):=nb rfl rfl rfl (by decide +kernel)
theorem u4{l:List Int}{k:Nat}(e:z=(k:Int)) (h0:ZB[j]?=some (some (.ref a))) (f:TD K H a (l.map W1.int)) (c:l.length=3*n) (d:0<n) (b:k<3) (hz:n<=1000000)
  (q:∀p,H p=none->Q (.ref p) (Uf H p (.lst ((s4 n).map λi=>W1.int (l.getD (3*i+k) 0))))):vQ K (bZ j) (ry (tC (.int z))) rx (ry (tC (.int 3))) ZB H Q:=by(
subst e;refine B h0 (B rfl (B rfl ⟨a,_,O,f,(by intro z;cases z),?_,λp g=>?_⟩))
·rw[AG l n k c d b,FM,fZ];exact ed (small hz)
·rw[AG l n k c d b];exact q p g)
theorem Jp(F:sB K "add_trip" "Plan.add_trip" qc f fd) (T:bV K mg CP) (Pw:AC P w K mg base xL 1 Pj PF zax vq) (Px:Binds K PF zax []) (P1:mg "can_run"=some (.ref Pj)) (PV:cV K (.ref Pj)=true):AC P w K mg base xL 2 f fd zaE (vG CP CN):=by(
refine F.ar q3 (λvs H Q E h=>?_) (λQe Qc outer s H vs Q E PU h=>?_)
·refine lg h λA r m d Pr row Qa=>?_;obtain⟨rfl,_⟩:=Qa;rfl
·intro Qd;refine lg h λA r m d Pr row Qb=>?_;obtain⟨rfl,OZ,h0,Pk,OY,hT,hm,k⟩:=Qb;have Qi:∀ {X:Cx},True:=λ{_}=>trivial;refine B (On (it (PW.pt (ew (bR (j2 cv cv EQ (V 1) EQ)) (gU (bR (j2 cv cv EQ (jp Kf (a0 b6 (by rfl) T.len b1 (UV (V 2) PP)) EQ) EQ))))) (Fa (tt (nl T.c2 rfl))) he)
  (On (zS 3 q3 (lq (V 2) (d2 EQ) fI (d2 EQ)))
  (On (zS 4 q3 (lq (V 2) (d2 EQ) fI (d2 EQ)))
  (On (zS 5 q3 (lq (V 2) (d2 EQ) fI (d2 EQ)))
  (On (it (bR (cz (ge Pw PU rfl P1 PV Px .nil ws (UV (V 3) (UV (V 4) (UV (V 5) (UV (a0 b6 (by rfl) T.len b1 (UV (wS (V 0) rfl) PP)) PP))))))) (Fa (tt (nl T.c4 rfl))) he)
  (On (it (ga c0 (a0 b6 (by rfl) T.len b1 (UV (wS (V 0) rfl) PP)) (nl T.mt rfl) (li _)) (Fa (tt (nl T.c8 rfl))) he)
  (On (ca (ll od oe sC pG (wS (V 0) rfl)))
  (On (ca (cG cm da dc cZ (wS (V 0) rfl) (UV (bY (UV (V 1) (UV (V 3) (UV (V 4) (UV (V 5) PP))))) PP)))
  (Fa (tt (jp gP (a0 b6 (by rfl) T.len b1 (UV (wS (V 0) rfl) PP)) EQ))))))))))) ?_
 generalize PR:(row.length:Int)/3=n at Pk k;have Pg:(u8 d 1 127&&u8 n 2 64)=false->Q (.int (-2)) H:=λe=>by
  have L:Ev r (.trip d (cL row) n)=(bM (-2),r):=by simp only[Ev,e,a9]
  rw[L]at k;exact k H (OY.more (by lia)) (Ch.rfl' _ _)
 refine j3 (K:=K) (d:=d) (λR q=>B rfl q) (B rfl ?_);cases OS:(decide (1<=d)&&decide (d<=127))with
 |false=>exact wn (wn (Pg (by rw[show u8 d 1 127=false from OS];rfl)))
 |true=>
  refine v6 ?_;refine j3 (K:=K) (d:=n) (λR q=>?_) (B rfl ?_)
  ·refine B rfl (IN Pr _ O (.inl (TD.of OZ)) (g2 _ _ O O ⟨by decide,by decide⟩ ?_));show R (W1.int (((row.map W1.int).length:Int)/3)) H;rw[FM,PR];exact q
  cases en:(decide (2<=n)&&decide (n<=64))with
  |false=>exact wn (Pg (by rw[show u8 d 1 127=true from OS,show u8 n 2 64=false from en];rfl))
  |true=>
   have all:(u8 d 1 127&&u8 n 2 64)=true:=by rw[show u8 d 1 127=true from OS,show u8 n 2 64=true from en];rfl
   simp only[ev,dL]at OS en;have Qg:=Pk ⟨OS,en⟩;obtain⟨q,rfl⟩:∃q:Nat,n=(q:Int):=⟨n.toNat,by lia⟩;have OP:row.length=3*q:=by lia
   refine v6 ?_;dsimp only[rv,lI,h3,bh];refine u4 (K:=K) (j:=2) (k:=0) rfl ?h0 (TD.of OZ) OP (by lia) (by decide) (by lia) λsa Pq=>?_
   case h0=>rfl
   have OQ:=Tl.new (o:=HO.lst ((s4 q).map λi=>W1.int (row.getD (3*i+0) 0))) Pq;generalize PH:Uf H sa (.lst ((s4 q).map λi=>W1.int (row.getD (3*i+0) 0)))=H1 at OQ⊢;have Py:H1 sa=some (.lst ((s4 q).map λi=>W1.int (row.getD (3*i+0) 0))):=by rw[<- PH];exact KE
   refine u4 (K:=K) (j:=2) (k:=1) rfl ?h0 (TD.of (OQ _ _ OZ)) OP (by lia) (by decide) (by lia) λJ Po=>?_
   case h0=>rfl
   have OW:=Tl.new (o:=HO.lst ((s4 q).map λi=>W1.int (row.getD (3*i+1) 0))) Po;generalize PJ:Uf H1 J (.lst ((s4 q).map λi=>W1.int (row.getD (3*i+1) 0)))=H2 at OW⊢;have Pz:H2 J=some (.lst ((s4 q).map λi=>W1.int (row.getD (3*i+1) 0))):=by rw[<- PJ];exact KE
   refine u4 (K:=K) (j:=2) (k:=2) rfl ?h0 (TD.of (OW _ _ (OQ _ _ OZ))) OP (by lia) (by decide) (by lia) λN Pp=>?_
   case h0=>rfl
   have O0:=Tl.new (o:=HO.lst ((s4 q).map λi=>W1.int (row.getD (3*i+2) 0))) Pp;generalize PK:Uf H2 N (.lst ((s4 q).map λi=>W1.int (row.getD (3*i+2) 0)))=OR at O0⊢;have PB:OR N=some (.lst ((s4 q).map λi=>W1.int (row.getD (3*i+2) 0))):=by rw[<- PK];exact KE
   have Pt:Tl H OR:=OQ.tr (OW.tr O0);have O6:=OY.same Pt;have Pd:OR sa=some (.lst ((cQ row).map λx=>W1.int x.1)):=by rw[u2 _ row q OP];exact O0 _ _ (OW _ _ Py)
   have Pe:OR J=some (.lst ((cQ row).map λx=>W1.int x.2.1)):=by rw[u2 _ row q OP];exact O0 _ _ Pz
   have Pf:OR N=some (.lst ((cQ row).map λx=>W1.int x.2.2)):=by rw[u2 _ row q OP];exact PB
   refine B rfl (B rfl (B rfl (B rfl (wv A.x CP A.dx _ _ O O6.ob T.cl T.chg O (IN A.c _ O (.inl (TD.of O6.chg)) (b0 sa J N (cQ row) _ ⟨O,Pd,Pe,Pf,λON OX=>B rfl ?_⟩))))));rw[FM,LO r row h0];have Pa:=Pt.tr OX;have U:=O6.same OX;cases O3:eW r (fV (cL row))with
   |false=>
    have L:Ev r (.trip d (cL row) q)=(bM (-4),r):=by simp only[Ev,all,O3,a9,c',aK]
    rw[L]at k;exact wn (k ON (U.more (by lia)) (Pa.but _))
   |true=>
    refine v6 ?_;obtain⟨P7,O1,O2⟩:=U.trips;have Pn:P7.length=r.trips.length:=Paired.length O2;refine B rfl (wv A.x CP A.dx _ _ O U.ob T.cl T.trips O (g2 A.t _ O (.inl (TD.of O1)) O (B rfl ?_)));by_cases c:r.trips.length=1024
    ·have L:Ev r (.trip d (cL row) q)=(bM (-8),r):=by simp only[Ev,all,O3,c,a9,c',aK]
     rw[L]at k;rw[sK (by rw[Pn,c];rfl)];exact wn (k ON (U.more (by lia)) (Pa.but _))
    ·have L:Ev r (.trip d (cL row) q)=(bM r.trips.length,{r with trips:=r.trips++[⟨d.toNat,fV (cL row),f8 7 (0,0)⟩]}):=by simp only[Ev,all,O3,c,c',aK]
     rw[L]at k;rw[sn (by rw[Pn];intro z;injection z with z;lia)];refine v6 ?_;obtain⟨Qj,Pm,_⟩:=U.bo;refine B rfl (b' A.x CP A.dx _ _ O U.ob T.cl T.bo O (.inr (.inr (.inl ⟨O,.inr ⟨_,Pm⟩⟩))) (g2 A.n _ O O Pm ?_));obtain⟨D,PN⟩:=U.clear;obtain⟨P_,P8,P9⟩:=D.walks;obtain⟨ts,O1,O2⟩:=D.trips;obtain⟨lk,PX,Qh,O9⟩:=D.late;have n:=lj OY.nd;have PZ:ts.length=r.trips.length:=Paired.length O2;refine B rfl (b' A.x CP A.dx _ _ O D.ob T.cl T.trips O (.inl ⟨O,⟨_,TD.of O1⟩⟩) (B rfl (B rfl (B rfl (zn _ O (by show 4<=Gc;decide) (λt O8=>?_))))));have Pb:∀y,y∈A.own->y≠t:=λy OU z=>D.there OU (by rw[z];exact O8);refine bb A.t _ _ O O ((UF (Pb A.t (by simp[PA.own]))).trans O1) (small (by have:=hT.trips;lia)) ?_;generalize OT:Uf (Uf (Uf ON A.n (.dT [])) t (.tup [W1.int d,W1.ref sa,W1.ref J,W1.ref N])) A.t (.lst (ts++[W1.ref t]))=C;have OV:Tl (hide A.own (Uf ON A.n (.dT []))) (hide A.own C):=by rw[<- OT];exact pJ (by simp[PA.own]) O8
     have OO:∀y,y∈A.own->y≠A.t->C y=(Uf ON A.n (.dT [])) y:=λy OU P0=>by rw[<- OT,UF P0,UF (Pb y OU)]
     have Ph:C A.t=some (.lst (ts++[W1.ref t])):=by rw[<- OT];exact KE
     have Pu:t∉A.own:=λz=>Pb t z rfl;have O5:∀ {b:WF},H b=none->b∉A.own:=λOU z=>OY.there z OU;have P2:H J=none:=OQ.free Po;have P4:H N=none:=OQ.free (OW.free Pp);have Pc:∀ {b:WF}{u:HO},b∉A.own->ON b=some u->hide A.own C b=some u:=λ{b u} P5 O_=>OV b u (by rw[PN];exact wl.mpr ⟨P5,O_⟩);have PL:=tQ row;have O7:=vU row h0;have O4:∀(g:xh->Nat) (f:Int×Int×Int->Int),(∀x,x∈cQ row->((g (iI x):Nat):Int)=f x)->(fV (cL row)).map (λa=>Rs (g a))=(cQ row).map λx=>W1.int (f x):=λg f PM=>by
      rw[PL,ax];refine eE λx OM=>?_;show Rs (g (iI x))=_;unfold Rs;rw[PM x OM]
     have P6:kK (hide A.own C) (W1.ref t) ⟨d.toNat,fV (cL row),f8 7 (0,0)⟩:=by
      refine nw sa J N (Ix t O (wl.mpr ⟨Pu,?_⟩)) ?_ ?_ ?_
      ·rw[<- OT,UF (λz=>Pu (by rw[z];simp[PA.own])),KE];simp only[Rs,fi (show 0<=d by lia)]
      ·rw[O4 (·.halt) (·.1) λx OM=>fi (O7 x OM).1];exact Pc (O5 Pq) (OX _ _ Pd)
      ·rw[O4 (·.comes) (·.2.1) λx OM=>fi (O7 x OM).2.1];exact Pc (O5 P2) (OX _ _ Pe)
      ·rw[O4 (·.goes) (·.2.2) λx OM=>fi (O7 x OM).2.2];exact Pc (O5 P4) (OX _ _ Pf)
     refine B rfl (wv A.x CP A.dx _ _ O ((OO A.x (by simp[PA.own]) (n 0 2 rfl)).trans D.ob) T.cl T.trips O (IN A.t _ O (.inl (TD.of Ph)) (IN _ _ O O ?_)));have hB:Ch A.own H C:=by
      rw[<- OT];exact(((Pa.but _).put (by simp[PA.own])).new O8).put (by simp[PA.own])
     have PQ:kG (hide A.own C) lk (r.trips++[⟨d.toNat,fV (cL row),f8 7 (0,0)⟩]):=by
      have PY:=O9.same OV;refine⟨λi e p Y Pl=>?_,λi e hi=>O9.no i e (by rw[ls]at hi;lia)⟩;by_cases hi:i<r.trips.length
      ·rw[ow hi]at Y;exact PY.at_ i e p Y Pl
      ·rw[ou (by lia)]at Y;rw[O9.no i e (by lia)];have:i-r.trips.length=0:=by
        cases O_:i-r.trips.length with
        |zero=>rfl
        |succ m=>rw[O_]at Y;simp at Y
       rw[this]at Y;cases Y;show(f8 7 ((0:Nat),(0:Nat))).getD e (0,0)=(0,0);rw[np,ox];simp[Pl]
     have:=k C (D.build (T':= {r with trips:=r.trips++[⟨d.toNat,fV (cL row),f8 7 (0,0)⟩]}) OV (OO A.x (by simp[PA.own]) (n 0 2 rfl)) ((OO A.c (by simp[PA.own]) (n 1 2 rfl)).trans D.chg) (B Ph (Paired.snoc (aj (λ_ _ q=>q.same OV) O2) P6)) (Ix P_ ((OO A.w (by simp[PA.own]) (n 3 2 rfl)).trans P8) (aj (λ_ _ q=>q.same OV) P9)) (zn lk ((OO A.l (by simp[PA.own]) (n 4 2 rfl)).trans PX) (by lia) PQ) ((OO A.n (by simp[PA.own]) (n 5 2 rfl)).trans KE)) hB;have PD:((ts++[W1.ref t]).length:Int)-1=(r.trips.length:Int):=by rw[ls,PZ,bK];lia
     show Q (W1.int (((ts++[W1.ref t]).length:Int)-1)) _;rw[PD];exact this)
theorem yV(xs:List W1) (h:0<=c):eI xs none (some c)=xs.take c.toNat:=by(
obtain⟨k,rfl⟩:∃k:Nat,c=(k:Int):=⟨c.toNat,by lia⟩;unfold eI;rw[HT.Be,HT.qD,CK,ee,Nat.sub_zero];by_cases q:k<=xs.length
·rw[kr q]
·rw[DH (by lia),dy,wb (by lia)])
theorem FU(xs:List W1) (h:0<=c):eI xs (some c) none=xs.drop c.toNat:=by(
obtain⟨k,rfl⟩:∃k:Nat,c=(k:Int):=⟨c.toNat,by lia⟩;unfold eI;rw[HT.Be,HT.qD,ee];by_cases q:k<=xs.length
·rw[kr q,wb (by rw[jm];lia)]
·rw[DH (by lia),CC,wc (by lia)];simp)
def yd (z:Int):W1->W1
 |.int i=>.int (i+z)
 |v=>v
theorem AR{l m:List Int}{lo:Option Int}(h0:ZB[j]?=some (some (.ref a))) (h:∀R,R lo H->tl ZB H R) (g:∀R,R hi H->th ZB H R) (e:TD K H a (l.map W1.int)) (hm:eI (l.map W1.int) lo hi=m.map W1.int) (hz:m.length<=Gc)
  (hv:∀x,nm ((nm ZB [v]).set v (some x)) [v]=nm ZB [v]) (hg:∀x,((nm ZB [v]).set v (some x))[v]?=some (some x)) (hu:∀x,((nm ZB [v]).set v (some x))[u]?=some (some (.int z)))
  (k:∀p D,H p=none->H D=none->D≠p->Q (.ref D) (Uf (Uf H p (.lst (m.map W1.int))) D (.lst ((m.map λx=>x+z).map W1.int)))):
  lH (ui K (BL (AO K) (bZ j) tl th)) (bh v) iZ (h4 (d3 λi j=>.int (i+j)) (bZ v) (bZ u)) [v] ZB H Q:=by(
refine B h0 (h _ (g _ (IN a _ O e (λp f=>?_))));rw[hm];refine zn p O ⟨_,TD.of KE⟩ (λD b=>?_);have c:D≠p:=λz=>by rw[z,KE]at b;cases b
refine pj (yd z) b (TD.of KE) (by rw[FM];exact hz) (λx n H2 q r o=>?_) ?_
·obtain⟨i,_,rfl⟩:=mo.mp n;exact⟨hv _,B (hg _) (B (hu _) (IN i z O O o))⟩
·have d:(m.map W1.int).map (yd z)=(m.map λx=>x+z).map W1.int:=by
  rw[ax,ax];rfl
 rw[d];exact k p D f (by rw[UF c]at b;exact b) c)
noncomputable def hX (l:List Int) (c:Nat) (b s:Int):List Int:=(l.take c).map (λx=>x+b)++(l.drop c).map λx=>x+s
theorem Bq (l:List Int) (c:Nat) (b s:Int):hX l c b s=(s4 l.length).map λi=>l.getD i 0+(if i<c then b else s):=by(
unfold hX;apply wm;intro i;by_cases hi:i<l.length
·rw[pr,gy hi];by_cases a:i<c
 ·rw[ow (by rw[FM,aP];lia),pr,Ci a,g1 hi];simp[a,hi]
 ·rw[ou (by rw[FM,aP];lia),FM,aP,pr,List.getElem?_drop,show c+(i-min c l.length)=i by lia,g1 hi];simp[a,hi]
·rw[ip (by rw[ls,FM,FM,aP,jm];lia),ip (by rw[FM,fZ];lia)])
def vF:Sp:=λvs H Q _=>∃(a:WF) (l:List Int) (c b s:Int),vs=[.ref a,.int c,.int b,.int s]/\H a=some (.lst (l.map W1.int))/\0<=c/\l.length<=1000000/\
 ∀(I:Hp) (p:WF),Tl H I->H p=none->I p=some (.lst ((hX l c.toNat b s).map W1.int))->Q (.ref p) I
theorem nE:pu ["minutes","call","before","since","minute"] zay (s1 qW):=nb rfl rfl rfl (by decide +kernel)
theorem J6(F:sB K "shifted" "shifted" qW f fd):AC P w K mg base xL 1 f fd zay vF:=by(
refine F.ar nE (λvs H Q E h=>?_) (λOQ OO outer s0 H vs Q E OS h=>?_)
·refine hN h λa l c b s OM _=>?_;subst OM;rfl
·intro OP;refine hO h λa l c b s ON r t OR k=>?_;subst ON;refine B (Fa (tt (jp Ke
  (iV (own:=[("minute",4)]) rfl nE.nd (cy (nj nF (V 0) fI (d2 (V 1)))) (fx rfl) (λ_ _ _ _ _=>zG 4 nE) (λ_ _ _ _ _=>gn) (λ_ _ _ _ _=>jp bG (V 4) (V 2)))
  (iV (own:=[("minute",4)]) rfl nE.nd (cy (nj nF (V 0) (d2 (V 1)) fI)) (fx rfl) (λ_ _ _ _ _=>zG 4 nE) (λ_ _ _ _ _=>gn) (λ_ _ _ _ _=>jp bG (V 4) (V 3)))))) ?_
 have sz:∀ {m:Nat},m<=1000000->m<=Gc:=λh=>ed (small h);dsimp only[h4,BK];refine AR (K:=K) (j:=0) (v:=4) (u:=2) (l:=l) (m:=l.take c.toNat) (lo:=none) (hi:=some c) (z:=b) ?h0 ?h1 ?h2 (TD.of r) ?hm (sz (by rw[aP];lia)) ?hv ?hg ?hu λY d T D L=>?_
 case h0=>rfl
 case h1=>exact λR q=>q
 case h2=>exact λR q=>B rfl (Ix c O q)
 case hm=>rw[yV _ t,nM]
 case hv=>exact λ_=>rfl
 case hg=>exact λ_=>rfl
 case hu=>exact λ_=>rfl
 generalize n:Uf (Uf H Y (.lst ((l.take c.toNat).map W1.int))) d (.lst (((l.take c.toNat).map λx=>x+b).map W1.int))=H1;have g:Tl H H1:=by rw[<- n];exact(Tl.new T).tr (Tl.new (by rw[UF L];exact D))
 have A:H1 d=some (.lst (((l.take c.toNat).map λx=>x+b).map W1.int)):=by rw[<- n];exact KE
 refine AR (K:=K) (j:=0) (v:=4) (u:=3) (l:=l) (m:=l.drop c.toNat) (lo:=some c) (hi:=none) (z:=s) ?h0 ?h1 ?h2 (TD.of (g _ _ r)) ?hm (sz (by rw[jm];lia)) ?hv ?hg ?hu λp2 e U J N=>?_
 case h0=>rfl
 case h1=>exact λR q=>B rfl (Ix c O q)
 case h2=>exact λR q=>q
 case hm=>rw[FU _ t,wz]
 case hv=>exact λ_=>rfl
 case hg=>exact λ_=>rfl
 case hu=>exact λ_=>rfl
 generalize o:Uf (Uf H1 p2 (.lst ((l.drop c.toNat).map W1.int))) e (.lst (((l.drop c.toNat).map λx=>x+s).map W1.int))=H2;have i:Tl H1 H2:=by rw[<- o];exact(Tl.new U).tr (Tl.new (by rw[UF N];exact J))
 have C:H2 e=some (.lst (((l.drop c.toNat).map λx=>x+s).map W1.int)):=by rw[<- o];exact KE
 refine bi d e _ _ O O (i _ _ A) C (sz (by simp only[FM,aP,jm];lia)) (λp y=>?_);refine k _ p ((g.tr i).tr (Tl.new y)) ((g.tr i).free y) ?_;rw[KE,<-bL];rfl)
noncomputable def u' (d:Nat) (k:Int) (p:bu):aQ:=(p.calls.map (·.halt),hX (p.calls.map λa=>(a.comes:Int)) ((p.late.getD d (0,0)).1+1) (k*1440) (k*1440+((p.late.getD d (0,0)).2:Nat)),hX (p.calls.map λa=>(a.goes:Int)) (p.late.getD d (0,0)).1 (k*1440) (k*1440+((p.late.getD d (0,0)).2:Nat)))
theorem LN (M:Nat) (k:Int) (p:bu):u' (fU M k) k p=aO M k p:=by(
unfold u' aO;rw[Bq,Bq];simp only[FM];have b:∀i,i<p.calls.length->(p.calls.map λa=>((a.comes:Nat):Int)).getD i 0=(((p.calls.getD i ⟨0,0,0⟩).comes:Nat):Int):=λi hi=>by
 simp[np,pr,g1 hi]
have c:∀i,i<p.calls.length->(p.calls.map λa=>((a.goes:Nat):Int)).getD i 0=(((p.calls.getD i ⟨0,0,0⟩).goes:Nat):Int):=λi hi=>by
 simp[np,pr,g1 hi]
refine cM (Prod.mk _) (congr (cM Prod.mk ?_) ?_)
·refine eE λi hi=>?_;rw[b i (bS.mp hi)];unfold xY xX;split<;>split<;>lia
·refine eE λi hi=>?_;rw[c i (bS.mp hi)];unfold xZ xX;split<;>split<;>lia)
def ov (G H I:Hp):Hp:=λa=>if((H a).isNone||(G a).isSome)=true then I a else none
theorem Ko(h:G a=some o) (h':I a=some o'):ov G H I a=some o':=by
 unfold ov;rw[No (by rw[h];simp)];exact h'
theorem uP(h:H a=none) (h':I a=some o'):ov G H I a=some o':=by
 unfold ov;rw[No (by rw[h];simp)];exact h'
theorem Kn(h:H a=some o) (h':G a=none):ov G H I a=none:=by
 unfold ov;rw[Ps (by rw[h,h'];simp)]
theorem Kp:Tl (ov G H I) I:=λa o e=>by
 unfold ov at e;split at e
 ·exact e
 ·cases e
def vE (CP CN:WF):Sp:=λvs H Q _=>∃(G:Hp) (A:PA) (T:t1) (m i d:Nat) (k:Int) (p:bu),vs=[.ref A.x,Rs i,.int k,Rs d]/\Tl G H/\cd CP CN G A T m/\T.trips[i]?=some p/\d<7/\(-1<=k/\k<=1)/\p.calls.length<=1000/\
 ∀(I:Hp) (t:WF),Tl H I->gb (ov G H I) (.ref t) ((i,k),u' d k p)->Q (.ref t) I
theorem gV:pu ["self","trip","begins","weekday","days","stops","comes","goes","midnight","call","minutes","came","gone"] zaz (s1 qS):=nb rfl rfl rfl (by decide +kernel)
theorem J2(F:sB K "run_of" "Plan.run_of" qS f fd) (T:bV K mg CP) (OM:AC P w K mg base xL 1 OQ O5 zay vF) (ON:Binds K O5 zay []) (OW:mg "shifted"=some (.ref OQ)) (OV:cV K (.ref OQ)=true):AC P w K mg base xL 2 f fd zaz (vE CP CN):=by
 refine F.ar gV (λvs H Q E h=>?_) (λPn Pk outer s0 H vs Q E N h=>?_)
 ·refine pW h λG A OZ m i d k p Ph=>?_;obtain⟨rfl,_⟩:=Ph;rfl
 ·intro Pm;refine pW h λG A OZ m i d k p Pj=>?_;obtain⟨rfl,y,C,OT,hd,Po,hz,Pb⟩:=Pj;have OS:=C.same y;have hu:=hK N;refine B (On (dI (xz wE (wS (V 0) rfl) (V 1)) (cw rfl (re (zG 4 gV) (re (zG 5 gV) (re (zG 6 gV) (re (zG 7 gV) cx))))))
   (On (zS 8 gV (jp Kh (V 2) (nl T.md rfl)))
   (On (dI (uT hu (wS (V 0) rfl) (bY (UV (V 1) (UV (V 3) PP))) (bY (UV EQ (UV EQ PP))) ⟨O,O,O,O⟩) (cw rfl (re (zG 9 gV) (re (zG 10 gV) cx))))
   (On (zS 11 gV (ge OM N rfl OW OV ON .nil ws (UV (V 6) (UV (jp bG (V 9) EQ) (UV (V 8) (UV (jp bG (V 8) (V 10)) PP))))))
   (On (zS 12 gV (ge OM N rfl OW OV ON .nil ws (UV (V 7) (UV (V 9) (UV (V 8) (UV (jp bG (V 8) (V 10)) PP))))))
   (Fa (tt (bY (UV (V 1) (UV (V 2) (UV (V 5) (UV (V 11) (UV (V 12) PP))))))))))))) ?_
  obtain⟨ts,Y,Pg⟩:=C.trips;obtain⟨lk,s,Pp,Pc⟩:=C.late
  replace Y:=y _ _ Y
  replace s:=y _ _ s
  obtain⟨v,hv,sa,OO,OR,⟨ta,rfl,Pa⟩,OU,O7,O9⟩:=c5 Pg OT;have sub:Tl (hide A.own G) H:=λb o e=>y _ _ (b7 A.own G _ _ e);refine B rfl (wv A.x CP A.dx _ _ O OS.ob T.cl T.trips O (B rfl (Db A.t _ _ _ O O (TD.of Y) (lv hv) (g2 ta _ O (pm.of (sub _ _ Pa)) O (im _ _ O (im _ _ O (im _ _ O (IN _ _ O O ?_))))))));refine B rfl (g2 k 1440 O O (.inl ⟨by lia,by lia⟩) ?_);refine B rfl (wv A.x CP A.dx _ _ O OS.ob T.cl T.late O (zn A.l O (.inr ⟨_,.inl s⟩) (B rfl (zn _ O (by show 2<=Gc;decide) (λtk Pf=>⟨by show 2<=Gc;decide,λz OY=>?_⟩)))));generalize D:Uf (Uf H tk (.tup [Rs i,Rs d])) z (.tup [W1.int 0,W1.int 0])=H1;have j:Tl H H1:=by rw[<- D];exact(Tl.new Pf).tr (Tl.new OY)
  have O3:H1 tk=some (.tup ((el i d).map kV)):=by rw[<- D];exact Tl.new OY _ _ KE
  have O4:H1 z=some (.tup [W1.int 0,W1.int 0]):=by rw[<- D];exact KE
  refine B (cN.t (k:=el i d) (j _ _ s) O3) ?_;obtain⟨c,mi,L⟩:∃c mi:Nat,p.late.getD d (0,0)=(c,mi):=⟨_,_,O⟩;have O6:∃n,(io lk (el i d)).getD (W1.ref z)=W1.ref n/\H1 n=some (.tup [Rs c,Rs mi]):=by
   have:=Pc.at_ i d p OT hd;rw[L]at this;cases q:io lk (el i d)with
   |none=>
    rw[q]at this;have e:(c,mi)=(0,0):=this;cases e;exact Ix z O O4
   |some v=>
    rw[q]at this;obtain⟨n,rfl,J⟩:=this;exact Ix n O (j _ _ (sub _ _ J))
  obtain⟨n,O2,J⟩:=O6;rw[O2];refine g2 n _ O (pm.of J) O (im _ _ O (IN _ _ O O ?_));have OP:∀(g:xh->Nat),(p.calls.map λa=>Rs (g a))=(p.calls.map λa=>((g a:Nat):Int)).map W1.int:=λg=>by rw[ax];rfl
  have O8:H1 OO=some (.lst ((p.calls.map λa=>((a.comes:Nat):Int)).map W1.int)):=by rw[<- OP (·.comes)];exact j _ _ (sub _ _ O7)
  refine B rfl (B rfl (IN _ _ O O (B rfl (B rfl (B rfl (IN _ _ O O (b0 OO (p.calls.map λa=>((a.comes:Nat):Int)) _ _ _ ⟨O,O8,by lia,by rw[FM];lia,λH2 p2 r Pd O0=>?_⟩)))))));have O_:H2 OR=some (.lst ((p.calls.map λa=>((a.goes:Nat):Int)).map W1.int)):=by rw[<- OP (·.goes)];exact r _ _ (j _ _ (sub _ _ O9))
  refine B rfl (B rfl (B rfl (B rfl (B rfl (IN _ _ O O (b0 OR (p.calls.map λa=>((a.goes:Nat):Int)) _ _ _ ⟨O,O_,by lia,by rw[FM];lia,λPl U u Pe O1=>?_⟩))))));refine Ix (Rs i) O (Ix (W1.int k) O (Ix (W1.ref sa) O (Ix (W1.ref p2) O (zn (W1.ref U) O (by show 5<=Gc;decide) (λt OX=>?_)))));have st:=Tl.new (o:=HO.tup [Rs i,W1.int k,W1.ref sa,W1.ref p2,W1.ref U]) OX;refine Pb _ t (((j.tr r).tr u).tr st) (nw sa p2 U (Ix t O (uP (((j.tr r).tr u).free OX) KE)) ?_ ?_ ?_)
  ·have:=st _ _ (u _ _ (r _ _ (j _ _ (sub _ _ OU))));rw[Ko (b7 A.own G _ _ OU) this];show some (HO.lst (p.calls.map λa=>Rs a.halt))=some (HO.lst ((p.calls.map (·.halt)).map Rs));rw[ax];rfl
  ·rw[uP (j.free Pd) (st _ _ (u _ _ O0))];show _=some (HO.lst ((hX (p.calls.map λa=>((a.comes:Nat):Int)) ((p.late.getD d (0,0)).1+1) (k*1440) (k*1440+((p.late.getD d (0,0)).2:Nat))).map W1.int));rw[L];have e:((c:Int)+1).toNat=c+1:=by lia
   show some (HO.lst ((hX (p.calls.map λa=>((a.comes:Nat):Int)) ((c:Int)+1).toNat (k*1440) (k*1440+(mi:Int))).map W1.int))=some (HO.lst ((hX (p.calls.map λa=>((a.comes:Nat):Int)) (c+1) (k*1440) (k*1440+(mi:Int))).map W1.int));rw[e]
  ·rw[uP ((j.tr r).free Pe) (st _ _ O1)];show _=some (HO.lst ((hX (p.calls.map λa=>((a.goes:Nat):Int)) ((p.late.getD d (0,0)).1) (k*1440) (k*1440+((p.late.getD d (0,0)).2:Nat))).map W1.int));rw[L];rfl
noncomputable def zt (M i:Nat) (p:bu) (ks:List Int):List ((Nat×Int)×aQ):=(ks.filter λk=>p.runs M k).map λk=>((i,k),aO M k p)
noncomputable def cR (M:Nat) (l:List bu):List ((Nat×Int)×aQ):=l.zipIdx.flatMap λx=>zt M x.2 x.1 [-1,0,1]
theorem lN (T:t1) (M:Nat):(cR M T.trips).map (·.2)=wT T M:=by(
unfold cR zt wT v4;rw[rP,rP]
congr 1;funext x
rw[ax,ax];rfl)
theorem B9 (T:t1) (M:Nat):(cR M T.trips).map (·.1)=lm T M:=by(
unfold cR zt lm v4;rw[rP,rP]
congr 1;funext x
rw[ax,ax];rfl)
theorem Nq{l:List bu}(h:l[i]?=some p):cR M (l.take (i+1))=cR M (l.take i)++zt M i p [-1,0,1]:=by(
have hi:=(aD.mp h).1;unfold cR;rw[cB,h,cK,wi,oB]
congr 1
simp[aP,kr (ed hi)])
theorem Cf{ks:List Int}(h:ks[j]?=some k):zt M i p (ks.take (j+1))=zt M i p (ks.take j)++(if p.runs M k=true then [((i,k),aO M k p)]else []):=by
 unfold zt;rw[cB,h,cK,kz,bL];by_cases c:p.runs M k=true<;>simp[c]
theorem rJ (M:Nat) (l:List bu):(cR M l).length<=3*l.length:=by(
unfold cR;rw[wg];have:∀(m:List (bu×Nat)),(m.map λx=>(zt M x.2 x.1 [-1,0,1]).length).sum<=3*m.length:=λm=>by
 induction m with
 |nil=>simp
 |cons x m b=>
  have a:(zt M x.2 x.1 [-1,0,1]).length<=3:=by
   unfold zt;rw[FM];exact ma ..
  rw[m0,dV,bt];lia
have:=this l.zipIdx;rw[Cy]at this;exact this)
theorem LP (M:Nat) (k:Int) (p:bu):decide (W1.int (sT ((p.days:Int)/2^(((M:Int)+k)%7).toNat) 1)=W1.int 1)=p.runs M k:=by(
unfold Oj fU;have e:(((M:Int)+k+7)%7).toNat=(((M:Int)+k)%7).toNat:=by lia
rw[Of,e,Nat.testBit_eq_decide_div_mod_eq,iv];constructor
·intro h;injection h with h;exact_mod_cast h
·intro h;congr 1;exact_mod_cast h)
theorem Nk (M:Nat) (k:Int):W1.int (((M:Int)+k)%7)=Rs (fU M k):=by(
unfold Rs fU
congr 1;lia)
theorem Nl (M:Nat) (k:Int):fU M k<7:=by
 unfold fU;lia
def rh (CP CN:WF):Sp:=λvs H Q _=>∃(A:PA) (T:t1) (m d:Nat),vs=[.ref A.x,Rs d]/\cd CP CN H A T m/\oP T/\(∀p,p∈T.trips->p.calls.length<=64)/\
 ∀(I:Hp) (b:WF) (a:List W1),Tl H I->I b=some (.lst a)->Paired (gb I) a (cR d T.trips)->Q (.ref b) I
theorem nD:pu ["self","day","runs","trip","begins","weekday"] zab (s1 qT):=nb rfl rfl rfl (by decide +kernel)
theorem J3(F:sB K "runs_around" "Plan.runs_around" qT f fd) (T:bV K mg CP) (O6:AC P w K mg base xL 2 Pa Pb zaz (vE CP CN)) (O8:Binds K Pb zaz []) (Pm:cf K CP "run_of" Pa):AC P w K mg base xL 3 f fd zab (rh CP CN):=by
 refine F.ar nD (λvs H Q E h=>?_) (λPz Pw outer s0 H vs Q E Ph h=>?_)
 ·refine j0 h λA l m d Pt _=>?_;subst Pt;rfl
 ·intro Px;refine gQ h λA l m d Pu Y hT Pc k=>?_;subst Pu;refine B (On (zS 2 nD (db PP))
   (On (cH bN rfl (nk rfl T.range (UV (a0 b6 (by rfl) T.len b1 (UV (wS (V 0) rfl) PP)) PP)) (zG 3 nD)
    (Fa (cH bN rfl (KY (bY (UV (eL eP EQ) (UV EQ (UV EQ PP))))) (zG 4 nD)
     (On (zS 5 nD (jp Kg (jp bG (V 1) (V 4)) (nl T.dw rfl)))
     (Fa (it (ga c0 (jp Kd (jp Kk (xz gN (xz wE (wS (V 0) rfl) (V 3)) EQ) (V 5)) EQ) EQ (li _))
      (Fa (ca (cG cm da dc cZ (V 2) (UV (aA (V 0) T.cl Pm O6 Ph O8 .nil ws (UV (V 3) (UV (V 4) (UV (V 5) PP)))) PP)))) he))))))
   (Fa (tt (V 2))))) ?_
  obtain⟨ts,O4,O5⟩:=Y.trips;have PK:ts.length=l.trips.length:=Paired.length O5;refine⟨f4 _,λb OT=>?_⟩;have OV:Tl H (Uf H b (.lst [])):=Tl.new OT;refine B rfl (wv A.x CP A.dx _ _ O (OV _ _ Y.ob) T.cl T.trips O (IN A.t _ O (.inl (TD.of (OV _ _ O4))) ⟨_,O,by lia,by have:=hT.trips;lia,?_⟩));have en:((ts.length:Nat):Int).toNat=l.trips.length:=by lia
  let OQ:Nat->St->Hp->Prop:=λi ZB H2=>∃OX D J o,ZB=[some (.ref A.x),some (Rs d),some (.ref b),OX,D,J]/\H2 b=some (.lst o)/\Paired (gb (hide [b] H2)) o (cR d (l.trips.take i))/\Tl H H2
  refine kY OQ
   (dQ none none none ([]) ⟨O,KE,.nil,OV⟩) ?_ ?_
  ·rintro i ZB H2 hi ⟨OX,D,J,o,rfl,OS,ON,OW⟩;have hi:i<l.trips.length:=n' hi en;have O9:(0:Int)+((i:Nat):Int)=((i:Nat):Int):=by lia
   show bh 3 (W1.int ((0:Int)+((i:Nat):Int))) _ _ _;rw[O9];obtain⟨p,OM⟩:∃p,l.trips[i]?=some p:=⟨_,g1 hi⟩;obtain⟨PL,Pl,sa,Py,PB,⟨ta,rfl,Pj⟩,PH,PD,PF⟩:=c5 O5 OM;have Pk:=b7 _ _ _ _ Pj;refine zn _ O (by show 3<=Gc;decide) (λU Pn=>?_);have st:Tl H2 (Uf H2 U (.tup [W1.int (-1),W1.int 0,W1.int 1])):=Tl.new Pn;refine zn U O ⟨_,pm.of KE⟩ ?_;have gi:Tl (hide [b] H2) (hide [b] (Uf H2 U (.tup [W1.int (-1),W1.int 0,W1.int 1]))):=λc u e=>by
    obtain⟨OO,OU⟩:=wl.mp e;exact wl.mpr ⟨OO,st _ _ OU⟩
   let OQ:Nat->St->Hp->Prop:=λj ZB r=>∃D J o,ZB=[some (.ref A.x),some (Rs d),some (.ref b),some (Rs i),D,J]/\r b=some (.lst o)/\r U=some (.tup [W1.int (-1),W1.int 0,W1.int 1])/\Paired (gb (hide [b] r)) o (cR d (l.trips.take i)++zt d i p (([-1,0,1]:List Int).take j))/\Tl H r
   refine GZ (K:=K) (a:=U) (xs:=[W1.int (-1),W1.int 0,W1.int 1]) OQ
    (bb D J o O (st _ _ OS) KE (by rw[show zt d i p (([-1,0,1]:List Int).take 0)=[] from rfl,fm];exact aj (λ_ _ q=>q.same gi) ON) (OW.tr st)) (λj ZB r _ Pr=>by obtain⟨_,_,_,_,_,q,_,_⟩:=Pr;exact pm.of q) ?_ ?_
   ·rintro j Pq ZB r Pf ⟨Po,Pp,C,rfl,y,L,N,s⟩;obtain⟨g,O2,rfl,Pg⟩:∃g:Int,([-1,0,1]:List Int)[j]?=some g/\Pq=W1.int g/\(-1<=g/\g<=1):=by
     match j,Pf with
     |0,h=>exact zn (-1) O (by simpa using h.symm) (by decide)
     |1,h=>exact zn 0 O (by simpa using h.symm) (by decide)
     |2,h=>exact zn 1 O (by simpa using h.symm) (by decide)
     |n+3,h=>simp at h
    have O1:=Y.same s;have PJ:C.length<=10000:=by
     rw[Paired.length N,ls];have h1:=rJ d (l.trips.take i);have h2:(zt d i p (([-1,0,1]:List Int).take j)).length<=3:=by
      unfold zt;rw[FM];refine dz (ma ..) ?_;rw[aP];exact Nat.min_le_right ..
     rw[aP]at h1;have:=hT.trips;lia
    refine B rfl (B rfl (IN _ _ O O (g2 _ _ O O (by show(0:Int)<7;decide) ?_)));show bh 5 (W1.int (((d:Int)+g)%7)) _ _ _;rw[Nk];refine B rfl (wv A.x CP A.dx _ _ O O1.ob T.cl T.trips O (B rfl (Db A.t _ _ _ O O (TD.of (s _ _ O4)) (lv Pl) (Db ta _ _ _ O O (pm.of (s _ _ Pk)) O (B rfl (g2 _ _ O O (D7 _) (g2 _ _ O O O (B rfl ?_))))))));have OZ:=LP d g p;have O_:(((d:Int)+g)%7).toNat=fU d g:=by unfold fU;lia
    rw[O_]at OZ;have O0:decide (W1.int (sT ((p.days:Int)/2^((fU d g:Nat):Int).toNat) 1)=W1.int 1)=p.runs d g:=by rw[ee];exact OZ
    show if decide (W1.int (sT ((p.days:Int)/2^((fU d g:Nat):Int).toNat) 1)=W1.int 1)=true then _ else _;by_cases c:p.runs d g=true
    ·rw[O0.trans c];refine wn ?_;refine zn _ O (.inl ⟨O,⟨_,TD.of y⟩⟩) (B rfl (nw A.x A.dx _ O O1.ob O (B rfl (B rfl (B rfl (fc H A l m i (fU d g) g p ⟨O,s,Y,OM,Nl d g,Pg,by have:=Pc p (pi OM);lia,λO7 t OP O3=>?_⟩))))));rw[LN]at O3;have Pd:=OP _ _ y;refine bb b C _ O O Pd (small (by lia)) (bb _ _ (C++[W1.ref t]) O KE ?_ ?_ (λOR u e=>?_))
     ·exact(UF (λz=>by rw[z,y]at L;cases L)).trans (OP _ _ L)
     ·have Pe:Tl (hide [b] r) (hide [b] (Uf O7 b (.lst (C++[W1.ref t])))):=λOR u e=>by
       obtain⟨OO,OU⟩:=wl.mp e;exact wl.mpr ⟨OO,(UF (by simpa using OO)).trans (OP _ _ OU)⟩
      rw[Cf O2,No c,<-dv];refine Paired.snoc (aj (λ_ _ q=>q.same Pe) N) ?_;refine O3.same λOR u e=>?_;have OY:OR≠b:=λz=>by rw[z,Kn y OT]at e;cases e
      exact wl.mpr ⟨by simpa using OY,(UF OY).trans (Kp _ _ e)⟩
     ·rw[UF (v0 e OT)];exact OP _ _ (s _ _ e)
    ·rw[O0.trans (by simpa using c)];refine v6 ?_;exact bb _ _ C O y L (by rw[Cf O2,Ps c,fm];exact N) s
   ·rintro ZB r ⟨Po,Pp,C,rfl,y,L,N,s⟩;exact dQ _ _ _ C ⟨O,y,by rw[Nq OM];exact N,s⟩
  ·rintro ZB H2 ⟨OX,D,J,o,rfl,OS,ON,OW⟩;rw[en,dy]at ON;exact B rfl (k H2 b o OW OS (aj (λ_ _ q=>q.same (b7 _ _)) ON))
structure eY (T:t1):Prop where
 bd:bm T
 sz:oP T
 jF:∀p,p∈T.trips->p.calls.length<=64
theorem nJ {a:Type}(f:a->Nat) (b:Nat):∀l:List a,(∀x,x∈l->f x<=b)->(l.map f).sum<=b*l.length
 |[],_=>by simp
 |x::l,h=>by
  have h1:=h x (kt ..);have h2:=nJ f b l λy c=>h y (o0 _ c);rw[m0,dV,bt,Nat.mul_add];lia
theorem Kb (n k:Nat):((s4 n).map λs=>if(k==s)=true then 1 else 0).sum<=1/\(n<=k->((s4 n).map λs=>if(k==s)=true then 1 else 0).sum=0):=by(
induction n with
|zero=>simp
|succ n a=>
 rw[wt,bL,List.sum_append];by_cases c:k=n
 ·have:=a.2 (by lia);constructor
  ·simp only[m0,hr,dV,CM];rw[this];split<;>lia
  ·lia
 ·have e:(k==n)=false:=by simpa using c
  simp only[m0,hr,e,fX,aK,dV,CM];exact⟨by have:=a.1;lia,λh=>by have:=a.2 (by lia);lia⟩)
theorem BD (n:Nat):∀L:List (Nat×on),((s4 n).map λs=>(L.filter λd=>d.1==s).length).sum<=L.length
 |[]=>by
  have:((s4 n).map λs=>(([]:List (Nat×on)).filter λd=>d.1==s).length)=(s4 n).map λ_=>0:=rfl;rw[this];have:=nJ (λ_:Nat=>0) 0 (s4 n) λ_ _=>tz _;simpa using this
 |d::L=>by
  have b:=BD n L;have e:((s4 n).map λs=>((d::L).filter λd=>d.1==s).length).sum=((s4 n).map λs=>if(d.1==s)=true then 1 else 0).sum+((s4 n).map λs=>(L.filter λd=>d.1==s).length).sum:=by
   generalize s4 n=r
   induction r with
   |nil=>rfl
   |cons s r a=>
    simp only[m0,dV,a];rw[oG];by_cases c:(d.1==s)=true
    ·rw[No c,No c,bt];lia
    ·rw[Ps c,Ps c];lia
  rw[e,bt];have:=(Kb n d.1).1;lia
theorem zo {a:Type}(l:List (List a)):l.map cC=(s4 l.length).map λs=>(l.getD s []).length:=by(
apply wm;intro i;by_cases hi:i<l.length
·rw[pr,pr,gy hi,g1 hi];simp[np,hi]
·rw[ip (by rw[FM];lia),ip (by rw[FM,fZ];lia)])
theorem Ai(h:ss f R gt W N) (j:my f.length R) (k:∀s g m,(s,g,m)∈W->g<f.length) (h1:f.length<=1000) (h2:R.length<=100000) (p:(R.map λx=>x.1.length).sum<=300000):dd N:=by(
have hm:∀r,r<N.runs.length->R.getD r ([],[],[])∈R:=λr a=>getD_mem (by rw[<- h.e9];exact a) _;have c:=h.n;refine⟨by rw[h.hI,c],by rw[h.mM,c],λs g m b q=>?_,λr i a hi=>?_,λr a=>?_,λr a=>?_,λs e b l=>?_,by rw[c];exact h1,?_,by rw[h.e9];lia,λr=>?_⟩
·rw[c]at b⊢;exact k s g m ((h.uA b).mp q)
·rw[h.stop,c];rw[h.len]at hi;exact j.stops _ (hm r a) _ (getD_mem hi _)
·rw[h.len];exact j.pos _ (hm r a)
·rw[h.len,h.run];exact j.comes _ (hm r a)
·rw[c]at b;obtain⟨x,o,_⟩:=Ac.mp ((h.perm s b).mem_iff.mp l);rw[h.e9];exact(aD.mp o).1
·have e:N.af.map cC=(s4 f.length).map λs=>((ei R).filter λd=>d.1==s).length:=by
  rw[zo,h.hI];refine eE λs b=>?_;rw[(h.perm s (bS.mp b)).length_eq];unfold jI;rw[FM]
 rw[e];have t:=BD f.length (ei R);have u:=ye R;lia
·rw[h.len];by_cases a:r<R.length
 ·have:=jR (R.map λx=>x.1.length) r;rw[np,pr,g1 a]at this;rw[np,g1 a];simp only[ik,xt]at this⊢;lia
 ·rw[np,ip (by lia)];simp)
section
variable {T:t1}(hT:eY T) (d:Nat)
include hT
theorem B_:((cR d T.trips).map λy=>y.2.1.length).sum<=300000:=by(
have h1:=rJ d T.trips;have h2:=nJ (λy:(Nat×Int)×aQ=>y.2.1.length) 64 (cR d T.trips) λy a=>by
 unfold cR zt at a;obtain⟨x,b,a⟩:=fk.mp a;obtain⟨k,_,rfl⟩:=mo.mp a;simp only[aO,FM];exact hT.jF _ (pi (ih.mp b))
have:=hT.sz.trips;lia)
theorem zl:oK (up T) (cR d T.trips) (ol T):=by(
have g:(up T).length=T.stops.length:=by simp[up]
have ok:=j5 hT.bd d;have f:∀y,y∈cR d T.trips->y.2∈wT T d:=λy e=>by rw[<- lN];exact mb e
refine⟨by rw[g];have:=hT.sz.stops;lia,by have:=rJ d T.trips;have:=hT.sz.trips;lia,B_ hT d,λy e=>?_,by simp only[ol,FM];have:=hT.sz.walks;lia,λw hw=>?_⟩
·exact⟨ok.goes _ (f y e),ok.pos _ (f y e),λst h=>by rw[g];exact ok.stops _ (f y e) st h⟩
·obtain⟨a,b,c⟩:=w;exact(kh hT.bd a b c hw).1)
theorem p_:((wT T d).map λx=>x.1.length).sum<=300000:=by
 have:=B_ hT d;rw[<- lN,ax];exact this
theorem A':(wT T d).length<=100000:=by
 rw[<- lN,FM];have:=rJ d T.trips;have:=hT.sz.trips;lia
theorem jM(h:ss (up T) (wT T d) (lm T d) (ol T) N):dd N:=by(
have a:(up T).length=T.stops.length:=by simp[up]
refine Ai h (by rw[a];exact j5 hT.bd d) (λs g m q=>(kh hT.bd s g m q).2.1) (by rw[a];have:=hT.sz.stops;lia) (A' hT d) (p_ hT d))
theorem yF(h:ss (up T) ((wT T d).map ut) (lm T d) ((ol T).map bD) N):dd N:=by(
have k:(up T).length=T.stops.length:=by simp[up]
refine Ai h (by rw[k];exact yp hT.bd d) (λs g m q=>?_) (by rw[k];have:=hT.sz.stops;lia) (by rw[FM];exact A' hT d) ?_
·obtain⟨⟨a,b,c⟩,hw,e⟩:=mo.mp q;injection e with i f;injection f with f j;simp only at i f j;subst i f j;exact(kh hT.bd _ _ _ hw).1
·rw[ax];have:((λx:aQ=>x.1.length)∘ut)=λx=>x.1.length:=funext λx=>by simp[ut]
 rw[this];exact p_ hT d)
end
def f9 (H I:Hp):Prop:=∀b o,H b=some o->(∀l,o≠HO.dT l)->I b=some o
theorem f9.put(h:H q=some (.dT l)):f9 H (Uf H q (.dT l')):=λb o e m=>by
 rw[UF (λz=>by rw[z,h]at e;exact m _ (b3 e).symm)];exact e
theorem f2.jS(s:f9 H I) (h:f2 CN H n N):f2 CN I n N:=by(
refine et h.ex λm c r o d f Q os ds fs h1 h2 t u y A D E J p=>?_;have T:∀ {b:WF}{C dx:WF}{fs:List (Str×W1)},H b=some (.ins C dx fs)->I b=some (.ins C dx fs):=λe=>s _ _ e λ_ z=>by cases z
have tl:∀ {b:WF}{l:List W1},H b=some (.lst l)->I b=some (.lst l):=λe=>s _ _ e λ_ z=>by cases z
have j:∀ {v:W1}{l:List W1},TupAt H v l->TupAt I v l:=λU=>by obtain⟨a,e,q⟩:=U;exact Ix a e (s _ _ q λ_ z=>by cases z)
have k:∀ {v:W1}{l:List W1},LstAt H v l->LstAt I v l:=λY=>by obtain⟨a,e,q⟩:=Y;exact Ix a e (tl q)
refine⟨m,c,r,o,d,f,Q,os,ds,fs,T h1,tl h2,tl t,aj (λv x OM=>by obtain⟨a,b,g,i,L⟩:=OM;exact IN a b (j g) (tl i) (tl L)) u,tl y,aj (λv x ON=>by obtain⟨es,g,i⟩:=ON;exact Ix es (k g) (aj (λ_ _ q=>j q) i)) A,tl D,aj (λv x OO=>by obtain⟨es,g,i⟩:=OO;exact Ix es (k g) (aj (λ_ _ q=>j q) i)) E,tl J,aj (λ_ _ q=>j q) p⟩)
def hx (CN:WF) (H:Hp) (T:t1) (d:Nat) (v:W1):Prop:=∃a N,v=W1.ref a/\f2 CN H a N/\ss (up T) (wT T d) (lm T d) (ol T) N
def ml (CN:WF) (H:Hp) (T:t1) (d:Nat) (v:W1):Prop:=∃a N,v=W1.ref a/\f2 CN H a N/\ss (up T) ((wT T d).map ut) (lm T d) ((ol T).map bD) N
theorem cd.put(h:cd CP CN H A T m) (o:H A.n=some (.dT k)) {z:Str}(s:z="forward"->hx CN H T d v) (hB:z="mirrored"->ml CN H T d v):
  cd CP CN (Uf H A.n (.dT (aC k (ck z d) v))) A T (m+1):=by(
have n:=lj h.nd;have j:hide A.own (Uf H A.n (.dT (aC k (ck z d) v)))=hide A.own H:=fD (by simp[PA.own]);obtain⟨ts,y,C⟩:=h.trips;obtain⟨J,D,E⟩:=h.walks;obtain⟨lk,t,L,x⟩:=h.late;obtain⟨r,p,n2,n3⟩:=h.bo;have e:r=k:=by rw[o]at p;cases p;rfl
subst e;have nd:=f9.put (l':=aC r (ck z d) v) o;refine⟨h.nd,(UF (n 0 5 rfl)).trans h.ob,(UF (n 1 5 rfl)).trans h.chg,(Ix ts ((UF (n 2 5 rfl)).trans y) (by rw[j];exact C)),(Ix J ((UF (n 3 5 rfl)).trans D) (by rw[j];exact E)),(zn lk ((UF (n 4 5 rfl)).trans t) (by lia) (by rw[j];exact x)),(zn _ KE ?_ (λd' l=>⟨λu hu=>?_,λu hu=>?_⟩))⟩
·unfold aC;split
 ·rw[FM];lia
 ·rw[ls,bK];lia
·rw[kf]at hu;split at hu
 ·next q=>
  cases hu;simp only[ck,kx,and_true]at q;obtain⟨g,i⟩:=q;injection g with g;injection i with i;have:d'=d:=by lia
  subst this;refine Do (s g.symm) λa N b c f=>?_;exact IN a N b (c.jS nd) f
 ·refine Do ((n3 d' l).1 u hu) λa N b c f=>?_;exact IN a N b (c.jS nd) f
·rw[kf]at hu;split at hu
 ·next q=>
  cases hu;simp only[ck,kx,and_true]at q;obtain⟨g,i⟩:=q;injection g with g;injection i with i;have:d'=d:=by lia
  subst this;refine Do (hB g.symm) λa N b c f=>?_;exact IN a N b (c.jS nd) f
 ·refine Do ((n3 d' l).2 u hu) λa N b c f=>?_;exact IN a N b (c.jS nd) f)
def fM (CP CN:WF) (a:WF->Hp->t1->Nat->W1->Prop):Sp:=λvs H Q _=>∃(A:PA) (T:t1) (m d:Nat),vs=[.ref A.x,Rs d]/\cd CP CN H A T m/\eY T/\d<7/\m<=1000/\
 ∀(I:Hp) (v:W1),cd CP CN I A T (m+1)->a CN I T d v->Ch [A.n] H I->f9 H I->Q v I
theorem B5{A:PA}(h:Paired (jz (hide A.own H)) b T.walks):Paired (oR H) b (ol T):=by(
unfold ol;generalize T.walks=c at h
induction h with
|nil=>exact .nil
|cons r t a=>exact .cons (TupAt.same (b7 _ _) r) a)
theorem yR (T:t1):(up T).map W1.int=T.stops.map Rs:=by unfold up;rw[ax];rfl
theorem Bh:pu ["self","day","key"] zab (s1 qv):=nb rfl rfl rfl (by decide +kernel)
theorem Bj:pu ["self","day","key"] zab (s1 qJ):=nb rfl rfl rfl (by decide +kernel)
theorem f9.same(s:Tl H I):f9 H I:=λb o e _=>s b o e
theorem JI(F:sB K "forward" "Plan.forward" qv f fd) (T:bV K mg CP) (OQ:AC P w K mg base xL 3 OU OW zab (rh CP CN)) (OS:Binds K OW zab []) (O0:cf K CP "runs_around" OU)
  (O1:mg "Network"=some (.ref CN)) (TW:Mk K CN OT) (OP:AC P w K mg base xL 2 OT OV zak (rg CN)) (OR:Binds K OV zak []):AC P w K mg base xL 4 f fd zab (fM CP CN hx):=by(
refine F.ar Bh (λvs H Q E h=>?_) (λPd Pb outer s0 H vs Q E D h=>?_)
·refine j0 h λA i m d O_ _=>?_;subst O_;rfl
·intro Pc;refine pT h λA i m d Pa OX hT hd hm k=>?_;subst Pa;have hu:=hK D;refine B (On (zS 2 Bh (bY (UV AE (UV (V 1) PP))))
  (On (it (AK (AB hu (V 2) (wS (V 0) rfl)))
   (Fa (nr hu (wS (V 0) rfl) (V 2) (hP TW OP (D.mono) rfl O1 OR .nil ws (UV (wS (V 0) rfl) (UV (aA (V 0) T.cl O0 OQ D OS .nil ws (UV (V 1) PP)) (UV (wS (V 0) rfl) PP)))) rfl)) he)
  (Fa (tt (uS hu (wS (V 0) rfl) (V 2) (λ_ _=>rfl)))))) ?_
 refine zn _ O (by show 2<=Gc;decide) (λtk O3=>?_);have j:Tl H (Uf H tk (.tup [W1.str "forward",Rs d])):=Tl.new O3;have l:(Uf H tk (.tup [W1.str "forward",Rs d])) tk=some (.tup ((ck "forward" d).map kV)):=KE;generalize Uf H tk (.tup [W1.str "forward",Rs d])=H1 at j l⊢;have a:=OX.same j;obtain⟨J,n1,n2,n3⟩:=a.bo;refine B rfl (B rfl (wv A.x CP A.dx _ _ O a.ob T.cl T.bo O (IN A.n _ O (cN.t (k:=ck "forward" d) n1 l) (B rfl ?_))));cases q:io J (ck "forward" d)with
 |some v=>
  refine v6 ?_;refine B rfl (wv A.x CP A.dx _ _ O a.ob T.cl T.bo O (B rfl (IN A.n v O (by rw[<- q];exact cN.t (k:=ck "forward" d) n1 l) ?_)));exact k H1 v (a.more (by lia)) ((n3 d hd).1 v q) (j.but _) (f9.same j)
 |none=>
  refine wn ?_;refine B rfl (wv A.x CP A.dx _ _ O a.ob T.cl T.chg O (B rfl (nw A.x A.dx _ O a.ob O (B rfl (Db A i m d O a hT.sz hT.jF (λH2 b O5 s OY O4=>?_))))));have p:=a.same s;obtain⟨O9,O7,O8⟩:=p.walks;refine B rfl (wv A.x CP A.dx _ _ O p.ob T.cl T.walks O (λx dx nx O2 ne=>?_));have g:Tl H2 (Uf (Uf H2 dx (.own x)) x (.ins CN dx [])):=(Tl.new O2).tr (Tl.new (by rw[UF (Ne.symm ne)];exact nx));have O6:Tl H2 (hide [x] (Uf (Uf H2 dx (.own x)) x (.ins CN dx []))):=λc u e=>wl.mpr ⟨by simpa using v0 e nx,g _ _ e⟩;refine⟨x,dx,A.c,b,A.w,up i,cR d i.trips,O5,O9,ol i,O,KE,by rw[yR];exact g _ _ p.chg,g _ _ OY,aj (λ_ _ q=>q.same O6) O4,g _ _ O7,aj (λ_ _ q=>TupAt.same g q) (B5 O8),zl hT d,λL N C U hB=>⟨O,?_⟩⟩;have y:Tl H2 L:=λc u e=>hB c u (g _ _ e) (by simpa using v0 e nx);rw[lN,B9]at C;have OM:=p.same y;have r:=y _ _ (s _ _ n1);have o:=y _ _ (s _ _ l);have OZ:tk≠A.n:=λz=>by rw[z,r]at o;cases o
  refine B rfl (wv A.x CP A.dx _ _ O OM.ob T.cl T.bo O (B rfl (IN A.n _ O (f7.t (k:=ck "forward" d) r o (small (by lia))) ?_)));have ON:=OM.put r (z:="forward") (d:=d) (v:=W1.ref x) (λ_=>IN x N O U C) (λz=>absurd z (by decide));have Y:=f9.put (l':=aC J (ck "forward" d) (W1.ref x)) r;refine B rfl (wv A.x CP A.dx _ _ O ON.ob T.cl T.bo O (B rfl (IN A.n (W1.ref x) O ?_ ?_)))
  ·have:=cN.t (H:=Uf L A.n (.dT (aC J (ck "forward" d) (W1.ref x)))) (k:=ck "forward" d) (b:=tk) KE ((UF OZ).trans o);rw[kf,No rfl]at this;exact this
  ·have OO:=(j.tr s).tr y;exact k _ _ ON (IN x N O (U.jS Y) C) ((OO.but _).put (by simp)) λc u e m=>Y c u (OO c u e) m)
theorem JV(F:sB K "mirrored" "Plan.mirrored" qJ f fd) (T:bV K mg CP) (OT:AC P w K mg base xL 3 OX OZ zab (rh CP CN)) (OW:Binds K OZ zab []) (O5:cf K CP "runs_around" OX)
  (GM:AC P w K mg base xL 4 OM OY zat (vA CN)) (OV:Binds K OY zat []) (O6:mg "mirrored_network"=some (.ref OM)) (O3:cV K (.ref OM)=true):AC P w K mg base xL 5 f fd zab (fM CP CN ml):=by(
refine F.ar Bj (λvs H Q E h=>?_) (λPh Pf outer s0 H vs Q E U h=>?_)
·refine j0 h λA g m d Pd _=>?_;subst Pd;rfl
·intro Pg;refine pT h λA g m d Pe O0 hT hd hm k=>?_;subst Pe;have hu:=hK U;refine B (On (zS 2 Bj (bY (UV AE (UV (V 1) PP))))
  (On (it (AK (AB hu (V 2) (wS (V 0) rfl)))
   (Fa (nr hu (wS (V 0) rfl) (V 2) (ge GM U rfl O6 O3 OV .nil ws (UV (wS (V 0) rfl) (UV (aA (V 0) T.cl O5 OT (U.mono) OW .nil ws (UV (V 1) PP)) (UV (wS (V 0) rfl) PP)))) rfl)) he)
  (Fa (tt (uS hu (wS (V 0) rfl) (V 2) (λ_ _=>rfl)))))) ?_
 refine zn _ O (by show 2<=Gc;decide) (λtk O7=>?_);have o:Tl H (Uf H tk (.tup [W1.str "mirrored",Rs d])):=Tl.new O7;have p:(Uf H tk (.tup [W1.str "mirrored",Rs d])) tk=some (.tup ((ck "mirrored" d).map kV)):=KE;generalize Uf H tk (.tup [W1.str "mirrored",Rs d])=H1 at o p⊢;have j:=O0.same o;obtain⟨Y,n1,n2,n3⟩:=j.bo;refine B rfl (B rfl (wv A.x CP A.dx _ _ O j.ob T.cl T.bo O (IN A.n _ O (cN.t (k:=ck "mirrored" d) n1 p) (B rfl ?_))));cases q:io Y (ck "mirrored" d)with
 |some v=>
  refine v6 ?_;refine B rfl (wv A.x CP A.dx _ _ O j.ob T.cl T.bo O (B rfl (IN A.n v O (by rw[<- q];exact cN.t (k:=ck "mirrored" d) n1 p) ?_)));exact k H1 v (j.more (by lia)) ((n3 d hd).2 v q) (o.but _) (f9.same o)
 |none=>
  refine wn ?_;refine B rfl (wv A.x CP A.dx _ _ O j.ob T.cl T.chg O (B rfl (nw A.x A.dx _ O j.ob O (B rfl (Db A g m d O j hT.sz hT.jF (λH2 b O9 D O1 O8=>?_))))));have s:=j.same D;obtain⟨Pc,Pa,Pb⟩:=s.walks;have Pk:(up g).length=g.stops.length:=by simp[up]
  have ok:=j5 hT.bd d;have OR:∀y,y∈cR d g.trips->y.2∈wT g d:=λy l=>by rw[<- lN];exact mb l
  have Pj:=p_ hT d;refine B rfl (wv A.x CP A.dx _ _ O s.ob T.cl T.walks O (fc A.c b A.w (up g) (cR d g.trips) O9 Pc (ol g) ⟨O,by rw[yR];exact s.chg,O1,O8,Pa,B5 Pb,zl hT d,λy l=>ok.comes _ (OR y l),λO_ O2=>?_,λy l=>?_,λOU x N L ON J=>?_⟩))
  ·obtain⟨a,b,c⟩:=O_;exact(kh hT.bd a b c O2).2.1
  ·obtain⟨i,hi⟩:=fW.mp (OR y l);have:=jR ((wT g d).map λx=>x.1.length) i;rw[np,pr,hi]at this;have this:y.2.1.length<=_:=this;lia
  rw[lN,B9]at L;have OP:=s.same J;have C:=J _ _ (D _ _ n1);have r:=J _ _ (D _ _ p);have O4:tk≠A.n:=λz=>by rw[z,C]at r;cases r
  refine B rfl (wv A.x CP A.dx _ _ O OP.ob T.cl T.bo O (B rfl (IN A.n _ O (f7.t (k:=ck "mirrored" d) C r (small (by lia))) ?_)));have OQ:=OP.put C (z:="mirrored") (d:=d) (v:=W1.ref x) (λz=>absurd z (by decide)) (λ_=>IN x N O ON L);have OO:=f9.put (l':=aC Y (ck "mirrored" d) (W1.ref x)) C;refine B rfl (wv A.x CP A.dx _ _ O OQ.ob T.cl T.bo O (B rfl (IN A.n (W1.ref x) O ?_ ?_)))
  ·have:=cN.t (H:=Uf OU A.n (.dT (aC Y (ck "mirrored" d) (W1.ref x)))) (k:=ck "mirrored" d) (b:=tk) KE ((UF O4).trans r);rw[kf,No rfl]at this;exact this
  ·have OS:=(o.tr D).tr J;exact k _ _ OQ (IN x N O (ON.jS OO) L) ((OS.but _).put (by simp)) λc u e m=>OO c u (OS c u e) m)
end Dv
namespace L2
open PySem PySem.Spec PySem.AutoSeq1
theorem Ge(h0:¬(!a.isEmpty&&l5 (a.size+c.size))=true) (h1:a.size<=Gc) (h2:a.size+c.size<=Gc+1) (f:o.cls=.type "tuple") (i:o.data=.seq c n2):
  Meets (h_.«list.extend» ⟨[.ref l,.ref b],[]⟩) (λ_ R s=>s.heap.get? l=some {cls:=.type "list",dict:=none,data:=.seq a n,slots:= #[]}/\s.heap.get? b=some o/\R (.ok (.ret Value.none)) {s with heap:=s.heap.update l (ho λx=>x++c),toks:=s.toks}):=
 .of_wp λprog w A R s h=>by
  obtain⟨m,p,q,D⟩:=o;simp only at f i;subst f i;obtain⟨C,g,d,tk,os⟩:=s;obtain⟨e,j,h⟩:=h;have r:=idx_int;have t:=sub_tuple_tuple;have u:=sub_list_list;have y:=sub_tuple_list;have z:=sub_list_tuple;have k:(a++c).size<=Gc+1:=by rw[Array.size_append];exact h2
  wp_walk using (nR e rfl (hz:=h1) (_hz':=k)),wpAny_loadPart' e,wpAny_loadPart' j
  exact B rfl h
def Lm (K:wf):W1->List W1->Hp->VK->Prop:=λx vs H Q=>∃l b xs zs,x=.ref l/\vs=[.ref b]/\H l=some (.lst xs)/\pm K H b zs/\xs.length+zs.length<=Gc/\Q .ak (Uf H l (.lst (xs++zs)))
theorem IP:mu X "list.extend" (Lm X.K):=by(
intro WP s ZB H x vs v us Q XV p m h;refine pT h λl b xs zs t w c hB hz q=>?_;subst t;subst w;cases p;obtain⟨u,rfl,k⟩:=m.one;cases k;obtain⟨z,Op,n,r,y,e⟩:=XV.hL c;obtain⟨a,d,⟨o,f,i,n2,j⟩,C⟩:=XV.tuple hB;have A:=d.length;have big:Op.toArray.size+a.toArray.size<=Gc:=by rw[aU,aU];lia
have g:¬(!Op.toArray.isEmpty&&l5 (Op.toArray.size+a.toArray.size))=true:=by
 rw[uF big,oa];exact cc
refine kk F.slot_list_extend (B e rfl) F.entry_list_extend (F.args_list_extend_2 _ _) (Ge g (by rw[aU];lia) (by lia) i j) ⟨e,f,?_⟩;exact IN (.ak) _ (XV.mZ (its':=Op++a) c e (by simp) (r.append d) (by rw[ls];lia)) O q)
end L2
namespace L2
open PySem PySem.Spec PyProof.Rows
section
variable {prog:fr}{w:kw}{A:bJ}{R:Result->Go->Prop}{XV:WF}{fp wr:List WF}{n:Nat}{P:Nat->Tk->Prop}{St:Nat->s2->Prop}
def x6 (prog:fr) (w:kw) (A:bJ) (ok:s2->Prop) (P:Nat->Tk->Prop) (c:Nat->Nat->Bool):Prop:=
 ∀i j a b (s:Go) (Q:Tk->Go->Prop) (E:Tk->Go->Prop),ok s.heap->P i a->P j b->Q (.bool (c i j)) s->wpAny (AT prog w) A (wJ .Lt a b) Q E s
theorem pF:(toString "min"++toString ".loop":String)="min.loop":=by decide
theorem II(W:Walks prog w A.in1 XV fp wr n P St) (i:Nat->Nat->Bool) (OM:x6 prog w A.in1 ok P i) (S:WF) (J:S∉fp) (ag:∀h h':s2,ok h->(∀b o,b∉wr->b≠S->h.get? b=some o->h'.get? b=some o)->ok h'):
  ∀(k j:Nat) (s:Go) (a:Tk) (c:Nat),n-(j+1)=k->j+1<=n->ok s.heap->St (j+1) s.heap->P (fg i j) a->s.heap.get? S=some {cls:=.type "list",dict:=none,data:=.seq #[a,a] c,slots:= #[]}->
  (∀v h' tk,P (fg i (n-1)) v->(∀b o,b∉wr->b≠S->s.heap.get? b=some o->h'.get? b=some o)->R (.ok (.ret v)) {s with heap:=h',toks:=tk})->codeAny (AT prog w) A (.builtin "min.loop" ⟨[.ref XV,.none,.ref S],[]⟩) R s:=by(
have L:S∉wr:=λh=>J (W.sub _ h);intro k
induction k with
|zero=>
 intro j s a c OO ON Q C p l q;have N:j+1=n:=by lia
 refine wG F.entry_min_loop ?_;rw[xP F.plain_min_loop _];show wpAny _ A.in1 (wW (.ref S) >>= _) _ _ s;refine IR (h8 l rfl ?_);show wpAny _ A.in1 (tryCatch (eU (.ref XV)) _ >>= _) _ _ s;refine IR (r4 (W.done s _ _ (N▸C) λh' tk g=>?_));have m:=g S _ L l;show wpAny _ A.in1 (wV S (λ_=> #[]) >>= _) _ _ _;refine IR ?_;refine nR m rfl (IR (i8 (t3 ?_)));refine q a _ tk (by rw[<- N];exact p) λb o f d e=>(ic _ _ (Ne.symm d)).trans (g b o f e)
|succ k U=>
 intro j s a c OO ON Q C p l q;have y:j+1<n:=by lia
 refine wG F.entry_min_loop ?_;rw[xP F.plain_min_loop _];show wpAny _ A.in1 (wW (.ref S) >>= _) _ _ s;refine IR (h8 l rfl ?_);show wpAny _ A.in1 (tryCatch (eU (.ref XV)) _ >>= _) _ _ s;refine IR (r4 (W.item (j+1) s _ _ y C λv h' tk H T g=>?_));have m:=g S _ L l;have z:ok h':=ag _ _ Q λb o r _ e=>g b o r e;show wpAny _ A.in1 (tryCatch (kl [v,v] (wJ .Lt v a >>= _)) _ >>= _) _ _ _;refine IR (r4 (i6 (IR (OM (j+1) (fg i j) v a _ _ _ z H p ?_))));refine IR (i6 (i4 ?_));refine IR (i8 (t3 ?_));cases r:i (j+1) (fg i j)with
 |true=>
  simp only[a9];refine IR ?_;refine nR m rfl (IR (i8 ?_));rw[pF];refine t3 ⟨r7 F.plain_min_loop _,U (j+1) _ v _ (by lia) y (ag _ _ z λb o _ d e=>(ic _ _ (Ne.symm d)).trans e) (W.frame _ _ _ T λb Y o e=>?_) (by simp only[fg,r,a9];exact H) (kn _ m rfl) λE t D u x=>?_⟩
  ·exact(ic _ _ (λh:S=b=>J (by rw[h];exact Y))).trans e
  ·exact q E t D u λb o f d e=>x b o f d ((ic _ _ (Ne.symm d)).trans (g b o f e))
 |false=>
  simp only[fX,aK];refine IR (i8 ?_);rw[pF];refine t3 ⟨r7 F.plain_min_loop _,U (j+1) _ a c (by lia) y z T (by simp only[fg,r,fX,aK];exact p) m λE t D u x=>?_⟩;exact q E t D u λb o f d e=>x b o f d (g b o f e))
theorem IH(W:Walks prog w A.in1 XV fp wr n P St) (d:Nat->Nat->Bool) (y:x6 prog w A.in1 ok P d) (S:WF) (f:S∉fp) (ag:∀h h':s2,ok h->(∀b o,b∉wr->b≠S->h.get? b=some o->h'.get? b=some o)->ok h') (l:0<n) (C:ok s.heap) (E:St 0 s.heap) (i:s.heap.get? S=some {cls:=.type "list",dict:=none,data:=.seq #[] c,slots:= #[]})
  (r:∀v h' tk,P (fg d (n-1)) v->(∀b o,b∉wr->b≠S->s.heap.get? b=some o->h'.get? b=some o)->R (.ok (.ret v)) {s with heap:=h',toks:=tk}):codeAny (AT prog w) A (.builtin "min.loop" ⟨[.ref XV,.none,.ref S],[]⟩) R s:=by(
have t:S∉wr:=λh=>f (W.sub _ h);refine wG F.entry_min_loop ?_;rw[xP F.plain_min_loop _];show wpAny _ A.in1 (wW (.ref S) >>= _) _ _ s;refine IR (h8 i rfl ?_);show wpAny _ A.in1 (tryCatch (eU (.ref XV)) _ >>= _) _ _ s;refine IR (r4 (W.item 0 s _ _ l E λv h' tk p H g=>?_));have j:=g S _ t i;have D:ok h':=ag _ _ C λb o u _ e=>g b o u e;show wpAny _ A.in1 (wV S (λ_=> #[v,v]) >>= _) _ _ _;refine IR ?_;refine nR j rfl ?_;rw[pF];refine t3 ⟨r7 F.plain_min_loop _,II W d y S f ag _ 0 _ v _ rfl l (ag _ _ D λb o _ a e=>(ic _ _ (Ne.symm a)).trans e) (W.frame _ _ _ H λb x o e=>?_) p (kn _ j rfl) λL m J q z=>?_⟩
·exact(ic _ _ (λh:S=b=>f (by rw[h];exact x))).trans e
·exact r L m J q λb o k a e=>z b o k a ((ic _ _ (Ne.symm a)).trans (g b o k e)))
end
theorem yj (a:Nat->Nat->Bool) (c:∀i,a i i=false) (tr:∀i j k,a i j=true->a j k=true->a i k=true):∀k,fg a k<=k/\∀j,j<=k->a j (fg a k)=false
 |0=>⟨tz _,λj b=>by rw[xn.mp b];exact c _⟩
 |k+1=>by
  obtain⟨h1,h2⟩:=yj a c tr k;unfold fg;cases q:a (k+1) (fg a k)with
  |true=>
   simp only[a9];refine⟨tz _,λj b=>?_⟩;by_cases e:j=k+1
   ·rw[e];exact c _
   ·cases z:a j (k+1)with
    |false=>rfl
    |true=>have:=tr _ _ _ z q;rw[h2 j (by lia)]at this;cases this
  |false=>
   simp only[fX,aK];refine⟨by lia,λj b=>?_⟩;by_cases e:j=k+1
   ·rw[e];exact q
   ·exact h2 j (by lia)
theorem z3:∀a:List Int,HT.lexLt a a=false
 |[]=>rfl
 |x::a=>by rw[HT.k6,No rfl];exact z3 a
theorem z5:∀a b c:List Int,HT.lexLt a b=true->HT.lexLt b c=true->HT.lexLt a c=true
 |[],[],_,h,_=>by cases h
 |[],_::_,[],_,h=>by cases h
 |[],_::_,_::_,_,_=>rfl
 |_::_,[],_,h,_=>by cases h
 |_::_,_::_,[],_,h=>by cases h
 |x::a,y::b,z::c,h,h'=>by
  rw[HT.k6]at h h'⊢;by_cases e:x=y
  ·rw[No e]at h;by_cases d:y=z
   ·rw[No d]at h';rw[No (e.trans d)];exact z5 a b c h h'
   ·rw[Ps d]at h';rw[Ps (by lia)];rw[e];exact h'
  ·rw[Ps e]at h;have h1:x<y:=gB h;by_cases d:y=z
   ·rw[Ps (by lia)];exact sK (by lia)
   ·rw[Ps d]at h';have h2:y<z:=gB h';rw[Ps (by lia)];exact sK (by lia)
def Ln (K:wf):List W1->Hp->VK->Prop:=λvs H Q=>∃(a:WF) (as:List WF) (L:List (List Int)),vs=[W1.ref a]/\TD K H a (as.map W1.ref)/\Paired (λb ns=>H b=some (.tup (ns.map W1.int))) as L/\0<as.length/\
 ∀(i:Nat) (b:WF) (m:List Int),as[i]?=some b->L[i]?=some m->(∀c,c∈L->HT.lexLt c m=false)->Q (.ref b) H
theorem FO(OW:X.calm=true) (hu:X.A.units+1<cT):hs X (.builtin "min") (Ln X.K):=by(
intro WP s ZB H vs us Q XV r h;refine nc h λa as L O_=>?_;obtain⟨rfl,O1,N,Ph,q⟩:=O_;obtain⟨Op,Y,n,_⟩:=XV.list O1;rw[ww.u5 r];have Pl:Op.length=as.length:=by rw[<- Y.length,FM]
have Pk:L.length=as.length:=(Paired.length N).symm;have at_:∀(i:Nat) (v:Tk),Op.toArray[i]?=some v->∃b ns,as[i]?=some b/\L[i]?=some ns/\v=em b/\∃y,ji s.heap b y/\cD y.toList ns:=λi v hv=>by
 have U:Op[i]?=some v:=by simpa using hv
 have hi:=(aD.mp U).1;obtain⟨b,d⟩:∃b,as[i]?=some b:=⟨_,g1 (by lia)⟩;obtain⟨u,T,O7⟩:=Y.get (show(as.map W1.ref)[i]?=some (W1.ref b) by rw[pr,d];rfl);rw[U]at T;cases T;cases O7;obtain⟨ns,p,OU⟩:=Dv.eu N d;obtain⟨z,Pn,rt,x⟩:=XV.ag b _ OU;exact g2 b ns d p O (B x (by simpa using intsAre_of rt))
have OX:∃o,s.heap.get? a=some o:=by obtain⟨o,e,_⟩:=n.isList;exact⟨o,e⟩
obtain⟨Pm,O0⟩:=OX;have J:a<s.heap.objs.size:=cr O0;refine call_function_tree F.kind_min F.plain_min F.entry_min (F.args_min1 _) ?_;show wpAny _ X.A.in1 (Builtin.Builtins.bindParams "min" ["key","default"] 0 ⟨[],[]⟩ >>= _) _ _ s;refine IR (Dq (show Builtin.Builtins.bindParams "min" ["key","default"] 0 ⟨[],[]⟩=pure [none,none] from rfl) ?_);refine IR (t3 ?_);refine IR (nP n.isList ?_);refine IR (nQ ?_);rw[pF];generalize t:s.heap.push {cls:=.type "list_iterator",data:=.fields #[.ref a,.int 0 0]}=h2;have C:∀b o,s.heap.get? b=some o->h2.get? b=some o:=λb o e=>by rw[<- t];exact ln _ e
have D:h2.objs.size=s.heap.objs.size+1:=by rw[<- t];exact cU ..
have W:=Walks.list (prog:=X.prog) (w:=X.w) (A:=X.A.in1) (XV.ok.hd OW) s.heap.objs.size a (cb J) Op.toArray;refine t3 ⟨r7 F.plain_min_loop _,IH (ok:=λh=>∀b o,s.heap.get? b=some o->h.get? b=some o) W (λi j=>HT.lexLt (L.getD i []) (L.getD j [])) (λi j O8 O9 s' OM Pd ok hi f g=>?_) h2.objs.size ?_ ?_ (by simp;lia) (λb o e=>ln _ (C b o e)) ?_ (bc _ rfl) λv h' tk OV l=>?_⟩
·refine iU (at_ i O8 hi) λb ns Pa=>?_;obtain⟨d,p,rfl,y,x,O2⟩:=Pa;refine iU (at_ j O9 f) λPe O6 Pb=>?_;obtain⟨Pf,OZ,rfl,Pj,O4,O3⟩:=Pb;have ON:L.getD i []=ns:=by rw[np,p];rfl
 have OO:L.getD j []=O6:=by rw[np,OZ];rfl
 replace g:OM (sF (HT.lexLt (L.getD i []) (L.getD j []))) s':=g
 rw[ON,OO]at g;obtain⟨o,OP,OR,g3⟩:=x;obtain⟨o',OQ,OS,OT⟩:=O4;exact HT.z_ (A:=X.A.in1) (zn o (ok _ _ OP) OR g3) (zn o' (ok _ _ OQ) OS OT) O2 O3 (by show X.A.units+1<cT;exact hu) g
·rw[D];intro m;rcases rs.mp m with e|e
 ·exact Nat.succ_ne_self _ e
 ·exact Nat.not_lt.mpr (ij _) (xl (ku (sc.mp e)) J)
·intro h h' ok l b o e;have d:=cr e;exact l b o (λm=>cb d (sc.mp m)) (by rw[D];exact cb (l3 d)) (ok b o e)
·refine⟨(zn ({cls:=.type "list_iterator",data:=.fields #[.ref a,.int 0 0]}) ?_ O O),?_⟩
 ·refine ln _ (by rw[<- t];exact bc _ rfl)
 ·have:=n.isList;obtain⟨o,e,c1,c2⟩:=this;exact zn o (ln _ (C _ _ e)) c1 c2
·have d:=yj (λi j=>HT.lexLt (L.getD i []) (L.getD j [])) (λi=>z3 _) (λi j k=>z5 _ _ _) (Op.toArray.size-1);refine gl (at_ _ v OV) λb ns h1 E Pc _=>?_;subst Pc;refine IN (.ref b) H (XV.kept (t':=tk) λc o e=>l c o ?_ ?_ (ln _ (C _ _ e))) O (q _ b ns h1 E λO5 OY=>?_)
 ·exact λm=>cb (cr e) (sc.mp m)
 ·rw[D];exact cb (l3 (cr e))
 ·obtain⟨j,f⟩:=fW.mp OY;have Pg:=(aD.mp f).1;have:=d.2 j (by simp;lia)
  replace this:HT.lexLt (L.getD j []) (L.getD (fg (λi j=>HT.lexLt (L.getD i []) (L.getD j [])) (Op.toArray.size-1)) [])=false:=this
  rw[show L.getD j []=O5 by rw[np,f];rfl]at this;rw[show L.getD (fg (λi j=>HT.lexLt (L.getD i []) (L.getD j [])) (Op.toArray.size-1)) []=ns by rw[np,E];rfl]at this;exact this)
end L2
namespace Dv
open PySem L2 Tw
variable {P:fr}{w:kw}{K:wf}{mg:Str->Option Tk}{base:s2}{CP CN CS CL CG:WF}
structure eG (mg:Str->Option Tk):Prop where
 c1:a_ mg "NO_WAY" (-1)
 c3:a_ mg "TOO_MANY" (-3)
 un:a_ mg "UNREACHED" (-1)
 wk:a_ mg "WALKED" (-1)
 nv:a_ mg "NEVER" 1000000
 m8:a_ mg "MOST_RIDES_OF_FRONT" 8
 min:mg "min"=none
 list:mg "list"=none
 sorted:mg "sorted"=none
noncomputable def am (a:DF):List Int:=a.code::(if a.code<0 then []else a.out)
noncomputable def gq (most:Int) (L:List (List Int)):List Int:=if(L.length:Int)<=most then(L.length:Int)::L.flatten else [-3]
theorem A1 (most:Int) (L:List (List Int)):gq most L=am (lZ most L):=by(
unfold gq am lZ;by_cases c:(L.length:Int)<=most
·simp only[No c];rw[Ps (by lia)]
·simp only[Ps c,bM];rfl)
def j8:Sp:=λvs H Q _=>∃(b:WF) (most:Int) (c:List W1) (L:List (List Int)),vs=[.ref b,.int most]/\H b=some (.lst c)/\Paired (λv r=>TupAt H v (r.map W1.int)) c L/\most<=4096/\(∀r,r∈L->r.length<=9)/\
 ∀(I:Hp) (a:WF),Tl H I->H a=none->I a=some (.lst ((gq most L).map W1.int))->Q (.ref a) I
theorem pk {a:Int}(h:(decide (0<=a)&&decide (a<=4096))=true):a<=4096:=by simp only[ev,dL]at h;exact h.2
theorem vg:pu ["rows","most","answer","row"] zam (s1 qo):=nb rfl rfl rfl (by decide +kernel)
theorem JC(F:sB K "counted" "counted" qo f fd) (T:bV K mg CP) (U:eG mg):AC P w K mg base xL 1 f fd zam j8:=by(
refine F.ar vg (λvs H Q E h=>?_) (λJ C outer s0 H vs Q E OM h=>?_)
·refine j0 h λd most l L z _=>?_;subst z;rfl
·intro D;refine pT h λd most l L A g p N o k=>?_;subst A;refine B (On (it (ga m' (a0 b6 (by rfl) T.len b1 (UV (V 0) PP)) (V 1) (li _)) (Fa (tt (db (UV (nl U.c3 rfl) PP)))) he)
  (On (zS 2 vg (db (UV (a0 b6 (by rfl) T.len b1 (UV (V 0) PP)) PP)))
  (On (cH bN rfl (cy (V 0)) (zG 3 vg)
   (Fa (ca (cG cm DM DN IP (V 2) (UV (V 3) PP)))))
  (Fa (tt (V 2)))))) ?_
 have j:l.length=L.length:=Paired.length p;refine B rfl (IN d _ O (.inl (TD.of g)) (B rfl (IN _ _ O O (B rfl ?_))));by_cases c:most<(L.length:Int)
 ·rw[sK (by rw[j];exact c)];refine wn ⟨by show 1<=Gc;decide,λa b=>k _ a (Tl.new b) b ?_⟩;unfold gq;rw[KE,Ps (by lia)];rfl
 ·rw[sn (by rw[j];exact c)];refine v6 (B rfl (g2 d _ O (.inl (TD.of g)) (by show 1<=Gc;decide) (λa b=>?_)));have u:Tl H (Uf H a (.lst [W1.int (l.length:Int)])):=Tl.new b;refine B rfl (zn d O ⟨_,TD.of (u _ _ g)⟩ ?_)
  let q:Nat->St->Hp->Prop:=λi ZB H2=>∃n,ZB=[some (.ref d),some (.int most),some (.ref a),n]/\H2=Uf H a (.lst (((L.length:Int)::(L.take i).flatten).map W1.int))
  refine gM (K:=K) (a:=d) (xs:=l) q
   (Ix none O (by rw[j];rfl)) (λi ZB H2 _ y=>by obtain⟨_,_,e⟩:=y;rw[e];exact TD.of (Tl.new b _ _ g)) ?_ ?_
  ·rintro i v ZB H2 hi ⟨n,rfl,rfl⟩;obtain⟨r,m,ta,rfl,s⟩:=eu p hi;have Y:=(aD.mp m).1;have fl:((L.take i).flatten).length<=9*i:=by
    rw[Cu];have:=nJ cC 9 (L.take i) λx t=>o x (oz t);rw[aP]at this;have hm:min i L.length<=i:=Nat.min_le_left ..;have:=Nat.mul_le_mul_left 9 hm;lia
   have ON:=o r (pi m);refine zn _ O (.inl ⟨O,⟨_,TD.of KE⟩⟩) (B rfl (bi a ta _ _ O O KE (pm.of (Tl.new b _ _ s)) ?_ ?_))
   ·simp only[FM,bt];exact ed (small (by lia))
   ·refine B rfl ?_;rw[gZ,cB,m,cK,List.flatten_append,<-bL];simp
  ·rintro ZB H2 ⟨n,rfl,rfl⟩;refine B rfl (k _ a (Tl.new b) b ?_);rw[KE,j,dy];unfold gq;rw[No (by lia)])
theorem iW (N:Nt) (S:SS):∀k,aN N S k=a8 N S k
 |0=>rfl
 |k+1=>by show cA N (aN N S k)=cA N (a8 N S k);rw[iW N S k]
def cI (CP CN:WF) (args:List Int->Option c9) (n:Nat):Sp:=λvs H Q _=>∃(A:PA) (T:t1) (m:Nat) (l:List Int) (c:c9),vs=W1.ref A.x::l.map W1.int/\l.length=n/\args l=some c/\cd CP CN H A T m/\eY T/\m+2<=1000/\
 ∀(I:Hp) (a:WF),cd CP CN I A T (m+2)->Ch [A.n] H I->H a=none->I a=some (.lst ((am (Ev T c).1).map W1.int))->Q (.ref a) I
noncomputable def iC:List Int->Option c9
 |[a,b,d,t]=>some (.earliest a b d t)
 |_=>none
def iF:List Int->Option c9
 |[a,b,d,t]=>some (.latest a b d t)
 |_=>none
theorem Bg:pu ["plan","start","goal","day","minute","search"] zac (s1 qp):=nb rfl rfl rfl (by decide +kernel)
theorem Bi:pu ["plan","start","goal","day","minute","search"] zac (s1 qH):=nb rfl rfl rfl (by decide +kernel)
theorem jB(h:b2 T a b d t=true):∃(x y e:Nat),a=(x:Int)/\b=(y:Int)/\d=(e:Int)/\x<T.stops.length/\y<T.stops.length/\e<7/\0<=t/\t<2880:=by
 unfold b2 eV u8 at h;simp only[ev,dL]at h;exact b_ a.toNat b.toNat d.toNat ⟨by lia,by lia,by lia,by lia,by lia,by lia,by lia,by lia⟩
theorem gF(h:Ch l H I) (c:I a=none) (d:∀b,b∈l->I b≠none):H a=none:=by(
cases q:H a with
|none=>rfl
|some o=>
 have:=h a o q λz=>d a z c;rw[c]at this;cases this)
theorem int_at{l:List Int}(h:i<l.length):(l.map W1.int)[i]?=some (W1.int (l.getD i 0)):=by
 rw[pr,bW h 0];rfl
theorem k'{l:List Nat}(h:i<l.length):(l.map Rs)[i]?=some (Rs (l.getD i 0)):=by
 rw[pr,bW h 0];rfl
theorem JD(F:sB K "earliest" "earliest" qp f fd) (T:bV K mg CP) (U:eG mg) (X:bg K mg CS CN)
  (OV:AC P w K mg base xL 2 OR O2 zac (hY CP CN)) (OY:Binds K O2 zac []) (Pe:mg "can_ask"=some (.ref OR)) (Pb:cV K (.ref OR)=true)
  (OW:AC P w K mg base xL 4 O1 O3 zab (fM CP CN hx)) (OZ:Binds K O3 zab []) (Pd:cf K CP "forward" O1)
  (OX:AC P w K mg base xL 6 OS O4 zah (lG CS CN)) (O0:Binds K O4 zah []) (Pf:mg "searched"=some (.ref OS)) (Pc:cV K (.ref OS)=true):AC P w K mg base xL 7 f fd zac (cI CP CN iC 4):=by(
refine F.ar Bg (λvs H Q E h=>?_) (λPr Pp outer s0 H vs Q E OO h=>?_)
·refine gR h λA i m l c Pj ON _=>?_;subst Pj;simp[ON]
·intro Pq;refine gS h λA i m l c Pk ON O9 D hT hm k=>?_;subst Pk;obtain⟨a,b,d,t,rfl⟩:=d0 ON;cases O9;refine B (On (it (bR (cz (ge OV (OO.mono) rfl Pe Pb OY .nil ws (UV (V 0) (UV (V 1) (UV (V 2) (UV (V 3) (UV (V 4) PP)))))))) (Fa (tt (db (UV (nl T.c2 rfl) PP)))) he)
  (On (zS 5 Bg (ge OX OO rfl Pf Pc O0 .nil ws (UV (aA (V 0) T.cl Pd OW (OO.mono) OZ .nil ws (UV (V 3) PP)) (UV (V 1) (UV (V 4) PP)))))
  (On (it (ga c0 (xz wE (wS (V 5) rfl) (V 2)) (nl U.nv rfl) (li _)) (Fa (tt (db (UV (nl U.c1 rfl) PP)))) he)
  (Fa (tt (db (UV EQ (UV (xz wE (wS (V 5) rfl) (V 2)) (UV (xz wE (wS (V 5) rfl) (V 2)) PP))))))))) ?_
 refine B rfl (B rfl (B rfl (B rfl (B rfl (g8 A i m a b d t ⟨O,D,B rfl ?_⟩)))));rw[jV];cases C:b2 i a b d t with
 |false=>
  have s:Ev i (.earliest a b d t)=(bM (-2),i):=by simp only[Ev,C,a9]
  rw[s]at k;exact wn ⟨by show 1<=Gc;decide,λp g=>k _ p ((D.same (Tl.new g)).more (by lia)) ((Tl.new g).but _) g KE⟩
 |true=>
  refine jZ (jB C) λx y e Pl Pm Pn u OP O_ Pu Pw=>?_;subst Pl;subst Pm;subst Pn;refine v6 (B rfl (nw A.x A.dx _ O D.ob O (B rfl (bi A i m e O D hT O_ (by lia) (λH1 v O7 hv O5 Pt=>?_)))));refine Do hv λn N Po O6 Y=>?_;subst Po;have hz:=jM hT e Y;obtain⟨ok,same,r⟩:=dF hT.bd Y;refine B rfl (B rfl (Db n N x t O O6 hz (by rw[r];exact u) (λH2 S j o q OU=>?_)));have OM:=O7.same OU;have L:Ch [A.n] H H2:=O5.tr (OU.but []) λb q=>by simp at q
  have OQ:=j4 ok (kP ok (s0:=x) (t0:=t) (by rw[r];exact u) (by unfold FS;lia)) j;rw[<- iW]at OQ;have J:=fJ (((fw hz).av (stop:=x) (by rw[r];exact u) t t).bI (by rw[r];exact u) t) j;generalize O8:aN N (cp N x t) j=SS at o q OQ;have J:pp N SS:=by rw[<- O8];exact J
  obtain⟨Pg,Ph⟩:=y7 hT.bd Y u OP OQ q (by unfold FS;lia);have OT:y<SS.arr.length:=by rw[J.arr,r];exact OP
  have Pa:y<SS.rides.length:=by rw[J.rides,r];exact OP
  have free:∀ {p:WF},H2 p=none->H p=none:=λg=>gF L g λb q=>OM.there (by simp only[sc]at q;rw[q];simp[PA.own]);refine B rfl (wv S.x CS S.dx _ _ O o.ob X.aq X.dJ O (B rfl (bi S.a1 _ _ _ O O (TD.of o.arr) (lv (int_at OT)) O (B rfl ?_))));by_cases c:SS.arr.getD y 0=FS
  ·rw[sK (by rw[c];rfl)];have s:Ev i (.earliest x y e t)=(bM (-1),i):=by simp only[Ev,C,c',aK,ee,Pg c]
   rw[s]at k;refine wn ⟨by show 1<=Gc;decide,λp g=>?_⟩;exact k _ p ((OM.same (Tl.new g)).more (by lia)) (L.new g) (free g) KE
  ·rw[sn (by intro z;injection z with z;exact c z)];have s:Ev i (.earliest x y e t)=(⟨0,[SS.arr.getD y 0,((SS.rides.getD y 0:Nat):Int)]⟩,i):=by simp only[Ev,C,c',aK,ee,Ph c]
   rw[s]at k;refine v6 (B rfl (wv S.x CS S.dx _ _ O o.ob X.aq X.dJ O (B rfl (Db S.a1 _ _ _ O O (TD.of o.arr) (lv (int_at OT)) (B rfl (wv S.x CS S.dx _ _ O o.ob X.aq X.nz O (B rfl (bi S.a2 _ _ _ O O (TD.of o.rides) (lv (k' Pa)) (by show 3<=Gc;decide) (λp g=>?_)))))))));exact k _ p ((OM.same (Tl.new g)).more (by lia)) (L.new g) (free g) KE)
theorem JT(F:sB K "latest" "latest" qH f fd) (T:bV K mg CP) (U:eG mg) (X:bg K mg CS CN)
  (OV:AC P w K mg base xL 2 OR O2 zac (hY CP CN)) (OY:Binds K O2 zac []) (Pe:mg "can_ask"=some (.ref OR)) (Pb:cV K (.ref OR)=true)
  (OW:AC P w K mg base xL 5 O1 O3 zab (fM CP CN ml)) (OZ:Binds K O3 zab []) (Pd:cf K CP "mirrored" O1)
  (OX:AC P w K mg base xL 6 OS O4 zah (lG CS CN)) (O0:Binds K O4 zah []) (Pf:mg "searched"=some (.ref OS)) (Pc:cV K (.ref OS)=true):AC P w K mg base xL 7 f fd zac (cI CP CN iF 4):=by(
refine F.ar Bi (λvs H Q E h=>?_) (λPr Pp outer s0 H vs Q E OO h=>?_)
·refine gR h λA i m l c Pl ON _=>?_;subst Pl;simp[ON]
·intro Pq;refine gS h λA i m l c Pm ON O9 D hT hm k=>?_;subst Pm;obtain⟨a,b,d,t,rfl⟩:=d0 ON;cases O9;refine B (On (it (bR (cz (ge OV (OO.mono) rfl Pe Pb OY .nil ws (UV (V 0) (UV (V 1) (UV (V 2) (UV (V 3) (UV (V 4) PP)))))))) (Fa (tt (db (UV (nl T.c2 rfl) PP)))) he)
  (On (zS 5 Bi (ge OX OO rfl Pf Pc O0 .nil ws (UV (aA (V 0) T.cl Pd OW (OO.mono) OZ .nil ws (UV (V 3) PP)) (UV (V 2) (UV (eL eP (V 4)) PP)))))
  (On (it (ga c0 (xz wE (wS (V 5) rfl) (V 1)) (nl U.nv rfl) (li _)) (Fa (tt (db (UV (nl U.c1 rfl) PP)))) he)
  (Fa (tt (db (UV EQ (UV (eL eP (xz wE (wS (V 5) rfl) (V 1))) (UV (xz wE (wS (V 5) rfl) (V 1)) PP))))))))) ?_
 refine B rfl (B rfl (B rfl (B rfl (B rfl (g8 A i m a b d t ⟨O,D,B rfl ?_⟩)))));rw[jV];cases C:b2 i a b d t with
 |false=>
  have s:Ev i (.latest a b d t)=(bM (-2),i):=by simp only[Ev,C,a9]
  rw[s]at k;exact wn ⟨by show 1<=Gc;decide,λp g=>k _ p ((D.same (Tl.new g)).more (by lia)) ((Tl.new g).but _) g KE⟩
 |true=>
  refine jZ (jB C) λx y e Pn Po Pj OP u O_ Pu Pw=>?_;subst Pn;subst Po;subst Pj;refine v6 (B rfl (nw A.x A.dx _ O D.ob O (B rfl (bi A i m e O D hT O_ (by lia) (λH1 v O7 hv O5 Pt=>?_)))));refine Do hv λn N Pk O6 Y=>?_;subst Pk;have hz:=yF hT e Y;obtain⟨ok,same,r⟩:=jE hT.bd Y;refine B rfl (B rfl (Ix t O (Db n N y (-t) O O6 hz (by rw[r];exact u) (λH2 S j o q OU=>?_))));have OM:=O7.same OU;have L:Ch [A.n] H H2:=O5.tr (OU.but []) λb q=>by simp at q
  have OQ:=j4 ok (kP ok (s0:=y) (t0:= -t) (by rw[r];exact u) (by unfold FS;lia)) j;rw[<- iW]at OQ;have J:=fJ (((fw hz).av (stop:=y) (by rw[r];exact u) (-t) (-t)).bI (by rw[r];exact u) (-t)) j;generalize O8:aN N (cp N y (-t)) j=SS at o q OQ;have J:pp N SS:=by rw[<- O8];exact J
  obtain⟨Pg,Ph⟩:=Io hT.bd Y OP u OQ q (by unfold FS;lia);have OT:x<SS.arr.length:=by rw[J.arr,r];exact OP
  have Pa:x<SS.rides.length:=by rw[J.rides,r];exact OP
  have free:∀ {p:WF},H2 p=none->H p=none:=λg=>gF L g λb q=>OM.there (by simp only[sc]at q;rw[q];simp[PA.own]);refine B rfl (wv S.x CS S.dx _ _ O o.ob X.aq X.dJ O (B rfl (bi S.a1 _ _ _ O O (TD.of o.arr) (lv (int_at OT)) O (B rfl ?_))));by_cases c:SS.arr.getD x 0=FS
  ·rw[sK (by rw[c];rfl)];have s:Ev i (.latest x y e t)=(bM (-1),i):=by simp only[Ev,C,c',aK,ee,Pg c]
   rw[s]at k;refine wn ⟨by show 1<=Gc;decide,λp g=>?_⟩;exact k _ p ((OM.same (Tl.new g)).more (by lia)) (L.new g) (free g) KE
  ·rw[sn (by intro z;injection z with z;exact c z)];have s:Ev i (.latest x y e t)=(⟨0,[-(SS.arr.getD x 0),((SS.rides.getD x 0:Nat):Int)]⟩,i):=by simp only[Ev,C,c',aK,ee,Ph c]
   rw[s]at k;refine v6 (B rfl (wv S.x CS S.dx _ _ O o.ob X.aq X.dJ O (B rfl (Db S.a1 _ _ _ O O (TD.of o.arr) (lv (int_at OT)) (B rfl (B rfl (wv S.x CS S.dx _ _ O o.ob X.aq X.nz O (B rfl (bi S.a2 _ _ _ O O (TD.of o.rides) (lv (k' Pa)) (by show 3<=Gc;decide) (λp g=>?_))))))))));exact k _ p ((OM.same (Tl.new g)).more (by lia)) (L.new g) (free g) KE)
def Gf (P:fr) (w:kw) (K:wf) (mg:Str->Option Tk) (base:s2) (k:Nat) (x:Str) (ps:List Str) (sp:Sp):Prop:=∃f fd,AC P w K mg base xL k f fd ps sp/\Binds K fd ps []/\mg x=some (.ref f)/\cV K (.ref f)=true
def Gm (P:fr) (w:kw) (K:wf) (mg:Str->Option Tk) (base:s2) (k:Nat) (C:WF) (x:Str) (ps:List Str) (sp:Sp):Prop:=∃f fd,AC P w K mg base xL k f fd ps sp/\Binds K fd ps []/\cf K C x f
theorem AA{f:W1->List W1}{g:Int->List Int}(hf:∀x,f (.int x)=(g x).map W1.int):∀ {as:List WF}{l:List Int},Paired (λa x=>H a=some (.tup (f x))) as (l.map W1.int)->Paired (λv r=>TupAt H v (r.map W1.int)) (as.map W1.ref) (l.map g)
 |[],[],_=>.nil
 |[],_::_,h=>by cases h
 |_::_,[],h=>by cases h
 |a::as,x::l,h=>by
  rw[m0]at h;cases h with
  |cons r t=>exact .cons (Ix a O (by rw[r,hf])) (AA hf t)
noncomputable def u3:W1->List W1
 |.int x=>[.int (if x<1000000 then x else -1)]
 |_=>[]
noncomputable def iH:List Int->Option c9
 |[a,d,t,m]=>some (.reach a d t m)
 |_=>none
theorem q7:pu ["plan","start","day","minute","most","search","rows","arrival"] zaF (s1 qP):=nb rfl rfl rfl (by decide +kernel)
theorem GU {a c:Type}(f:a->c) (l:List a):(l.map λx=>[f x]).flatten=l.map f:=by(
induction l with
|nil=>rfl
|cons x l b=>rw[m0,kA,b];rfl)
theorem J1(F:sB K "reach" "reach" qP f fd) (T:bV K mg CP) (U:eG mg) (X:bg K mg CS CN)
  (Pa:Gf P w K mg base 2 "can_ask" zac (hY CP CN)) (Pd:Gf P w K mg base 1 "is_most" zai j9) (Pb:Gm P w K mg base 4 CP "forward" zab (fM CP CN hx))
  (Pe:Gf P w K mg base 6 "searched" zah (lG CS CN)) (Pc:Gf P w K mg base 1 "counted" zam j8):AC P w K mg base xL 7 f fd zaF (cI CP CN iH 4):=by(
refine gl Pa λPY P5 O0 O6 Px Pp=>?_;refine gl Pd λP1 P8 GM O9 Pz Pr=>?_;refine Do Pb λPZ P6 O1 O7 Pw=>?_;refine gl Pe λP2 P9 O3 O_ PB Pt=>?_;refine gl Pc λP0 P7 O2 O8 Py Pq=>?_;refine F.ar q7 (λvs H Q E h=>?_) (λPX PR outer s0 H vs Q E C h=>?_)
·refine gR h λA o m l c PK OP _=>?_;subst PK;simp[OP]
·intro PV;refine gS h λA o m l c PL OP Pm D hT hm k=>?_;subst PL;obtain⟨a,d,t,q,rfl⟩:=d0 OP;cases Pm;refine B (On (it (PW.pt (ew (bR (cz (ge O0 (C.mono) rfl Px Pp O6 .nil ws (UV (V 0) (UV (V 1) (UV (V 1) (UV (V 2) (UV (V 3) PP)))))))) (gU (bR (cz (ge GM (C.mono) rfl Pz Pr O9 .nil ws (UV (V 4) PP))))))) (Fa (tt (db (UV (nl T.c2 rfl) PP)))) he)
  (On (zS 5 q7 (ge O3 C rfl PB Pt O_ .nil ws (UV (aA (V 0) T.cl Pw O1 (C.mono) O7 .nil ws (UV (V 2) PP)) (UV (V 1) (UV (V 3) PP)))))
  (On (p6 (i:=6) (own:=[("arrival",7)]) rfl q7.nd rfl rfl rfl (cy (wS (V 5) rfl)) (fx rfl) (λ_ _ _ _ _=>zG 7 q7) (λ_ _ _ _ _=>gn) (λ_ _ _ _ _=>bY (UV (KO (ga d1 (V 7) (nl U.nv rfl) (li _)) (V 7) (nl U.un rfl)) PP)))
  (Fa (tt (ge O2 (C.mono) rfl Py Pq O8 .nil ws (UV (V 6) (UV (V 4) PP)))))))) ?_
 have OT:(b2 o a a d t&&u8 q 0 4096)=false->∀p,H p=none->Q (.ref p) (Uf H p (.lst [W1.int (-2)])):=λe p u=>by
  have Pf:Ev o (.reach a d t q)=(bM (-2),o):=by simp only[Ev,e,a9]
  rw[Pf]at k;exact k _ p ((D.same (Tl.new u)).more (by lia)) ((Tl.new u).but _) u KE
 refine B rfl (B rfl (B rfl (B rfl (B rfl (g8 A o m a a d t ⟨O,D,B rfl ?_⟩)))));rw[jV];cases Y:b2 o a a d t with
 |false=>exact wn (wn ⟨by show 1<=Gc;decide,OT (by rw[Y];rfl)⟩)
 |true=>
  refine v6 (B rfl (Ix q O (B rfl ?_)));cases ON:(decide (0<=q)&&decide (q<=4096))with
  |false=>exact wn ⟨by show 1<=Gc;decide,OT (by rw[Y,show u8 q 0 4096=false from ON];rfl)⟩
  |true=>
   refine jZ (jB Y) λx y e PM Qd PN L Qe Pn Qb Qc=>?_;subst PM;subst PN;refine v6 (B rfl (nw A.x A.dx _ O D.ob O (B rfl (bi A o m e O D hT Pn (by lia) (λH1 v Pk hv Pg Qa=>?_)))));refine Do hv λn N PQ Pj OO=>?_;subst PQ;have hz:=jM hT e OO;obtain⟨ok,same,J⟩:=dF hT.bd OO;refine B rfl (B rfl (Db n N x t O Pj hz (by rw[J];exact L) (λH2 S j OM s OX=>?_)));have OV:=Pk.same OX;have OU:Ch [A.n] H H2:=Pg.tr (OX.but []) λb s=>by simp at s
   have OQ:=j4 ok (kP ok (s0:=x) (t0:=t) (by rw[J];exact L) (by unfold FS;lia)) j;rw[<- iW]at OQ;have OS:=fJ (((fw hz).av (stop:=x) (by rw[J];exact L) t t).bI (by rw[J];exact L) t) j;generalize Pl:aN N (cp N x t) j=SS at OM s OQ;have OS:pp N SS:=by rw[<- Pl];exact OS
   have bn:=Lx hT.bd OO L OQ s (by unfold FS;lia);have Pu:SS.arr.length=o.stops.length:=by rw[OS.arr,J]
   have P_:=hT.sz.stops;refine B rfl (wv S.x CS S.dx _ _ O OM.ob X.aq X.dJ O (zn S.a1 O ⟨_,TD.of OM.arr⟩ (λOZ PD=>?_)));refine zX u3 PD (TD.of OM.arr) (by rw[FM];exact ed (small (by lia))) (λv hv O4 PU OR OW=>?_) λO4 as Qh Ph PF OR P4=>?_
   ·obtain⟨z,Qg,rfl⟩:=mo.mp hv;refine⟨O,B rfl (IN _ _ O O (B rfl ?_))⟩;by_cases c:z<1000000
    ·rw[sK c];refine wn (zn _ O (by show 1<=Gc;decide) (λp u=>?_));have:=OW p u;simp only[u3,No c]at this;exact this
    ·rw[sn c];refine v6 ⟨by show 1<=Gc;decide,λp u=>?_⟩;have:=OW p u;simp only[u3,Ps c]at this;exact this
   ·have PH:=AA (g:=λx=>[if x<1000000 then x else -1]) (λx=>rfl) PF;refine B rfl (B rfl (bi OZ q _ _ O Ph PH (pk ON) (λr C=>?_) (λO5 p PJ u Po=>?_)))
    ·obtain⟨z,_,rfl⟩:=mo.mp C;show 1<=9;decide
    have OY:=OR.tr PJ;refine k O5 p ((OV.same OY).more (by lia)) (OU.tr (OY.but []) λb s=>by simp at s) ?_ ?_
    ·exact gF OU (OR.free u) λb s=>OV.there (by simp only[sc]at s;rw[s];simp[PA.own])
    ·rw[Po];have eq:gq q (SS.arr.map λx=>[if x<1000000 then x else -1])=am (Ev o (.reach x e t q)).1:=by
      have hw:(b2 o x x e t&&u8 q 0 4096)=true:=by rw[Y,show u8 q 0 4096=true from ON];rfl
      unfold gq;rw[FM,Pu,GU];by_cases c:q<(o.stops.length:Int)
      ·simp only[Ev,hw,c,a9,c',aK,bM];rw[Ps (by lia)];rfl
      ·simp only[Ev,hw,c,c',aK,ee];rw[No (by lia),bn];unfold am;rw[Ps (show ¬((o.stops.length:Int)<0) by lia)];rfl
     rw[eq])
end Dv
namespace L2
open PySem
theorem Ip{n:TT}{j:Hp->Prop}(p:W1->Bool) (k:H1 D=none) (o:TD K H1 a xs) (hz:xs.length<=Gc)
  (hv:∀x,nm ((nm ZB [v]).set v (some x)) [v]=nm ZB [v]) (hg:∀x,((nm ZB [v]).set v (some x))[v]?=some (some x))
  (step:∀x,x∈xs->∀(H:Hp) (R:Bool->Hp->Prop),Tl H1 H->R (p x) H->n ((nm ZB [v]).set v (some x)) H R) (post:j (Uf H1 D (.lst (xs.filter p)))):
  ∃W:Nat->Nat->Hp->Prop,(∃m,W 0 m (Uf H1 D (.lst [])))/\∀i m H,W i m H->
   ((cO K a).stop i H/\j H)\/((cO K a).go i H/\∃d:Hp->Prop,(∀I,d I->∃l,l<m/\W (i+1) l I)/\∀x I,(cO K a).eQ i H x I->bh v x (nm ZB [v]) I λf H2=>nm f [v]=nm ZB [v]/\n f H2 λb g=>
    if b=true then bZ v f g λy h=>∃acc,h D=some (.lst acc)/\acc.length<Gc/\d (Uf h D (.lst (acc++[y])))else d g):=by(
refine mT (xs:=xs) (λi H=>H=Uf H1 D (.lst ((xs.take i).filter p))) (by simp) (λi H _ (e:H=_)=>by rw[e];exact o.same (Tl.new k)) ?_ (λH (e:H=_)=>by rw[e,dy];exact post);rintro i x H hi rfl;have q:i<xs.length:=(aD.mp hi).1;refine⟨hv x,step x (pi hi) _ _ (Tl.new k) ?_⟩;have e:(xs.take (i+1)).filter p=(xs.take i).filter p++(if p x=true then [x]else []):=by
 rw[cB,hi,cK,kz]
 congr 1
 by_cases c:p x=true<;>simp[c]
rw[e];cases c:p x with
|true=>
 rw[No rfl];refine Ix x (hg x) (zn _ KE ?_ (by rw[gZ,No rfl]));have h1:=ma p (xs.take i);rw[aP]at h1;lia
|false=>
 rw[Ps (by simp),Ps (by simp),fm])
end L2
namespace Dv
open PySem L2 Tw
variable {P:fr}{w:kw}{K:wf}{mg:Str->Option Tk}{base:s2}{CP CN CS CL CG:WF}
theorem KD{p:b->Bool}{q:c->Bool}(h:∀x y,R x y->p x=q y) (z:Paired R xs ys):Paired R (xs.filter p) (ys.filter q):=by(
induction z with
|nil=>exact .nil
|cons r t a=>
 rw[oG,oG,h _ _ r];split
 ·exact .cons r a
 ·exact a)
theorem Az:∀ {xs:List a}{ys:List b}(k:Nat),Paired R xs ys->Paired R (xs.take k) (ys.take k)
 |_,_,0,_=>.nil
 |_,_,_+1,.nil=>.nil
 |_,_,k+1,.cons r t=>.cons r (Az k t)
theorem oU(h:xs[xs.length-1]?=some v):dW xs (-1)=some v:=by(
have h0:=(aD.mp h).1;unfold dW e7;rw[Ps (by lia),No (by lia)];show xs[_]?=some v;rw[<- h]
congr 1
lia)
noncomputable def iB:List Int->Option c9
 |[s,d,t,m]=>some (.board s d t m)
 |_=>none
theorem fL:pu ["plan","stop","day","minute","most","network","rows","goes","run","call","trip","begins","stops","comes","leaving"] zaG (s1 qi):=nb rfl rfl rfl (by decide +kernel)
noncomputable def e5 (H:Hp) (t:Int) (v:W1):Bool:=match kc H v with
 |.int g::_=>decide (t<=g)
 |_=>false
theorem Jx(F:sB K "board" "board" qi f fd) (T:bV K mg CP) (U:eG mg) (X:bg K mg CS CN)
  (PZ:Gf P w K mg base 2 "can_ask" zac (hY CP CN)) (P2:Gf P w K mg base 1 "is_most" zai j9) (P0:Gm P w K mg base 4 CP "forward" zab (fM CP CN hx))
  (P1:Gf P w K mg base 1 "counted" zam j8):AC P w K mg base xL 7 f fd zaG (cI CP CN iB 4):=by
 refine gl PZ λQW Q0 PM PU QD Qy=>?_;refine gl P2 λQZ Q3 GM PY QF QA=>?_;refine Do P0 λQX Q1 PN PV QC=>?_;refine gl P1 λQY Q2 PQ PX QE Qz=>?_;refine F.ar fL (λvs H Q E h=>?_) (λQU QS outer s0 H vs Q E O5 h=>?_)
 ·refine gR h λA J m l c QN Pb _=>?_;subst QN;simp[Pb]
 ·intro QT;refine gS h λA J m l c QO Pb Ql O3 hT hm k=>?_;subst QO;obtain⟨a,d,t,s,rfl⟩:=d0 Pb;cases Ql;refine B (On (it (PW.pt (ew (bR (cz (ge PM (O5.mono) rfl QD Qy PU .nil ws (UV (V 0) (UV (V 1) (UV (V 1) (UV (V 2) (UV (V 3) PP)))))))) (gU (bR (cz (ge GM (O5.mono) rfl QF QA PY .nil ws (UV (V 4) PP))))))) (Fa (tt (db (UV (nl T.c2 rfl) PP)))) he)
   (On (zS 5 fL (aA (V 0) T.cl QC PN (O5.mono) PV .nil ws (UV (V 2) PP)))
   (On (zS 6 fL (db PP))
   (On (cH bN rfl (cy (nj nF (iV (own:=[("leaving",14)]) rfl fL.nd (cy (xz wE (wS (V 5) rfl) (V 1))) (fx rfl) (λ_ _ _ _ _=>zG 14 fL) (λ_ _ _ _ _=>K7 (ga (r:=d3 λi j=>.bl (decide (j<=i))) la (xz (r:=AM K) gN (V 14) EQ) (V 3) (li _))) (λ_ _ _ _ _=>V 14)) fI (d2 (V 4))))
     (cw rfl (re (zG 7 fL) (re (zG 8 fL) (re (zG 9 fL) cx))))
    (On (dI (xz wE (wS (V 5) rfl) (V 8)) (cw rfl (re (zG 10 fL) (re (zG 11 fL) cx))))
    (On (dI (xz wE (wS (V 5) rfl) (V 8)) (cw rfl (re (zG 12 fL) (re (zG 13 fL) cx))))
    (Fa (ca (cG cm da dc cZ (V 6) (UV (bY (UV (V 7) (UV (V 10) (UV (V 11) (UV (xz wE (V 12) (eL eP EQ)) PP))))) PP)))))))
   (Fa (tt (ge PQ (O5.mono) rfl QE Qz PX .nil ws (UV (V 6) (UV (V 4) PP))))))))) ?_
  have Pq:(b2 J a a d t&&u8 s 0 4096)=false->∀p,H p=none->Q (.ref p) (Uf H p (.lst [W1.int (-2)])):=λe p OX=>by
   have Y:Ev J (.board a d t s)=(bM (-2),J):=by simp only[Ev,e,a9]
   rw[Y]at k;exact k _ p ((O3.same (Tl.new OX)).more (by lia)) ((Tl.new OX).but _) OX KE
  refine B rfl (B rfl (B rfl (B rfl (B rfl (g8 A J m a a d t ⟨O,O3,B rfl ?_⟩)))));rw[jV];cases O2:b2 J a a d t with
  |false=>exact wn (wn ⟨by show 1<=Gc;decide,Pq (by rw[O2];rfl)⟩)
  |true=>
   refine v6 (B rfl (Ix s O (B rfl ?_)));cases OS:(decide (0<=s)&&decide (s<=4096))with
   |false=>exact wn ⟨by show 1<=Gc;decide,Pq (by rw[O2,show u8 s 0 4096=false from OS];rfl)⟩
   |true=>
    have hw:(b2 J a a d t&&u8 s 0 4096)=true:=by rw[O2,show u8 s 0 4096=true from OS];rfl
    simp only[ev,dL]at OS;refine jZ (jB O2) λx y e QP Rg QQ Pc O6 Qm Rb Rc=>?_;subst QP;subst QQ;refine v6 (B rfl (nw A.x A.dx _ O O3.ob O (B rfl (bi A J m e O O3 hT Qm (by lia) (λH1 v Pu hv Pr Q7=>?_)))));refine Do hv λn N QR Pt OU=>?_;subst QR;have hz:=jM hT e OU;obtain⟨ok,same,PB⟩:=dF hT.bd OU;have bn:=Fv hT.bd OU (t:=t) Pc;refine et Pt.ex λO9 c r o P6 Q4 Rl os ds fs h1 h2 Qb Qc Qd Qe Q5 Q6 Qg Qa=>?_;refine⟨f4 _,λb O7=>?_⟩;have D:Tl H1 (Uf H1 b (.lst [])):=Tl.new O7;generalize Qh:Uf H1 b (.lst [])=H2 at D⊢;have Pw:H2 b=some (.lst []):=by rw[<- Qh];exact KE
    have xd:x<N.af.length:=by rw[hz.af,PB];exact Pc
    obtain⟨vd,Qv,es,⟨P5,rfl,Py⟩,Pf⟩:=c5 Qe (bW xd []);have Ri:es.length<=300000:=by
     rw[Paired.length Pf];have:=jR (N.af.map cC) x;rw[np,pr,bW xd []]at this;have this:(N.af.getD x []).length<=_:=this;have:=hz.small.2.1;lia
    have Q9:=Pt.same D;refine B rfl (wv n CN O9 _ _ O (D _ _ h1) X.aS X.hM O (B rfl (Db P6 _ _ _ O O (TD.of (D _ _ Qd)) (lv Qv) (zn P5 O ⟨_,TD.of (D _ _ Py)⟩ (λO0 PH=>?_)))));refine Ip (e5 H2 t) PH (TD.of (D _ _ Py)) (ed (small (by lia))) (λ_=>rfl) (λ_=>rfl) (λv hv OQ R OP q=>?_) ?_
    ·obtain⟨Y,_,ta,rfl,OW⟩:=nh Pf hv;have PF:=D _ _ OW;have P_:e5 H2 t (.ref ta)=decide (t<=Y.1):=by simp only[e5,kc,PF,aX]
     rw[P_]at q;exact B rfl (Db ta _ _ _ O O (pm.of (OP _ _ PF)) O (B rfl (IN _ _ O O (B rfl q))))
    have OP:Tl H2 (Uf H2 O0 (.lst (es.filter (e5 H2 t)))):=Tl.new PH;generalize Qi:Uf H2 O0 (.lst (es.filter (e5 H2 t)))=OQ at OP⊢;have P9:OQ O0=some (.lst (es.filter (e5 H2 t))):=by rw[<- Qi];exact KE
    refine B rfl (Ix s O (IN O0 _ O (TD.of P9) (λON Pd=>?_)));rw[yV _ OS.1];have Pg:Tl OQ (Uf OQ ON (.lst ((es.filter (e5 H2 t)).take s.toNat))):=Tl.new Pd;generalize Qj:Uf OQ ON (.lst ((es.filter (e5 H2 t)).take s.toNat))=OO at Pg⊢;have O_:OO ON=some (.lst ((es.filter (e5 H2 t)).take s.toNat)):=by rw[<- Qj];exact KE
    have pl:Paired (λv e=>TupAt OO v (aX e)) ((es.filter (e5 H2 t)).take s.toNat) ((iJ N x t).take s.toNat):=by
     have QH:Paired (λv e=>TupAt H2 v (aX e)) es (N.af.getD x []):=aj (λ_ _ q=>q.same D) Pf;have p2:Paired (λv e=>TupAt H2 v (aX e)) (es.filter (e5 H2 t)) (iJ N x t):=KD (λv Y QL=>by obtain⟨ta,P7,P8⟩:=QL;subst P7;simp only[e5,kc,P8,aX]) QH;exact aj (λ_ _ q=>(q.same OP).same Pg) (Az _ p2)
    generalize Rf:(es.filter (e5 H2 t)).take s.toNat=vs at O_ pl⊢;generalize OT:(iJ N x t).take s.toNat=OR at pl;have Qk:∀Y,Y∈OR->Y.2.1<N.runs.length:=λY Pz=>by
     rw[<- OT]at Pz;have:=oz Pz;unfold iJ at this;exact hz.mF x Y (by rw[PB];exact Pc) (f5.mp this).1
    have Q8:OR.length<=4096:=by rw[<- OT,aP];lia
    have QB:vs.length=OR.length:=Paired.length pl;have PJ:Tl H2 OO:=OP.tr Pg;have Px:OO b=some (.lst []):=PJ _ _ Pw;have lo:N.aZ.length=N.runs.length:=by rw[OU.aZ,OU.runs];simp[lm,wT]
    have Pa:Tl H1 OO:=D.tr PJ;have PL:ON∉[b]:=λz=>by rw[sc.mp z,OP _ _ Pw]at Pd;cases Pd
    refine zn ON O ⟨_,TD.of O_⟩ ?_
    let PR:Nat->St->Hp->Prop:=λi ZB C=>∃Pm Pn Po Ph Pj Pk Pl bs,ZB=[some (.ref A.x),some (Rs x),some (Rs e),some (.int t),some (.int s),some (.ref n),some (.ref b),Pm,Pn,Po,Ph,Pj,Pk,Pl,none]/\C b=some (.lst bs)/\Paired (λv r=>TupAt (hide [b] C) v (r.map W1.int)) bs ((OR.take i).map (fB N))/\Ch [b] OO C
    refine gM (K:=K) (a:=ON) (xs:=vs) PR
     (fc none none none none none none none ([]) ⟨O,Px,.nil,Ch.rfl' _ _⟩) (λi ZB C _ QM=>by obtain⟨_,_,_,_,_,_,_,_,_,_,_,L⟩:=QM;exact TD.of (L _ _ O_ PL)) ?_ ?_
    ·rintro i v ZB C hi ⟨Pm,Pn,Po,Ph,Pj,Pk,Pl,bs,rfl,OV,OY,L⟩;obtain⟨⟨g,OM,P4⟩,O6,ta,rfl,OW⟩:=eu pl hi;have Ra:=(aD.mp O6).1;have up1:∀ {O1:WF}{u:HO},H1 O1=some u->C O1=some u:=λq=>L _ _ (Pa _ _ q) (by simpa using v0 q O7);have Qu:=L _ _ OW (λz=>by rw[sc.mp z,Px]at OW;cases OW);have PD:OM<N.runs.length:=Qk _ (pi O6);obtain⟨Rm,Qw,QG,rfl,Qp⟩:=c5 Qa (bW (show OM<N.aZ.length by lia) (0,0));obtain⟨Rn,Qx,sa,QV,⟨QI,rfl,Qs⟩,Qt,Q_⟩:=c5 Qc (bW PD ([],[]));have Rh:bs.length=i:=by rw[Paired.length OY,FM,aP];lia
     refine g2 ta _ O (pm.of Qu) O (im _ _ O (im _ _ O (IN _ _ O O ?_)));refine B rfl (wv n CN O9 _ _ O (up1 h1) X.aS X.pI O (B rfl (Db o _ _ _ O O (TD.of (up1 Qg)) (lv Qw) (g2 QG _ O (pm.of (up1 Qp)) O (im _ _ O (IN _ _ O O ?_))))));refine B rfl (wv n CN O9 _ _ O (up1 h1) X.aS X.iS O (B rfl (Db r _ _ _ O O (TD.of (up1 Qb)) (lv Qx) (g2 QI _ O (pm.of (up1 Qs)) O (im _ _ O (IN _ _ O O ?_))))));have pos:=hz.pos OM PD;have Qo:((N.runs.getD OM ([],[])).1.map Rs)[((N.runs.getD OM ([],[])).1.map Rs).length-1]?=some (Rs (N.stop OM (N.len OM-1))):=by
      rw[FM];exact k' (by unfold Nt.len at pos;lia)
     refine zn _ O (.inl ⟨O,⟨_,TD.of OV⟩⟩) (B rfl (B rfl (B rfl (B rfl (Ix 1 O (bi sa _ _ _ O O (TD.of (up1 Qt)) (oU Qo) (by show 4<=Gc;decide) (λOZ Pe=>?_)))))));have O8:b≠OZ:=v0 OV Pe;refine bb b bs _ O O ((UF O8).trans OV) (small (by lia)) ?_;have Qn:Tl (hide [b] C) (hide [b] (Uf (Uf C OZ (.tup ((fB N (g,OM,P4)).map W1.int))) b (.lst (bs++[W1.ref OZ])))):=pJ (by simp) Pe;refine fc _ _ _ _ _ _ _ (bs++[W1.ref OZ]) ⟨O,KE,?_,?_⟩
     ·rw[cB,O6,cK,bL];refine Paired.snoc (aj (λ_ _ q=>q.same Qn) OY) (Ix OZ O (wl.mpr ⟨by simpa using Ne.symm O8,?_⟩));rw[UF (Ne.symm O8),KE];rfl
     ·exact(L.new Pe).put (by simp)
    ·rintro ZB C ⟨Pm,Pn,Po,Ph,Pj,Pk,Pl,bs,rfl,OV,OY,L⟩;rw[QB,dy]at OY;refine B rfl (B rfl (bi b s bs _ O OV (aj (λ_ _ q=>q.same (b7 _ _)) OY) OS.2 (λRj Qr=>?_) (λPp p QK OX Qq=>?_)))
     ·obtain⟨z,_,rfl⟩:=mo.mp Qr;show 4<=9;decide
     have PK:Tl H1 Pp:=λO1 u q=>QK _ _ (L _ _ (Pa _ _ q) (by simpa using v0 q O7));have QJ:Tl H1 C:=λO1 u q=>L _ _ (Pa _ _ q) (by simpa using v0 q O7);refine k Pp p ((Pu.same PK).more (by lia)) (Pr.tr (PK.but []) λb O4=>by simp at O4) ?_ ?_
     ·exact gF Pr (QJ.free OX) λb O4=>Pu.there (by simp only[sc]at O4;rw[O4];simp[PA.own])
     ·rw[Qq];have eq:gq s (OR.map (fB N))=am (Ev J (.board x e t s)).1:=by
       simp only[Ev,hw,c',aK,ee];rw[bn];unfold gq am;rw[No (by rw[FM,<-OT,aP];lia),Ps (by simp only;lia)];rw[<- nM,OT,FM,FM,<-OT,aP,Nat.min_comm]
      rw[eq]
theorem ul.there(h:ul CS CN H A N S) (a:b∈A.own):∃o,H b=some o/\∀l,o≠HO.tup l:=by(
simp only[SA.own,rs,ir,g9]at a;rcases a with rfl|rfl|rfl|rfl|rfl|rfl|rfl|rfl
·exact B h.ob (λ_ z=>by cases z)
·exact B h.arr (λ_ z=>by cases z)
·exact B h.rides (λ_ z=>by cases z)
·exact B h.ab (λ_ z=>by cases z)
·exact B h.ready (λ_ z=>by cases z)
·exact B h.ah (λ_ z=>by cases z)
·exact B h.aa (λ_ z=>by cases z)
·obtain⟨es,e,_⟩:=h.ae;exact B e (λ_ z=>by cases z))
theorem ul.tup(h:ul CS CN H A N S) (c:Ch A.own H I) (t:TupAt H v l):TupAt I v l:=by
 obtain⟨a,e,q⟩:=t;refine Ix a e (c a _ q λz=>?_);obtain⟨o,b,d⟩:=h.there z;rw[q]at b;cases b;exact d _ rfl
theorem ul.same(h:ul CS CN H A N S) (s:Tl H I):ul CS CN I A N S:=by(
have d:Tl (hide A.own H) (hide A.own I):=λb o e=>by
 obtain⟨a,c⟩:=wl.mp e;exact wl.mpr ⟨a,s _ _ c⟩
obtain⟨es,a,c⟩:=h.ae;exact⟨s _ _ h.ob,s _ _ h.arr,s _ _ h.rides,s _ _ h.ab,s _ _ h.ready,s _ _ h.ah,s _ _ h.aa,(Ix es (s _ _ a) (aj (λ_ _ q=>q.same d) c)),h.nd,h.au.same d⟩)
theorem ul.put(h:ul CS CN H A N S) (p:b∉A.own) (m:H b=some o) (s:∀l,o≠HO.tup l) (r:f2 CN (hide (b::A.own) H) A.n N):ul CS CN (Uf H b o') A N S:=by(
have ne:∀ {c:WF},c∈A.own->c≠b:=λf z=>p (by rw[<- z];exact f);have at_:∀ {c:WF}{u:HO},c∈A.own->H c=some u->(Uf H b o') c=some u:=λf e=>by rw[UF (ne f)];exact e
obtain⟨es,j,k⟩:=h.ae;refine⟨at_ (by simp[SA.own]) h.ob,at_ (by simp[SA.own]) h.arr,at_ (by simp[SA.own]) h.rides,at_ (by simp[SA.own]) h.ab,at_ (by simp[SA.own]) h.ready,at_ (by simp[SA.own]) h.ah,at_ (by simp[SA.own]) h.aa,(Ix es (at_ (by simp[SA.own]) j) (aj (λv e q=>?_) k)),h.nd,r.same λc u e=>?_⟩
·obtain⟨a,d,g⟩:=q;obtain⟨t,i⟩:=wl.mp g;refine Ix a d (wl.mpr ⟨t,?_⟩);rw[UF (λz=>by rw[z,m]at i;cases i;exact s _ rfl)];exact i
·obtain⟨d,g⟩:=wl.mp e;exact wl.mpr ⟨λz=>d (o0 _ z),by rw[UF (λz=>d (by rw[z];exact kt ..))];exact g⟩)
noncomputable def iD:List Int->Option c9
 |[a,b,d,t,m]=>some (.front a b d t m)
 |_=>none
theorem lE:pu ["plan","start","goal","day","minute","most","search","rows","arrival","rides"] zan (s1 qw):=nb rfl rfl rfl (by decide +kernel)
theorem rk (p:Int) (k:Nat) (v:Int) (l:List Int):gs p k (v::l)=if v<p then [((k:Nat):Int),v]::gs v (k+1) l else gs p (k+1) l:=rfl
theorem JJ(F:sB K "front" "front" qw f fd) (T:bV K mg CP) (U:eG mg) (X:bg K mg CS CN) (QE:mg "Search"=some (.ref CS)) (TW:Mk K CS Qn) (P2:AC P w K mg base xL 1 Qn Qo zae (iY CS CN)) (P8:Binds K Qo zae [])
  (Qd:Gf P w K mg base 2 "can_ask" zac (hY CP CN)) (Qh:Gf P w K mg base 1 "is_most" zai j9) (Qe:Gm P w K mg base 4 CP "forward" zab (fM CP CN hx))
  (Qc:Gm P w K mg base 4 CS "begin" zaj (nH CS CN)) (Qi:Gm P w K mg base 4 CS "take_ride" zaa (nI CS CN)) (Qg:Gf P w K mg base 1 "counted" zam j8):AC P w K mg base xL 7 f fd zan (cI CP CN iD 5):=by
 refine gl Qd λQR QX P0 P6 QB Qu=>?_;refine gl Qh λQU Q0 GM P_ QD Qw=>?_;refine Do Qe λQS QY P1 P7 Qz=>?_;refine Do Qc λQQ QW PZ bB Qy=>?_;refine Do Qi λQV Q1 GT Qb QA=>?_;refine gl Qg λQT QZ P4 P9 QC Qv=>?_;refine F.ar lE (λvs H Q E h=>?_) (λQP QN outer s0 H vs Q E g h=>?_)
 ·refine gR h λA OM m l c QH O6 _=>?_;subst QH;simp[O6]
 ·intro QO;refine gS h λA OM m l c QI O6 OW Pd hT hm k=>?_;subst QI;obtain⟨a,b,d,t,Y,rfl⟩:=jQ O6;cases OW;refine B (On (it (PW.pt (ew (bR (cz (ge P0 (g.mono) rfl QB Qu P6 .nil ws (UV (V 0) (UV (V 1) (UV (V 2) (UV (V 3) (UV (V 4) PP)))))))) (gU (bR (cz (ge GM (g.mono) rfl QD Qw P_ .nil ws (UV (V 5) PP))))))) (Fa (tt (db (UV (nl T.c2 rfl) PP)))) he)
   (On (zS 6 lE (hP TW P2 (g.mono) rfl QE P8 .nil ws (UV (aA (V 0) T.cl Qz P1 (g.mono) P7 .nil ws (UV (V 3) PP)) PP)))
   (On (ca (aA (V 6) X.aq Qy PZ (g.mono) bB .nil ws (UV (V 1) (UV (V 4) PP))))
   (On (zS 7 lE (db PP))
   (On (zS 8 lE (nl U.nv rfl))
   (On (cH bN rfl (nk rfl T.range (UV (jp bG (nl U.m8 rfl) EQ) PP)) (zG 9 lE)
    (On (it (ga m' (V 9) EQ (li _)) (Fa (ca (lp (V 6) X.aq QA GT (g.mono) Qb .nil ws))) he)
    (Fa (it (ga d1 (xz wE (wS (V 6) rfl) (V 2)) (V 8) (li _))
     (On (zS 8 lE (xz wE (wS (V 6) rfl) (V 2)))
     (Fa (ca (cG cm da dc cZ (V 7) (UV (bY (UV (V 9) (UV (V 8) PP))) PP))))) he))))
   (Fa (tt (ge P4 (g.mono) rfl QC Qv P9 .nil ws (UV (V 7) (UV (V 5) PP))))))))))) ?_
  have Py:(b2 OM a b d t&&u8 Y 0 4096)=false->∀p,H p=none->Q (.ref p) (Uf H p (.lst [W1.int (-2)])):=λe p O_=>by
   have Pk:Ev OM (.front a b d t Y)=(bM (-2),OM):=by simp only[Ev,e,a9]
   rw[Pk]at k;exact k _ p ((Pd.same (Tl.new O_)).more (by lia)) ((Tl.new O_).but _) O_ KE
  refine B rfl (B rfl (B rfl (B rfl (B rfl (g8 A OM m a b d t ⟨O,Pd,B rfl ?_⟩)))));rw[jV];cases Pb:b2 OM a b d t with
  |false=>exact wn (wn ⟨by show 1<=Gc;decide,Py (by rw[Pb];rfl)⟩)
  |true=>
   refine v6 (B rfl (Ix Y O (B rfl ?_)));cases Pl:(decide (0<=Y)&&decide (Y<=4096))with
   |false=>exact wn ⟨by show 1<=Gc;decide,Py (by rw[Pb,show u8 Y 0 4096=false from Pl];rfl)⟩
   |true=>
    have hw:(b2 OM a b d t&&u8 Y 0 4096)=true:=by rw[Pb,show u8 Y 0 4096=true from Pl];rfl
    refine jZ (jB Pb) λx y e QJ QK QL PM PN Qr Q4 Q5=>?_;subst QJ;subst QK;subst QL;refine v6 (B rfl (nw A.x A.dx _ O Pd.ob O (B rfl (bi A OM m e O Pd hT Qr (by lia) (λH1 v PH hv PD Q2=>?_)))));refine Do hv λn N QM Qq Pn=>?_;subst QM;have hz:=jM hT e Pn;obtain⟨ok,same,PL⟩:=dF hT.bd Pn;have bn:=G2 hT.bd Pn PM PN (t:=t) (by unfold FS;lia);have Pq:x<N.n:=by rw[PL];exact PM
    refine λsx dx a1 a2 a3=>z' Qq hz a1 a2 a3 λH2 S ex PJ QG PB=>⟨O,?_⟩;subst ex;refine B rfl (nw S.x S.dx _ O PJ.ob O (B rfl (B rfl (b0 S N _ x t ⟨O,PJ,fw hz,Pq,λOO O3 Qp=>?_⟩))));have PF:pp N (cp N x t):=((fw hz).av Pq t t).bI Pq t;have QF:=kQ QG Qp PB;have Pu:Tl H1 (hide S.own OO):=λc u q=>wl.mpr ⟨(λz=>by rw[PB c z]at q;cases q),QF _ _ q⟩
    replace O3:ul CS CN OO S N (cp N x t):=O3
    generalize cp N x t=Wp at O3 PF bn;have Po:=O3.au;have Pw:Tl (hide S.own OO) OO:=b7 _ _;have PR:∀c,c∈S.own->(hide S.own OO) c=none:=λc OW=>by
     cases q:(hide S.own OO) c with
     |none=>rfl
     |some u=>exact absurd OW (wl.mp q).1
    generalize hide S.own OO=G at Pu Po Pw PR;refine⟨f4 _,λb Pr=>?_⟩;have PV:Tl OO (Uf OO b (.lst [])):=Tl.new Pr;have Qa:b∉S.own:=λz=>by obtain⟨o,q,_⟩:=O3.there z;rw[Pr]at q;cases q
    have Pg:G b=none:=Pw.free Pr;generalize Pp:(s4 9).map (λk=>(a8 N Wp k).arr.getD y 0)=OY at bn;refine IN _ _ O O ⟨_,O,by decide,by decide,?_⟩
    let P5:Nat->St->Hp->Prop:=λi ZB OP=>∃(s:SA) (bs:List W1) (R:List (List Int)) (p:Int) (Px:Option W1),ZB=[some (.ref A.x),some (Rs x),some (Rs y),some (Rs e),some (.int t),some (.int Y),some (.ref S.x),some (.ref b),some (.int p),Px]/\s.x=S.x/\s.n=S.n/\ul CS CN OP s N (a8 N Wp (i-1))/\OP b=some (.lst bs)/\b∉s.own/\(∀c,c∈s.own->G c=none)/\Paired (λv r=>TupAt OP v (r.map W1.int)) bs R/\Tl G OP/\gs FS 0 OY=R++gs p i (OY.drop i)/\R.length<=i/\∀r,r∈R->r.length<=9
    refine kY (lo:=0) (n:=9) P5
     (b0 S ([]) ([]) FS none ⟨O,O,O,O3.same PV,KE,Qa,PR,.nil,Pw.tr PV,O,tz _,λr g=>by simp at g⟩) ?_ ?_
    ·rintro i ZB OP hi ⟨s,bs,R,p,Px,rfl,ex,en,O4,O5,Pa,Ph,Pj,O8,eq,Qx,O7⟩;have Qj:(0:Int)+((i:Nat):Int)=((i:Nat):Int):=by lia
     show bh 9 (W1.int ((0:Int)+((i:Nat):Int))) _ _ _;rw[Qj];have PK:i<9:=hi;have PX:∀j,pp N (a8 N Wp j):=λj=>by rw[<- iW];exact fJ PF j
     have Pf:y<(a8 N Wp i).arr.length:=by rw[(PX i).arr,PL];exact PN
     have Pc:OY.drop i=(a8 N Wp i).arr.getD y 0::OY.drop (i+1):=by
      have O6:i<OY.length:=by rw[<- Pp,FM,fZ];exact PK
      rw[x2 O6]
      congr 1
      have:OY[i]?=some ((a8 N Wp i).arr.getD y 0):=by rw[<- Pp,pr,gy PK];rfl
      rw[g1 O6]at this;exact b3 this
     refine B rfl (IN _ _ O O (B rfl ?_));rcases Nat.eq_zero_or_pos i with Qs|Q3
     ·have D:ul CS CN OP s N (a8 N Wp i):=by rw[Qs]at O4 ⊢;exact O4
      rw[sn (by lia)];refine v6 ?_;obtain⟨C,L,ON,OV,J,OU,OX,OQ,OS,Ql,Pz⟩:∃(C:SA) (L:Hp),C.x=S.x/\C.n=S.n/\L b=some (.lst bs)/\b∉C.own/\(∀c,c∈C.own->G c=none)/\Paired (λv r=>TupAt L v (r.map W1.int)) bs R/\Tl G L/\C=s/\L=OP:=⟨s,OP,ex,en,O5,Pa,Ph,Pj,O8,O,O⟩;rw[<- Ql,<-Pz]at D;rw[<- Pz];refine B rfl (wv S.x CS C.dx _ _ O (by rw[<- ON];exact D.ob) X.aq X.dJ O (B rfl (Db C.a1 _ _ _ O O (TD.of D.arr) (lv (int_at Pf)) (B rfl (IN _ _ O O (B rfl ?_))))));by_cases c:(a8 N Wp i).arr.getD y 0<p
      ·rw[sK c];refine wn (B rfl (wv S.x CS C.dx _ _ O (by rw[<- ON];exact D.ob) X.aq X.dJ O (B rfl (Db C.a1 _ _ _ O O (TD.of D.arr) (lv (int_at Pf)) ?_))));refine zn _ O (.inl ⟨O,⟨_,TD.of J⟩⟩) (B rfl (zn _ O (by show 2<=Gc;decide) (λOT O0=>?_)));have OZ:b≠OT:=v0 J O0;refine bb b bs _ O O ((UF OZ).trans J) (small (by rw[Paired.length OQ];lia)) ?_;have O2:Tl L (Uf L OT (.tup [Rs i,W1.int ((a8 N Wp i).arr.getD y 0)])):=Tl.new O0;refine b0 C (bs++[W1.ref OT]) (R++[[(i:Int),(a8 N Wp i).arr.getD y 0]]) _ _ ⟨O,ON,OV,(D.same O2).put OU ((UF OZ).trans J) (λ_ z=>by cases z) ?_,KE,OU,OX,?_,λO9 u q=>?_,by rw[eq,Pc,rk,No c,dv];rfl,by rw[ls,bK];lia,λr g=>?_⟩
       ·rw[OV];refine Po.same λO9 u q=>wl.mpr ⟨λz=>?_,O2 _ _ (OS _ _ q)⟩;rcases rs.mp z with z|z
        ·rw[z,Pg]at q;cases q
        ·rw[OX O9 z]at q;cases q
       ·refine Paired.snoc (aj (λv r ⟨a,Pt,OR⟩=>Ix a Pt ?_) OQ) (Ix OT O (by rw[UF (Ne.symm OZ),KE];rfl));rw[UF (λz=>by rw[z,J]at OR;cases OR),UF (v0 OR O0)];exact OR
       ·rw[UF (λz=>by rw[z,Pg]at q;cases q)];exact O2 _ _ (OS _ _ q)
       ·rcases cs.mp g with g|g
        ·exact O7 r g
        ·rw[sc.mp g];show 2<=9;decide
      ·rw[sn c];exact v6 (b0 C bs R p _ ⟨O,ON,OV,D,J,OU,OX,OQ,OS,by rw[eq,Pc,rk,Ps c],by lia,O7⟩)
     ·rw[sK (by lia)];refine wn (B rfl (nw S.x s.dx _ O (by rw[<- ex];exact O4.ob) O (nw s N _ (by rw[ex];rfl) O4 (PX _) (λL O1 PQ D Pm=>?_))));have Qm:cA N (a8 N Wp (i-1))=a8 N Wp i:=by
       obtain⟨j,rfl⟩:∃j,i=j+1:=⟨i-1,by lia⟩;rfl
      rw[Qm]at D;have PY:∀c,c∈({s with a7:=O1}:SA).own->c∈s.own\/c=O1:=λc OW=>by
       simp only[SA.own,rs,ir,g9]at OW⊢;rcases OW with h|h|h|h|h|h|h|h<;>simp[h]
      have J:=Pm _ _ O5 Pa;have OS:=kQ O8 Pm Ph;have OQ:=aj (λv r q=>O4.tup Pm q) Pj;have OU:b∉({s with a7:=O1}:SA).own:=λz=>by
       rcases PY _ z with z|z
       ·exact Pa z
       ·rw[z,PQ]at O5;cases O5
      have OX:∀c,c∈({s with a7:=O1}:SA).own->G c=none:=λc OW=>by
       rcases PY _ OW with z|z
       ·exact Ph c z
       ·rw[z];exact O8.free PQ
      have ON:({s with a7:=O1}:SA).x=S.x:=ex;have OV:({s with a7:=O1}:SA).n=S.n:=en;generalize ({s with a7:=O1}:SA)=C at D OU OX ON OV;refine B rfl (wv S.x CS C.dx _ _ O (by rw[<- ON];exact D.ob) X.aq X.dJ O (B rfl (Db C.a1 _ _ _ O O (TD.of D.arr) (lv (int_at Pf)) (B rfl (IN _ _ O O (B rfl ?_))))));by_cases c:(a8 N Wp i).arr.getD y 0<p
      ·rw[sK c];refine wn (B rfl (wv S.x CS C.dx _ _ O (by rw[<- ON];exact D.ob) X.aq X.dJ O (B rfl (Db C.a1 _ _ _ O O (TD.of D.arr) (lv (int_at Pf)) ?_))));refine zn _ O (.inl ⟨O,⟨_,TD.of J⟩⟩) (B rfl (zn _ O (by show 2<=Gc;decide) (λOT O0=>?_)));have OZ:b≠OT:=v0 J O0;refine bb b bs _ O O ((UF OZ).trans J) (small (by rw[Paired.length OQ];lia)) ?_;have O2:Tl L (Uf L OT (.tup [Rs i,W1.int ((a8 N Wp i).arr.getD y 0)])):=Tl.new O0;refine b0 C (bs++[W1.ref OT]) (R++[[(i:Int),(a8 N Wp i).arr.getD y 0]]) _ _ ⟨O,ON,OV,(D.same O2).put OU ((UF OZ).trans J) (λ_ z=>by cases z) ?_,KE,OU,OX,?_,λO9 u q=>?_,by rw[eq,Pc,rk,No c,dv];rfl,by rw[ls,bK];lia,λr g=>?_⟩
       ·rw[OV];refine Po.same λO9 u q=>wl.mpr ⟨λz=>?_,O2 _ _ (OS _ _ q)⟩;rcases rs.mp z with z|z
        ·rw[z,Pg]at q;cases q
        ·rw[OX O9 z]at q;cases q
       ·refine Paired.snoc (aj (λv r ⟨a,Pt,OR⟩=>Ix a Pt ?_) OQ) (Ix OT O (by rw[UF (Ne.symm OZ),KE];rfl));rw[UF (λz=>by rw[z,J]at OR;cases OR),UF (v0 OR O0)];exact OR
       ·rw[UF (λz=>by rw[z,Pg]at q;cases q)];exact O2 _ _ (OS _ _ q)
       ·rcases cs.mp g with g|g
        ·exact O7 r g
        ·rw[sc.mp g];show 2<=9;decide
      ·rw[sn c];exact v6 (b0 C bs R p _ ⟨O,ON,OV,D,J,OU,OX,OQ,OS,by rw[eq,Pc,rk,Ps c],by lia,O7⟩)
    ·rintro ZB OP ⟨s,bs,R,p,Px,rfl,ex,en,O4,O5,Pa,Ph,Pj,O8,eq,Qx,O7⟩;have Qk:gs FS 0 OY=R:=by
      rw[eq];have:OY.drop 9=[]:=wc (by rw[<- Pp,FM,fZ];exact tz _);rw[this];simp[gs]
     refine B rfl (B rfl (bi b Y bs R O O5 Pj (pk Pl) O7 (λL OQ OS O_ Qt=>?_)));have PU:=(Pu.tr O8).tr OS;refine k L OQ ((PH.same PU).more (by lia)) (PD.tr (PU.but []) λb Pe=>by simp at Pe) ?_ ?_
     ·exact gF PD ((Pu.tr O8).free O_) λb Pe=>PH.there (by simp only[sc]at Pe;rw[Pe];simp[PA.own])
     ·rw[Qt,A1];have Pk:Ev OM (.front x y e t Y)=(lZ Y R,OM):=by
       simp only[Ev,hw,c',aK,ee];rw[bn,Qk]
      rw[Pk]
def nK (s:Nat):sw:=ii (s:Int)
theorem uC(h:nK s=nK t):s=t:=by unfold nK at h;injection h with h;lia
structure FD (n a:Nat) (W:List (Nat×Int)) (T0:List (sw×W1)):Prop where
 val:∀s:Nat,∃o,ce (λf=>(s=a/\f=0)\/(s,f)∈W) o/\io T0 (nK s)=o.map W1.int
 keys:∃ks:List Nat,ks.Nodup/\(∀s,s∈ks->s<n)/\T0.map (·.1)=ks.map nK
theorem FD.start(h:a<n):FD n a [] [(nK a,W1.int 0)]:=by(
refine⟨λs=>?_,[a],by simp,λs c=>by rw[sc.mp c];exact h,O⟩;by_cases e:s=a
·subst e;exact Ix (some 0) ⟨.inl ⟨O,O⟩,λy b=>by rcases b with⟨_,rfl⟩|b<;>simp at *⟩ (fO rfl)
·refine Ix none (λy b=>?_) ?_
 ·rcases b with⟨z,_⟩|b
  ·exact e z
  ·simp at b
 ·rw[fN (λz=>e (uC z).symm)];rfl)
theorem Lb{k:sw}:(aC T0 k v).map (·.1)=if(io T0 k).isSome=true then T0.map (·.1)else T0.map (·.1)++[k]:=by(
unfold aC;rw[ke];by_cases c:(io T0 k).isSome=true
·rw[No c,No c,ax];refine eE λx _=>?_;show(if x.1=k then(x.1,v)else x).1=x.1;split<;>rfl
·rw[Ps c,Ps c,bL];rfl)
theorem FD.step(h:FD n a W T0) (hg:g<n) (hz:(io T0 (nK g)).getD (W1.int m)=W1.int z):FD n a (W++[(g,m)]) (aC T0 (nK g) (W1.int (if z<m then z else m))):=by(
obtain⟨ks,l,p,k⟩:=h.keys;refine⟨λs=>?_,?_⟩
·obtain⟨o,h1,h2⟩:=h.val s;rw[kf];by_cases e:s=g
 ·subst e;rw[No rfl];rw[h2]at hz;refine Ix (some (if z<m then z else m)) ?_ O;cases o with
  |none=>
   have j:m=z:=by injection hz
   subst j;have:(if m<m then m else m)=m:=by split<;>rfl
   rw[this];refine⟨.inr (by simp),λy b=>?_⟩;rcases b with b|b
   ·exact absurd (.inl b) (h1 y)
   ·rcases cs.mp b with b|b
    ·exact absurd (.inr b) (h1 y)
    ·simp only[sc,oo,true_and]at b;lia
  |some f=>
   have j:f=z:=by injection hz
   subst j;obtain⟨i,t⟩:=h1;constructor
   ·split
    ·rcases i with i|i
     ·exact .inl i
     ·exact .inr (gx _ i)
    ·exact .inr (by simp)
   ·intro y b;have:y=m\/f<=y:=by
     rcases b with b|b
     ·exact .inr (t y (.inl b))
     ·rcases cs.mp b with b|b
      ·exact .inr (t y (.inr b))
      ·simp only[sc,oo,true_and]at b;exact .inl b
    split<;>lia
 ·rw[Ps (λq=>e (uC q))];refine Ix o (h1.congr λx=>?_) h2;rw[cs,sc,oo];constructor
  ·rintro(q|q)
   ·exact .inl q
   ·exact .inr (.inl q)
  ·rintro(q|q|q)
   ·exact .inl q
   ·exact .inr q
   ·exact absurd q.1 e
·rw[Lb];by_cases c:(io T0 (nK g)).isSome=true
 ·rw[No c];exact zn ks l p k
 ·rw[Ps c];have u:io T0 (nK g)=none:=by simpa using c
  have r:=BY u;rw[k]at r;refine zn (ks++[g]) ?_ (λs d=>?_) (by rw[k,bL];rfl)
  ·rw[iq];refine⟨l,by simp,λx A y b=>?_⟩;rw[sc.mp b];intro z;exact r (by rw[<- z];exact mb A)
  ·rcases cs.mp d with d|d
   ·exact p s d
   ·rw[sc.mp d];exact hg)
theorem FD.len(h:FD n a W T0):T0.length<=n:=by(
obtain⟨ks,c,d,e⟩:=h.keys;have:T0.length=ks.length:=by have:=cM cC e;simpa using this
rw[this];have:=(c.sublist (List.Sublist.refl ks));have b:ks ⊆ s4 n:=λs b=>bS.mpr (d s b);have:=Eu c b;rw[fZ]at this;exact this)
def vC (CN:WF):Sp:=λvs H Q _=>∃(n:WF) (N:Nt) (a:Nat),vs=[.ref n,Rs a]/\f2 CN H n N/\dd N/\a<N.n/\
 ∀(I:Hp) (p:WF) (T0:List (sw×W1)),Tl H I->H p=none->I p=some (.dK T0)->FD N.n a (N.ft a) T0->Q (.ref p) I
theorem nC:pu ["network","start","on_foot","goal","minutes","number"] zaH (s1 qM):=nb rfl rfl rfl (by decide +kernel)
theorem JY(F:sB K "minutes_on_foot" "minutes_on_foot" qM f fd) (U:eG mg) (X:bg K mg CS CN):AC P w K mg base xL 1 f fd zaH (vC CN):=by(
refine F.ar nC (λvs H Q E h=>?_) (λOZ OX outer s0 H vs Q E OO h=>?_)
·refine pS h λn N a OV _=>?_;subst OV;rfl
·intro OY;refine nc h λn N a OW=>?_;obtain⟨rfl,ON,hz,d,k⟩:=OW;have hu:=hK OO;refine B (On (zS 2 nC (KJ (K1 (V 1) EQ K2) rfl rfl (by simp) (by decide)))
  (On (cH bN rfl (cy (xz wE (wS (V 0) rfl) (V 1))) (cw rfl (re (zG 3 nC) (re (zG 4 nC) (re (zG 5 nC) cx))))
   (Fa (nr hu (V 2) (V 3) (a0 (yL rfl) (by rfl) U.min xw (UV (V 4) (UV (uT hu (V 2) (V 3) (V 4) ⟨O,O,O,O⟩) PP))) rfl)))
  (Fa (tt (V 2))))) ?_
 refine et ON.ex λJ c r o O0 T O8 os ds fs h1 h2 O2 O3 O4 O5 Y OM O6 O1=>?_;refine λp A=>zn _ O KE (zn ([(nK a,W1.int 0)]) O (by show 1<=15;decide) ?_);rw[gZ];have L:k9 [] [(nK a,W1.int 0)]=[(nK a,W1.int 0)]:=rfl;rw[L];have sp:∀T0,Tl H (Uf H p (.dK T0)):=λT0=>Tl.new A;have xd:a<N.foot.length:=by rw[hz.foot];exact d
 obtain⟨vd,OQ,es,⟨s,rfl,t⟩,C⟩:=c5 OM (bW xd []);refine B rfl (wv n CN J _ _ O (sp _ _ _ h1) X.aS X.m4 O (B rfl (Db T _ _ _ O O (TD.of (sp _ _ _ Y)) (lv OQ) (zn s O ⟨_,TD.of (sp _ _ _ t)⟩ ?_))));have OR:es.length=(N.foot.getD a []).length:=Paired.length C
 let D:Nat->St->Hp->Prop:=λi ZB H2=>∃j l m T0,ZB=[some (.ref n),some (Rs a),some (.ref p),j,l,m]/\H2=Uf H p (.dK T0)/\FD N.n a (((N.foot.getD a []).take i).map λw=>(w.1,w.2.1)) T0
 refine gM (K:=K) (a:=s) (xs:=es) D
  (dQ none none none _ ⟨O,O,FD.start d⟩) (λi ZB H2 _ OU=>by obtain⟨_,_,_,_,_,e,_⟩:=OU;rw[e];exact TD.of (sp _ _ _ t)) ?_ ?_
 ·rintro i v ZB H2 hi ⟨j,l,m,T0,rfl,rfl,b⟩;obtain⟨⟨g,mi,q⟩,u,ta,rfl,OP⟩:=eu C hi;refine g2 ta _ O (pm.of (sp _ _ _ OP)) O (im _ _ O (im _ _ O (IN _ _ O O ?_)));have hg:g<N.n:=hz.kX a g mi d (by unfold Nt.ft;exact mo.mpr (B (pi u) rfl));obtain⟨OS,O7,OT⟩:=b.val g;obtain⟨z,y⟩:∃z,(io T0 (nK g)).getD (W1.int mi)=W1.int z:=by
   rw[OT];cases OS with
   |none=>exact⟨mi,O⟩
   |some x=>exact⟨x,O⟩
  refine B rfl (B rfl (zn p O (.inl ⟨_,.inl KE⟩) (B rfl (B rfl (B (cN.k (k:=nK g) KE) ?_)))));rw[y];refine im _ _ O (B rfl (B rfl (IN p _ O (f7.k (k:=nK g) KE (small (by have:=b.len;have:=hz.small.1;lia))) ?_)));rw[gZ];refine dQ _ _ _ _ ⟨O,O,?_⟩;rw[cB,u,cK,bL];exact b.step hg y
 ·rintro ZB H2 ⟨j,l,m,T0,rfl,rfl,b⟩;rw[OR,dy]at b;exact B rfl (k _ p T0 (sp _) A KE b))
noncomputable def mE (e:on):List Int:=[e.1,(e.2.1:Int),(e.2.2:Int)]
noncomputable def eJ:List Int->on
 |[a,b,c]=>(a,b.toNat,c.toNat)
 |_=>(0,0,0)
theorem F2 (e:on):eJ (mE e)=e:=by simp[eJ,mE]
theorem F0 (e:on):(mE e).map W1.int=aX e:=rfl
def hC (H:Hp) (t:NP):Prop:=H t.a=some (.tup [.int t.k,.ref t.b])/\H t.b=some (.tup (t.d.map W1.int))/\∃e,t.d=mE e
theorem hC.same(s:Tl H I) (h:hC H t):hC I t:=⟨s _ _ h.1,s _ _ h.2.1,h.2.2⟩
def jU (t:NP):Int×on:=(t.k,eJ t.d)
noncomputable def fv (T0:List (sw×W1)) (s:Nat):Int:=match io T0 (nK s)with
 |some (.int f)=>f
 |_=>0
noncomputable def e3 (N:Nt) (T0:List (sw×W1)) (s:Nat) (l:List on):List (Int×on):=l.map λe=>(e.1-fv T0 s,e)
noncomputable def cq (N:Nt) (T0:List (sw×W1)) (ks:List Nat):List (Int×on):=ks.flatMap λs=>e3 N T0 s (N.af.getD s [])
theorem BC (g:Nat->Nat):∀(ks m:List Nat),ks.Nodup->(∀s,s∈ks->s∈m)->(ks.map g).sum<=(m.map g).sum
 |[],_,_,_=>f4 _
 |x::ks,m,h,a=>by
  have c:=List.perm_cons_erase (a x (kt ..));have e:=(c.map g).sum_nat;rw[iu]at h;have:=BC g ks (m.erase x) h.2 λs b=>(List.mem_erase_of_ne (λz=>h.1 (by rw[<- z];exact b))).mpr (a s (o0 _ b));rw[e,m0,m0,dV,dV];lia
theorem Jb{ks:List Nat}(h1:ks.Nodup) (h2:∀s,s∈ks->s<n) (g:Nat->Nat):(ks.map g).sum<=((s4 n).map g).sum:=BC g ks _ h1 λs a=>bS.mpr (h2 s a)
theorem y9(hz:dd N) (h1:ks.Nodup) (h2:∀s,s∈ks->s<N.n):(cq N T0 ks).length<=300000:=by(
unfold cq;rw[wg];have e:(ks.map λs=>(e3 N T0 s (N.af.getD s [])).length)=ks.map λs=>(N.af.getD s []).length:=eE λs _=>by unfold e3;rw[FM]
rw[e];have q:=Jb h1 h2 λs=>(N.af.getD s []).length;have a:=zo N.af;rw[hz.af]at a;rw[<- a]at q;have:=hz.small.2.1;lia)
def vr (CN:WF):Sp:=λvs H Q _=>∃(n d:WF) (N:Nt) (a:Nat) (W:List (Nat×Int)) (T0:List (sw×W1)),vs=[.ref n,.ref d]/\f2 CN H n N/\dd N/\H d=some (.dK T0)/\FD N.n a W T0/\
 ∀(I:Hp) (p:WF) (ts:List NP) (ks:List Nat),Tl H I->H p=none->I p=some (.lst (ts.map λt=>W1.ref t.a))->(∀t,t∈ts->hC I t)->(ts.map jU).Perm (cq N T0 ks)->ts.Pairwise (λx y=>x.k<=y.k)->ks.Nodup->(∀s,s∈ks->s<N.n)->T0.map (·.1)=ks.map nK->Q (.ref p) I
theorem q5:pu ["network","on_foot","boardings","stop","departure"] zaI (s1 qr):=nb rfl rfl rfl (by decide +kernel)
theorem FD.vZ(h:FD n a W T0) (b:nK s∈T0.map (·.1)):io T0 (nK s)=some (W1.int (fv T0 s)):=by(
obtain⟨o,h1,h2⟩:=h.val s;unfold fv;rw[h2];cases o with
|some x=>rfl
|none=>exact absurd b (BY h2))
theorem JE(F:sB K "first_boardings" "first_boardings" qr f fd) (U:eG mg) (X:bg K mg CS CN):AC P w K mg base xL 1 f fd zaI (vr CN):=by
 refine F.ar q5 (λvs H Q E h=>?_) (λP1 PZ outer s0 H vs Q E Pd h=>?_)
 ·refine lg h λn d N a W T0 PX=>?_;obtain⟨rfl,_⟩:=PX;rfl
 ·intro P0;refine lg h λn d N a W T0 PY=>?_;obtain⟨rfl,Pw,hz,hd,Pb,k⟩:=PY;have hu:=hK Pd;refine B (On (zS 2 q5 (db PP))
   (On (uX (cH bN rfl (AF (V 1)) (zG 3 q5)
    (Fa (cH bN rfl (cy (xz wE (wS (V 0) rfl) (V 3))) (zG 4 q5)
     (Fa (ca (cG cm da dc cZ (V 2) (UV (bY (UV (jp gP (xz gN (V 4) EQ) (uS hu (V 1) (V 3) (λ_ _=>rfl))) (UV (V 4) PP))) PP))))))))
   (Fa (tt (a0 (FP Pd.units) (by rfl) U.sorted Ea (UV (V 2) PP)))))) ?_
  refine et Pw.ex λPn c r o Pm P5 Qd os ds fs h1 h2 P7 P8 Pt Pu P9 P_ Qa P6=>?_;obtain⟨ks,Pe,O3,OS⟩:=Pb.keys;have PM:T0.length=ks.length:=by have:=cM cC OS;simpa using this
  refine⟨f4 _,λb O4=>?_⟩;have OX:d≠b:=v0 hd O4;have Py:(Uf H b (.lst [])) d=some (.dK T0):=(UF OX).trans hd;refine IN d _ Py True.intro (λOT=>?_);refine B rfl (im d OT O (.inl (B KE ?_)));have PN:∀ {x:WF}{u:HO},H x=some u->(∀l,u≠.dK l)->x≠d:=λe m z=>by rw[z,hd]at e;exact m _ (b3 e).symm
  have PL:∀i j,(cq N T0 (ks.take i)++e3 N T0 (ks.getD i 0) ((N.af.getD (ks.getD i 0) []).take j)).length<=300000\/ks.length<=i:=λi j=>by
   by_cases hi:i<ks.length
   ·left;have P2:=y9 hz (T0:=T0) Pe O3;have Po:cq N T0 (ks.take (i+1))=cq N T0 (ks.take i)++e3 N T0 (ks.getD i 0) (N.af.getD (ks.getD i 0) []):=by
     unfold cq;rw[cB,bW hi 0,cK,oB];simp
    have Pp:(cq N T0 (ks.take (i+1))).length<=(cq N T0 ks).length:=by
     have:cq N T0 ks=cq N T0 (ks.take (i+1))++cq N T0 (ks.drop (i+1)):=by unfold cq;rw[<- oB,Cq]
     rw[this,ls];lia
    rw[Po,ls]at Pp;have P4:(e3 N T0 (ks.getD i 0) ((N.af.getD (ks.getD i 0) []).take j)).length<=(e3 N T0 (ks.getD i 0) (N.af.getD (ks.getD i 0) [])).length:=by
     unfold e3;rw[FM,FM,aP];lia
    rw[ls];lia
   ·right;lia
  let OW:Nat->St->Hp->Prop:=λi ZB H2=>∃(O9 Y:Option W1) (ts:List NP),ZB=[some (.ref n),some (.ref d),some (.ref b),O9,Y]/\H2 d=some (.aw OT (.dK T0))/\H2 b=some (.lst (ts.map λt:NP=>W1.ref t.a))/\(∀t,t∈ts->hC H2 t)/\ts.map jU=cq N T0 (ks.take i)/\Ch [d] H H2
  refine zk OW
   (b_ none none ([]) ⟨O,KE,(UF (Ne.symm OX)).trans KE,λt g=>by simp at g,O,((Ch.rfl' _ _).new O4).put (by simp)⟩) (λi ZB H2 _ PU=>by obtain⟨_,_,_,_,q,_⟩:=PU;exact q) ?_ ?_
  ·rintro i Pf v ZB H2 hi ⟨O9,Y,ts,rfl,OM,OY,O0,OQ,C⟩;obtain⟨s,ON,Pq⟩:∃s,ks[i]?=some s/\Pf=nK s:=by
    have:(T0.map (·.1))[i]?=some Pf:=by rw[pr,hi];rfl
    rw[OS,pr]at this;cases q:ks[i]? with
    |none=>rw[q]at this;cases this
    |some st=>rw[q]at this;cases this;exact Ix st O O
   subst Pq;have Qb:=(aD.mp ON).1;have Pr:ks.getD i 0=s:=by rw[np,ON];rfl
   have PB:s<N.n:=O3 s (pi ON);have xd:s<N.af.length:=by rw[hz.af];exact PB
   obtain⟨vd,PH,es,⟨Pa,rfl,Pc⟩,Ph⟩:=c5 Pu (bW xd []);have OP:∀ {OV:Hp},Ch [d] H OV->∀ {x:WF}{u:HO},H x=some u->(∀l,u≠.dK l)->OV x=some u:=λ{OV} Pl {x u} e m=>Pl _ _ e (by simpa using PN e m);refine B rfl (wv n CN Pn _ _ O (OP C h1 (λ_ z=>by cases z)) X.aS X.hM O (B rfl (Db Pm _ _ _ O O (TD.of (OP C Pt (λ_ z=>by cases z))) (lv PH) (zn Pa O ⟨_,TD.of (OP C Pc (λ_ z=>by cases z))⟩ ?_))));have PK:es.length=(N.af.getD s []).length:=Paired.length Ph
   let OW:Nat->St->Hp->Prop:=λj ZB y=>∃(Y:Option W1) (ts:List NP),ZB=[some (.ref n),some (.ref d),some (.ref b),some (Rs s),Y]/\y d=some (.aw OT (.dK T0))/\y b=some (.lst (ts.map λt:NP=>W1.ref t.a))/\(∀t,t∈ts->hC y t)/\ts.map jU=cq N T0 (ks.take i)++e3 N T0 s ((N.af.getD s []).take j)/\Ch [d] H y
   refine gM (K:=K) (a:=Pa) (xs:=es) OW
    ⟨Y,ts,O,OM,OY,O0,by rw[OQ];simp[e3],C⟩ (λj ZB y _ PV=>by obtain⟨_,_,_,_,_,_,_,D⟩:=PV;exact TD.of (OP D Pc (λ_ z=>by cases z))) ?_ ?_
   ·rintro j v ZB y Pz ⟨PR,OU,rfl,J,A,O2,OR,D⟩;obtain⟨e,PJ,ta,rfl,PD⟩:=eu Ph Pz;have OZ:=OP D PD (λ_ z=>by cases z);have PF:=Pb.vZ (s:=s) (by rw[OS];exact mb (pi ON));have Qc:OU.length<=300000:=by
     have:=cM cC OR;rw[FM]at this;rcases PL i j with q|q
     ·rw[Pr]at q;lia
     ·lia
    refine zn _ O (.inl ⟨O,⟨_,TD.of A⟩⟩) (B rfl (Db ta _ _ _ O O (pm.of OZ) O (B rfl (B rfl (IN d _ O (.inl (IN T0 (nK s) (.inr ⟨OT,J⟩) O PF.symm)) (IN _ _ O O (zn _ O (by show 2<=Gc;decide) (λO8 Pg=>?_))))))));have O_:b≠O8:=v0 A Pg;have OO:Tl y (Uf y O8 (.tup [W1.int (e.1-fv T0 s),W1.ref ta])):=Tl.new Pg;refine bb b _ _ O O ((UF O_).trans A) (small (by rw[FM];lia)) ?_;refine⟨_,OU++[⟨O8,e.1-fv T0 s,ta,mE e⟩],O,?_,?_,λt g=>?_,?_,λx u q Px=>?_⟩
    ·rw[UF (λz=>by rw[z,A]at J;cases J)];exact OO _ _ J
    ·rw[KE,bL];rfl
    ·have O5:∀ {x:WF}{l:List W1},y x=some (.tup l)->x≠b:=λq z=>by rw[z,A]at q;cases q
     rcases cs.mp g with g|g
     ·obtain⟨L,T,O7⟩:=O2 t g;exact⟨by rw[UF (O5 L)];exact OO _ _ L,by rw[UF (O5 T)];exact OO _ _ T,O7⟩
     ·rw[sc.mp g];exact⟨by rw[UF (Ne.symm O_)];exact KE,by rw[UF (O5 OZ)];exact OO _ _ OZ,⟨e,O⟩⟩
    ·rw[bL,OR,cB,PJ,cK,dv]
     congr 1
     unfold e3;rw[bL];rfl
    ·rw[UF (v0 q O4)];exact OO _ _ (D _ _ q Px)
   ·rintro ZB y ⟨PR,OU,rfl,J,A,O2,OR,D⟩;refine b_ _ _ OU ⟨O,J,A,O2,?_,D⟩;rw[OR,PK,dy];unfold cq;rw[cB,ON,cK,oB];simp
  ·rintro ZB H2 ⟨O9,Y,ts,rfl,OM,OY,O0,OQ,C⟩;rw[PM,dy]at OQ;refine⟨OM,?_⟩;have bd:b≠d:=Ne.symm OX;have Pk:Tl H (Uf H2 d (.dK T0)):=λx u q=>by
    by_cases z:x=d
    ·rw[z]at q ⊢;rw[hd]at q;rw[KE];exact q
    ·rw[UF z];exact C _ _ q (by simpa using z)
   have O1:∀t,t∈ts->hC (Uf H2 d (.dK T0)) t:=λt g=>by
    obtain⟨L,T,O7⟩:=O0 t g;exact⟨by rw[UF (λz=>by rw[z,OM]at L;cases L)];exact L,by rw[UF (λz=>by rw[z,OM]at T;cases T)];exact T,O7⟩
   refine B rfl (g2 b ts O (TD.of ((UF bd).trans OY)) (λt g=>⟨pm.of (O1 t g).1,pm.of (O1 t g).2.1⟩) (λus p Pj PQ O6=>?_));refine k _ p us ks (Pk.tr (Tl.new O6)) (Pk.free O6) KE (λt g=>(O1 t (Pj.mem_iff.mp g)).same (Tl.new O6)) ?_ PQ Pe O3 OS;rw[<- OQ];exact Pj.map jU
theorem ul.K8(h:ul CS CN H A N S) (d:H A.a7=some (.lst es)) (t:TupAt (hide A.own H) v (aX e)):ul CS CN (Uf H A.a7 (.lst (es++[v]))) A N {S with ae:=S.ae++[e]}:=by(
have c:hide A.own (Uf H A.a7 (.lst (es++[v])))=hide A.own H:=fD (by simp[SA.own]);have n:=gT h.nd;obtain⟨b,a,f⟩:=h.ae;have:b=es:=by rw[d]at a;cases a;rfl
subst this;have k:∀(i:Nat) (h:decide (i<8/\7<8/\i≠7)=true) {o:HO},H (A.own[i]'(gB h).1)=some o->(Uf H A.a7 (.lst (b++[v]))) (A.own[i]'(gB h).1)=some o:=λi h o q=>(UF (n i 7 h)).trans q;exact⟨k 0 rfl h.ob,k 1 rfl h.arr,k 2 rfl h.rides,k 3 rfl h.ab,k 4 rfl h.ready,k 5 rfl h.ah,k 6 rfl h.aa,(B KE (by rw[c];exact Paired.snoc f t)),h.nd,by rw[c];exact h.au⟩)
theorem Aa(f:f2 CN H n N) (h:dd N) (nx:H x=none) (j:H dx=none) (ne:dx≠x) (k:∀(I:Hp) (A:SA),A.x=x->A.n=n->ul CS CN I A N (f1 N)->Tl H I->(∀b,b∈A.own->H b=none)->a .ak I):
  iY CS CN [.ref x,.ref n] (Uf (Uf H dx (.own x)) x (.ins CS dx [])) a E0:=by(
have s0:Tl H (Uf (Uf H dx (.own x)) x (.ins CS dx [])):=λb o e=>by
 rw[UF (v0 e nx),UF (v0 e j)];exact e
have l:Tl H (hide [x] (Uf (Uf H dx (.own x)) x (.ins CS dx []))):=λb o e=>wl.mpr ⟨by simp only[sc];exact v0 e nx,s0 b o e⟩;refine Db x dx n N O KE (f.same l) h (λI A ex en g hB hf=>?_);refine k I A ex en g (λb o e=>hB b o (s0 b o e) (by simp only[sc];exact v0 e nx)) λb i=>?_;rcases hf b i with rfl|q
·exact nx
·have c:b≠x:=λz=>by rw[z,KE]at q;cases q
 have d:b≠dx:=λz=>by rw[z,UF ne,KE]at q;cases q
 rwa [UF c,UF d]at q)
def Bp (ps:List NP) (r i:Nat):Prop:=∃t,t∈ps/\∃g,eJ t.d=(g,r,i)
section
variable {N:Nt}{goes:Nat->Nat->Int}{a:Nat}{T0:List (sw×W1)}{ks:List Nat}{ts:List NP}
theorem BS(b:FD N.n a (N.ft a) T0) (q:∀s,s∈ks->s<N.n) (u:T0.map (·.1)=ks.map nK) (ok:bz N goes) (x:(ts.map jU).Perm (cq N T0 ks)) (p:t∈ts):∃r i f,eJ t.d=(goes r i,r,i)/\r<N.runs.length/\i+1<N.len r/\t.k=goes r i-f/\((N.stop r i=a/\f=0)\/(N.stop r i,f)∈N.ft a):=by(
have:jU t∈cq N T0 ks:=x.mem_iff.mp (mb p);unfold cq e3 at this;obtain⟨s,c,hm⟩:=fk.mp this;obtain⟨⟨g,r,i⟩,m,e⟩:=mo.mp hm;obtain⟨y,z,A,C⟩:=(ok.af s (q s c) g r i).mp m;have hv:=b.vZ (s:=s) (by rw[u];exact mb c);obtain⟨o,h1,h2⟩:=b.val s;rw[hv]at h2;cases o with
|none=>cases h2
|some f=>
 have l:fv T0 s=f:=by injection h2 with h2;injection h2
 injection e with h j;subst C;refine bb r i f j.symm y z (by rw[<- l];exact h.symm) ?_;rw[A];exact h1.1)
theorem Fx(j:FD N.n a (N.ft a) T0) (x:∀s,s∈ks->s<N.n) (y:T0.map (·.1)=ks.map nK) (ok:bz N goes) (z:(ts.map jU).Perm (cq N T0 ks)) (e:ts=aF++A) (h1:∀t,t∈A->m<=t.k) (h2:∀t,t∈aF->t.k<m):Bp A=mf N goes a m:=by(
funext r i;apply propext;constructor
·rintro⟨t,b,g,hg⟩;refine nc (BS j x y ok z (t:=t) (by rw[e];exact fY _ b)) λOO ON f U=>?_;obtain⟨d,p,h,L,Q⟩:=U;rw[hg]at d;injection d with OP q;injection q with q T;subst q T;exact⟨p,h,Ix f Q (by have:=h1 t b;lia)⟩
·rintro⟨d,p,f,h,L⟩;obtain⟨o,C,D⟩:=j.val (N.stop r i);cases o with
 |none=>exact absurd h (C f)
 |some u=>
  have l:nK (N.stop r i)∈T0.map (·.1):=Nb D;have c:N.stop r i∈ks:=by
   rw[y]at l;obtain⟨s,c,es⟩:=mo.mp l;rw[<- uC es];exact c
  have hv:=j.vZ l;rw[D]at hv;have H:fv T0 (N.stop r i)=u:=by injection hv with hv;injection hv with hv;exact hv.symm
  have hm:(goes r i-u,goes r i,r,i)∈cq N T0 ks:=by
   unfold cq e3;refine fk.mpr (B c (mo.mpr (Ix (goes r i,r,i) ((ok.af _ (x _ c) _ _ _).mpr ⟨d,p,O,O⟩) ?_)));rw[H]
  obtain⟨t,b,J⟩:=mo.mp (z.mem_iff.mpr hm);injection J with Y E;have OM:=C.2 f h;rw[e]at b;rcases cs.mp b with b|b
  ·have:=h2 t b;lia
  ·exact Ix t b ⟨_,E⟩)
theorem AJ(ok:bz N goes) (h:e0 N goes Wp S):∀k,e0 N goes Wp (aN N S k)
 |0=>h
 |k+1=>(AJ ok h k).ride ok
theorem AY(h:pp N S):∀k,(aN N S k).ae.length+(aN N S k).ah.sum<=S.ae.length+S.ah.sum
 |0=>tz _
 |k+1=>by
  have h1:=(vS (fJ h k)).2;have h2:=AY h k;show(cA N (aN N S k)).ae.length+(cA N (aN N S k)).ah.sum<=_;lia
end
noncomputable def rowsOf (v:Int) (xs:List Int):List (List Int):=(s4 (xs.length-1)).filterMap λj=>if xs.getD (j+1) 0<xs.getD j 0 then some [v-(j:Int),xs.getD (j+1) 0]else none
theorem jN{x:Int}:(l++[x]).getD j 0=if j<l.length then l.getD j 0 else if j=l.length then x else 0:=by(
rw[np,List.getElem?_append];by_cases c:j<l.length
·rw[No c,No c,np]
·rw[Ps c,Ps c];by_cases c2:j=l.length
 ·rw[No c2,c2];simp
 ·rw[Ps c2,ip (by simp;lia)];rfl)
theorem LM(h:0<xs.length):rowsOf v (xs++[x])=rowsOf v xs++(if x<xs.getD (xs.length-1) 0 then [[v-((xs.length-1:Nat):Int),x]]else []):=by(
unfold rowsOf;rw[ls,bK,xk];obtain⟨n,e⟩:∃n,xs.length=n+1:=⟨xs.length-1,by lia⟩;rw[e,xk,wt,List.filterMap_append]
congr 1
·refine kT λj d=>?_;rw[bS]at d;have a:(xs++[x]).getD (j+1) 0=xs.getD (j+1) 0:=by rw[jN,No (by lia)]
 have b:(xs++[x]).getD j 0=xs.getD j 0:=by rw[jN,No (by lia)]
 rw[a,b]
·simp only[hn,List.filterMap_nil];have a:(xs++[x]).getD (n+1) 0=x:=by rw[jN,Ps (by lia),No (by lia)]
 have b:(xs++[x]).getD n 0=xs.getD n 0:=by rw[jN,No (by lia)]
 rw[a,b];by_cases c:x<xs.getD n 0
 ·rw[No c,No c]
 ·rw[Ps c,Ps c])
theorem LL(d:(xs.length:Int)=v-u+2) (e:u<=v):(rowsOf v xs).reverse=(s4 (v-u+1).toNat).filterMap λ(i:Nat)=>if xs.getD (v+1-(u+(i:Int))).toNat 0<xs.getD (v+1-(u+(i:Int)+1)).toNat 0 then some [u+(i:Int),xs.getD (v+1-(u+(i:Int))).toNat 0]else none:=by(
unfold rowsOf;rw[GO];have en:xs.length-1=(v-u+1).toNat:=by lia
rw[en];refine kT λi hi=>?_;rw[bS]at hi;have a:(v-u+1).toNat-1-i+1=(v+1-(u+(i:Int))).toNat:=by lia
have b:(v-u+1).toNat-1-i=(v+1-(u+(i:Int)+1)).toNat:=by lia
have c:v-(((v-u+1).toNat-1-i:Nat):Int)=u+(i:Int):=by lia
rw[a,c];rw[b])
def vI (CN:WF):Sp:=λvs H Q _=>∃(n:WF) (N:Nt) (goes:Nat->Nat->Int) (a b:Nat) (u v:Int),vs=[.ref n,Rs a,Rs b,.int u,.int v]/\f2 CN H n N/\dd N/\bz N goes/\a<N.n/\b<N.n/\0<=u/\u<=v/\v<2880/\
 ∀(I:Hp) (p:WF) (c:List W1) (L:List (List Int)) (E:Int->Int),Tl H I->H p=none->I p=some (.lst c)->Paired (λv r=>TupAt I v (r.map W1.int)) c L->(∀m,u<=m->m<=v+1->lw (λx=>∃n w,NJ N goes a m n w b x) (E m))->
  L=((s4 (v-u+1).toNat).filterMap λ(i:Nat)=>if E (u+(i:Int))<E (u+(i:Int)+1)then some [u+(i:Int),E (u+(i:Int))]else none)->Q (.ref p) I
theorem hW:pu ["network","start","goal","first","last","on_foot","boardings","search","found","arrival_after","minute","arrival"] zaJ (s1 q2):=nb rfl rfl rfl (by decide +kernel)
theorem Ms {X G:Prop}(h:X->G) (x:X):G:=h x
theorem KH{ys:List b}(p:Paired R xs ys):Paired R xs.reverse ys.reverse:=by(
induction p with
|nil=>exact .nil
|cons r t a=>rw[rM,rM];exact Paired.snoc a r)
theorem Bs {a:Type}{l:List a}(h:l≠[]):∃m x,l=m++[x]:=⟨l.dropLast,l.getLast h,(List.dropLast_concat_getLast h).symm⟩
structure Wd (CS CN:WF) (N:Nt) (G:Hp) (sx nn bl fl:WF) (H:Hp) (S:SA) (st:SS) (aF:List NP) (fs:List W1):Prop where
 ex:S.x=sx
 en:S.n=nn
 at_:ul CS CN H S N st
 ok:pp N st
 bX:H bl=some (.lst (aF.map λt=>W1.ref t.a))
 e6:H fl=some (.lst fs)
 fG:bl∉S.own
 fH:fl∉S.own
 own:∀c,c∈S.own->G c=none
 same:Tl G H
 dC:st.ae.length+st.ah.sum+aF.length<=600000
section
variable {CS CN:WF}{N:Nt}{G:Hp}{sx nn bl fl:WF}{H:Hp}{S:SA}{st:SS}{aF:List NP}{fs:List W1}
theorem Wd.push(h:Wd CS CN N G sx nn bl fl H S st (aF++[t]) fs) (p:f2 CN G nn N) (k:G bl=none) (ne:fl≠bl) (tk:hC G t) (s:(eJ t.d).2.1<N.runs.length) (m:H S.a7=some (.lst es)):
  Wd CS CN N G sx nn bl fl (Uf (Uf H bl (.lst (aF.map λt=>W1.ref t.a))) S.a7 (.lst (es++[W1.ref t.b]))) S {st with ae:=st.ae++[eJ t.d]} aF fs:=by(
have a7:S.a7∈S.own:=by simp[SA.own]
have i:bl≠S.a7:=λz=>h.fG (by rw[z];exact a7);have r:f2 CN (hide (bl::S.own) H) S.n N:=by
 rw[h.en];refine p.same λc u q=>wl.mpr ⟨λz=>?_,h.same _ _ q⟩;rcases rs.mp z with z|z
 ·rw[z,k]at q;cases q
 ·rw[h.own c z]at q;cases q
have x:=h.at_.put (o':=.lst (aF.map λt=>W1.ref t.a)) h.fG h.bX (λ_ z=>by cases z) r;obtain⟨e,j⟩:=tk.2.2;have tb:G t.b=some (.tup (aX e)):=by rw[<- F0,<-j];exact tk.2.1
have o:eJ t.d=e:=by rw[j,F2]
have g:∀ {c:WF}{u:HO},G c=some u->c≠bl/\c∉S.own:=λ{c u} q=>⟨(λz=>by rw[z,k]at q;cases q),(λz=>by rw[h.own c z]at q;cases q)⟩;have y:=x.K8 ((UF (Ne.symm i)).trans m) (v:=W1.ref t.b) (e:=eJ t.d) (Ix t.b O (by rw[o];exact wl.mpr ⟨(g tb).2,(UF (g tb).1).trans (h.same _ _ tb)⟩));have hf:=h.dC;refine⟨h.ex,h.en,y,{h.ok with iK:=λl f=>?_,dC:=?_},(UF i).trans KE,?_,h.fG,h.fH,h.own,λc u q=>?_,?_⟩
·rcases cs.mp f with f|f
 ·exact h.ok.iK l f
 ·rw[sc.mp f];exact s
·show(st.ae++[eJ t.d]).length+st.ah.sum<=1000000;rw[ls,bK];rw[ls,bK]at hf;lia
·rw[UF (λz=>h.fH (by rw[z];exact a7)),UF ne];exact h.e6
·rw[UF (λz=>(g q).2 (by rw[z];exact a7)),UF (g q).1];exact h.same _ _ q
·show(st.ae++[eJ t.d]).length+st.ah.sum+aF.length<=600000;rw[ls,bK];rw[ls,bK]at hf;lia)
theorem Wd.lists(h:Wd CS CN N G sx nn bl fl H S st aF fs) (t:TupAt H v l):TupAt (Uf (Uf H bl x) S.a7 y) v l:=by
 obtain⟨a,e,q⟩:=t;obtain⟨es,b,_⟩:=h.at_.ae;refine Ix a e ?_;rw[UF (λz=>by rw[z,b]at q;cases q),UF (λz=>by rw[z,h.bX]at q;cases q)];exact q
theorem Wd.found(h:Wd CS CN N G sx nn bl fl H S st aF fs) (b:f2 CN G nn N) (nf:G fl=none) (ne:fl≠bl) (e:H p=none) :Wd CS CN N G sx nn bl fl (Uf (Uf H p (.tup l)) fl (.lst (fs++[W1.ref p]))) S st aF (fs++[W1.ref p]):=by(
have a:Tl H (Uf H p (.tup l)):=Tl.new e;have d:f2 CN (hide (fl::S.own) (Uf H p (.tup l))) S.n N:=by
 rw[h.en];refine b.same λc u q=>wl.mpr ⟨λz=>?_,a _ _ (h.same _ _ q)⟩;rcases rs.mp z with z|z
 ·rw[z,nf]at q;cases q
 ·rw[h.own c z]at q;cases q
refine⟨h.ex,h.en,(h.at_.same a).put h.fH (a _ _ h.e6) (λ_ z=>by cases z) d,h.ok,by rw[UF (Ne.symm ne)];exact a _ _ h.bX,KE,h.fG,h.fH,h.own,λc u q=>?_,h.dC⟩;rw[UF (λz=>by rw[z,nf]at q;cases q)];exact a _ _ (h.same _ _ q))
end
theorem Ka(F:sB K "worthwhile" "worthwhile" q2 f fd) (U:eG mg) (X:bg K mg CS CN) (QS:mg "Search"=some (.ref CS)) (TW:Mk K CS Qv) (P_:AC P w K mg base xL 1 Qv Qw zae (iY CS CN)) (Qh:Binds K Qw zae [])
  (Qo:Gf P w K mg base 1 "minutes_on_foot" zaH (vC CN)) (Qm:Gf P w K mg base 1 "first_boardings" zaI (vr CN)) (Qn:Gm P w K mg base 5 CS "ride_to_the_end" zaa (ri CS CN)):AC P w K mg base xL 6 f fd zaJ (vI CN):=by
 refine gl Qo λRf Ri Qa Qi QT QM=>?_;refine gl Qm λRb Rg P9 bB QR QL=>?_;refine Do Qn λRc Rh GE Qg QQ=>?_;refine F.ar hW (λvs H Q E h=>?_) (λQ8 Q6 outer s0 H vs Q E OU h=>?_)
 ·refine pV h λn N goes a b u v Q1 _=>?_;subst Q1;rfl
 ·intro Q7;refine pU h λn N goes a b u v Q2=>?_;obtain⟨rfl,PK,hz,ok,PN,PQ,Rp,QJ,hv,k⟩:=Q2;have hu:=hK OU;refine B (On (zS 5 hW (ge Qa (OU.mono) rfl QT QM Qi .nil ws (UV (V 0) (UV (V 1) PP))))
   (On (zS 6 hW (ge P9 (OU.mono) rfl QR QL bB .nil ws (UV (V 0) (UV (V 5) PP))))
   (On (zS 7 hW (hP TW P_ (OU.mono) rfl QS Qh .nil ws (UV (V 0) PP)))
   (On (zS 8 hW (db PP))
   (On (zS 9 hW (nl U.nv rfl))
   (On (cH bN rfl (KX rfl X.range (UV (jp bG (V 4) EQ) (UV (jp gP (V 3) EQ) (UV (eL eP EQ) PP)))) (zG 10 hW)
    (On (lu bN (PW.pt (nt (ga m' (a0 b6 (by rfl) X.len b1 (UV (V 6) PP)) EQ (li _)) (nu (ga la (xz gN (xz wE (V 6) (eL eP EQ)) EQ) (V 10) (li _)))))
     (Fa (ca (cG cm da dc cZ (wS (V 7) rfl) (UV (xz gN (ll cm Oa Ob IQ (V 6)) EQ) PP)))))
    (On (ca (lp (V 7) X.aq QQ GE OU Qg .nil ws))
    (On (zS 11 hW (a0 (yL rfl) (by rfl) U.min xw (UV (xz wE (wS (V 7) rfl) (V 2)) (UV (jp bG (V 10) (uT hu (V 5) (V 2) (nl U.nv rfl) ⟨O,O,O,O⟩)) PP))))
    (On (it (PW.pt (nt (ga cv (V 10) (V 4) (li _)) (nu (ga d1 (V 11) (V 9) (li _)))))
     (Fa (ca (cG cm da dc cZ (V 8) (UV (bY (UV (V 10) (UV (V 11) PP))) PP)))) he)
    (Fa (zS 9 hW (V 11))))))))
   (On (ca (ll cm N5 N6 IS (V 8)))
   (Fa (tt (V 8)))))))))) ?_
  refine B rfl (B rfl (bb n N a O PK hz PN (λH1 dp T0 Pr Rt PU O1=>?_)));have O9:=PK.same Pr;refine B rfl (B rfl (i3 n dp N a (N.ft a) T0 ⟨O,O9,hz,PU,O1,λH2 bl ts ks P5 fG bX QI Po P7 QK Pf PX=>?_⟩));have Qz:=O9.same P5;refine B rfl (λsx dx a1 a2 a3=>Aa Qz hz a1 a2 a3 λOY S ex en PL P6 PH=>⟨O,?_⟩);subst ex;have Rr:ts.length<=300000:=by
   have:=(Po.length_eq).trans rfl;rw[FM]at this;have:=y9 hz (T0:=T0) QK Pf;lia
  have OX:Tl H1 (hide [bl] H2):=λc o q=>wl.mpr ⟨by simpa using v0 q fG,P5 _ _ q⟩;have Pu:Tl (hide [bl] H2) H2:=b7 _ _;have Py:∀t,t∈ts->hC (hide [bl] H2) t:=λt A=>by
   obtain⟨T,OP,Pp⟩:=QI t A;refine⟨wl.mpr ⟨λz=>?_,T⟩,wl.mpr ⟨λz=>?_,OP⟩,Pp⟩
   ·rw[sc.mp z,bX]at T;cases T
   ·rw[sc.mp z,bX]at OP;cases OP
  have PZ:∀c,c∈S.own->(hide [bl] H2) c=none:=λc OS=>Pu.free (PH c OS);have PD:(hide [bl] H2) bl=none:=by
   cases q:(hide [bl] H2) bl with
   |none=>rfl
   |some o=>exact absurd (sc.mpr rfl) (wl.mp q).1
  have Pw:Tl (hide [bl] H2) OY:=Pu.tr P6;have PR:=P6 _ _ bX;have Qj:bl∉S.own:=λz=>by rw[PH _ z]at bX;cases bX
  have Pc:f2 CN (hide [bl] H2) S.n N:=by rw[en];exact O9.same OX
  have Pb:(hide [bl] H2) dp=some (.dK T0):=OX _ _ PU;generalize hide [bl] H2=G at OX Pu Py PZ PD Pw Pc Pb;refine⟨f4 _,λfl fH=>?_⟩;have Pt:Tl OY (Uf OY fl (.lst [])):=Tl.new fH;have Qx:fl∉S.own:=λz=>by obtain⟨o,q,_⟩:=PL.there z;rw[fH]at q;cases q
  have O8:G fl=none:=Pw.free fH;have PJ:fl≠bl:=λz=>by rw[z,PR]at fH;cases fH
  have QA:=PL.same Pt;have Qk:=fw hz;have Qc:Wd CS CN N G S.x S.n bl fl (Uf OY fl (.lst [])) S (f1 N) ts []:=⟨O,O,QA,Qk,Pt _ _ PR,KE,Qj,Qx,PZ,Pw.tr Pt,by
   have OR:(f1 N).ae=[]:=rfl;have Q_:(f1 N).ah.sum<=300000:=hz.small.2.1;rw[OR,kC];lia⟩
  refine B rfl (IN _ _ O O (B rfl (IN _ _ O O (Ix 1 O (dQ (v+1) (u-1) (-1) _ ⟨O,oN.neg (by lia) (by lia) (by lia) (by lia),?_⟩)))));have QW:∀t,t∈ts->(eJ t.d).2.1<N.runs.length/\(eJ t.d).2.2+1<N.len (eJ t.d).2.1:=λt A=>by
   refine lb (BS O1 Pf PX ok Po A) λr i f T OP Pp _=>?_;rw[T];exact⟨OP,Pp⟩
  let Qb:Nat->St->Hp->Prop:=λi ZB OT=>∃(L:SA) (st:SS) (aF y:List NP) (xs:List Int) (fs:List W1) (Pz O5:Option W1),ZB=[some (.ref n),some (Rs a),some (Rs b),some (.int u),some (.int v),some (.ref dp),some (.ref bl),some (.ref S.x),some (.ref fl),some (.int (if i=0 then FS else xs.getD (i-1) 0)),Pz,O5]/\xs.length=i/\ts=aF++y/\(∀t,t∈y->v+2-(i:Int)<=t.k)/\Wd CS CN N G S.x S.n bl fl OT L st aF fs/\e0 N goes (Bp y) st/\Paired (λv r=>TupAt OT v (r.map W1.int)) fs (rowsOf v xs)/\∀j,j<i->lw (λx=>∃n w,NJ N goes a (v+1-(j:Int)) n w b x) (xs.getD j 0)
  refine GY (lo:=v+1) (c:= -1) Qb
   (fc S (f1 N) ts ([]) ([]) ([]) none none ⟨O,O,by rw[fm],λt A=>by simp at A,Qc,?_,.nil,λj Rm=>by lia⟩) ?_ ?_
  ·have:Bp []=λ_ _=>False:=funext λr=>funext λi=>propext ⟨λQY=>by obtain⟨t,A,_⟩:=QY;simp at A,λz=>z.elim⟩;rw[this];exact Fs ok
  ·rintro i ZB OT hi ⟨L,st,aF,y,xs,fs,Pz,O5,rfl,OV,C,ON,Y,Pn,OW,Ph⟩;have QG:v+1+((i:Nat):Int)* -1=v+1-(i:Int):=by lia
   show bh 10 (W1.int (v+1+((i:Nat):Int)* -1)) _ _ _;rw[QG];generalize hm:v+1-(i:Int)=mi;generalize O_:rowsOf v xs=R at OW;generalize QB:(if i=0 then FS else xs.getD (i-1) 0)=O6;have Rl:(i:Int)<v-u+2:=by lia
   refine⟨λm ZB OZ=>∃(st:SS) (aF y:List NP),ZB=[some (.ref n),some (Rs a),some (Rs b),some (.int u),some (.int v),some (.ref dp),some (.ref bl),some (.ref S.x),some (.ref fl),some (.int O6),some (.int mi),O5]/\m=aF.length/\ts=aF++y/\(∀t,t∈y->mi<=t.k)/\Wd CS CN N G S.x S.n bl fl OZ L st aF fs/\e0 N goes (Bp y) st/\Paired (λv r=>TupAt OZ v (r.map W1.int)) fs R,(dQ _ st aF y ⟨rfl,rfl,C,λt A=>by have:=ON t A;lia,Y,Pn,OW⟩),?_⟩;clear Y Pn OW C ON st aF y;rintro m ZB OZ ⟨st,aF,y,rfl,rfl,C,ON,s,P0,P4⟩;have Pl:∀t,t∈aF->OZ t.a=some (.tup [.int t.k,.ref t.b]):=λt A=>s.same _ _ (Py t (by rw[C];exact gx _ A)).1;refine B rfl (IN bl _ O (.inl (TD.of s.bX)) (IN _ _ O O (B rfl ?_)));by_cases OS:∀t,t∈aF->t.k<mi
   ·apply Ms
    ·intro PM;by_cases e:aF=[]
     ·rw[sn (by rw[e];decide)];exact v6 (v6 PM)
     ·refine iU (Bs e) λJ t Q3=>?_;subst Q3;rw[sK (by rw[FM,ls,bK];lia)];have O2:(((J++[t]).map λt=>W1.ref t.a))[((J++[t]).map λt=>W1.ref t.a).length-1]?=some (W1.ref t.a):=by simp
      refine wn (B rfl (Ix 1 O (Db bl _ _ _ O O (TD.of s.bX) (oU O2) (Db t.a _ _ _ O O (pm.of (Pl t (by simp))) O (B rfl (IN _ _ O O (B rfl ?_)))))));rw[sn (by have:=OS t (by simp);lia)];exact v6 PM
    ·have Qp:Bp y=mf N goes a mi:=Fx O1 Pf PX ok Po C ON OS;refine B rfl (nw S.x L.dx _ O (by rw[<- s.ex];exact s.at_.ob) O (nw L N st (by rw[s.ex];rfl) s.at_ s.ok (λPB OQ j Qu Qs Pm Pa QD O0=>?_)));have D:Wd CS CN N G S.x S.n bl fl PB OQ (aN N st j) aF fs:=by
      refine⟨Qu.trans s.ex,Qs.trans s.en,Pa,fJ s.ok j,O0 _ _ s.bX s.fG,O0 _ _ s.e6 s.fH,λz=>?_,λz=>?_,λc QE=>?_,λc o q=>O0 _ _ (s.same _ _ q) (λz=>by rw[s.own c z]at q;cases q),by have:=AY s.ok j;have:=s.dC;lia⟩
      ·rcases Pm _ z with z|z
       ·exact s.fG z
       ·rw[s.bX]at z;cases z
      ·rcases Pm _ z with z|z
       ·exact s.fH z
       ·rw[s.e6]at z;cases z
      ·rcases Pm c QE with z|z
       ·exact s.own c z
       ·exact s.same.free z
     have O4:Paired (λv r=>TupAt PB v (r.map W1.int)) fs R:=aj (λ_ _ q=>s.at_.tup O0 q) P4;have O3:=AJ ok P0 j;have P1:=O3;rw[Qp]at P1;have Qd:=P1.fin ok (λr i j h1 h2 Rj=>by lia) QD PQ;obtain⟨o,Qy,QX⟩:=O1.val b;have P2:=K3 ok PN (t:=mi) (by lia) (by unfold FS;lia) Qy Qd;have QN:b<(aN N st j).arr.length:=by rw[(fJ s.ok j).arr];exact PQ
     refine B rfl (wv S.x CS OQ.dx _ _ O (by rw[<- D.ex];exact Pa.ob) X.aq X.dJ O (B rfl (Db OQ.a1 _ _ _ O O (TD.of Pa.arr) (lv (int_at QN)) (B rfl (B rfl (zn dp O (.inl ⟨_,.inl (D.same _ _ Pb)⟩) (B rfl (B (cN.k (k:=nK b) (D.same _ _ Pb)) ?_))))))));have Qt:(io T0 (nK b)).getD (W1.int 1000000)=W1.int (o.getD FS):=by rw[QX];cases o<;>rfl
     rw[Qt];refine IN _ _ O O (im _ _ O ?_);have Qq:(if mi+o.getD FS<(aN N st j).arr.getD b 0 then mi+o.getD FS else(aN N st j).arr.getD b 0)=arrOf ((aN N st j).arr.getD b 0) mi o:=by
      unfold arrOf;split<;>lia
     show bh 11 (W1.int (if mi+o.getD FS<(aN N st j).arr.getD b 0 then mi+o.getD FS else(aN N st j).arr.getD b 0)) _ _ _;rw[Qq];generalize arrOf ((aN N st j).arr.getD b 0) mi o=x at P2;refine B rfl (B rfl (IN _ _ O O (B rfl ?_)));have O7:(if i+1=0 then FS else(xs++[x]).getD (i+1-1) 0)=x:=by
      rw[Ps (by lia),jN,Ps (by lia),No (by lia)]
     have Pj:∀OO,OO<i+1->lw (λx=>∃n w,NJ N goes a (v+1-(OO:Int)) n w b x) ((xs++[x]).getD OO 0):=λOO Rn=>by
      by_cases c:OO<i
      ·rw[jN,No (by lia)];exact Ph OO c
      ·have:OO=i:=by lia
       subst this;rw[jN,Ps (by lia),No (by lia),hm];exact P2
     have Pd:∀t,t∈y->v+2-((i+1:Nat):Int)<=t.k:=λt A=>by have:=ON t A;lia
     have Pg:(xs++[x]).length=i+1:=by rw[ls,OV];rfl
     by_cases QF:i=0
     ·rw[sn (by lia)];have OM:rowsOf v (xs++[x])=R:=by
       have:xs=[]:=Cm.mp (by lia);rw[<- O_,this];rfl
      refine v6 (v6 (B rfl (fc OQ _ aF y (xs++[x]) fs _ _ ⟨by rw[O7];rfl,Pg,C,Pd,D,O3,by rw[OM];exact O4,Pj⟩)))
     ·rw[sK (by lia)];refine wn (B rfl (B rfl (IN _ _ O O (B rfl ?_))));have QC:O6=xs.getD (xs.length-1) 0:=by rw[<- QB,Ps QF,OV]
      have OM:=LM (v:=v) (x:=x) (xs:=xs) (by lia);rw[O_,<-QC,OV]at OM;have Rq:R.length<=5000:=by
       rw[<- O_];unfold rowsOf;refine dz (Cj ..) ?_;rw[fZ];lia
      by_cases c:x<O6
      ·rw[sK c];rw[No c]at OM;refine wn (zn _ O (.inl ⟨O,⟨_,TD.of D.e6⟩⟩) (B rfl (zn _ O (by show 2<=Gc;decide) (λp Pk=>?_))));have fp:=v0 D.e6 Pk;refine bb fl fs _ O O ((UF fp).trans D.e6) (small (by rw[Paired.length O4];lia)) ?_;refine B rfl (fc OQ _ aF y (xs++[x]) (fs++[W1.ref p]) _ _ ⟨by rw[O7];rfl,Pg,C,Pd,D.found Pc O8 PJ Pk,O3,?_,Pj⟩);rw[OM];refine Paired.snoc (aj (λw r ⟨Ql,e,q⟩=>Ix Ql e ?_) O4) (Ix p O ?_)
       ·rw[UF (Ne.symm fp),KE,show v-((i-1:Nat):Int)=mi by lia];rfl
       ·rw[UF (λz=>by rw[z,D.e6]at q;cases q),UF (v0 q Pk)];exact q
      ·rw[sn c];rw[Ps c,fm]at OM;exact v6 (B rfl (fc OQ _ aF y (xs++[x]) fs _ _ ⟨by rw[O7];rfl,Pg,C,Pd,D,O3,by rw[OM];exact O4,Pj⟩))
   ·have ne:aF≠[]:=λz=>OS (by rw[z];intro t A;simp at A);refine iU (Bs ne) λJ t Q4=>?_;subst Q4;have P8:t∈ts:=by rw[C];simp
    have PV:mi<=t.k:=by
     rw[C,dv]at P7;have QV:=(we.mp P7).2.2;apply Ew;intro Ro;refine OS λt0 QH=>?_;rcases cs.mp QH with h0|h0
     ·have:=QV t0 h0 t (by simp);lia
     ·rw[sc.mp h0];lia
    rw[sK (by rw[FM,ls,bK];lia)];have O2:(((J++[t]).map λt=>W1.ref t.a))[((J++[t]).map λt=>W1.ref t.a).length-1]?=some (W1.ref t.a):=by simp
    refine wn (B rfl (Ix 1 O (Db bl _ _ _ O O (TD.of s.bX) (oU O2) (Db t.a _ _ _ O O (pm.of (Pl t (by simp))) O (B rfl (IN _ _ O O (B rfl ?_)))))));rw[sK PV];obtain⟨es,OR,_⟩:=s.at_.ae;have Q9:es.length=st.ae.length:=by obtain⟨Ra,PF,p⟩:=s.at_.ae;rw[OR]at PF;cases PF;exact Paired.length p
    have Qe:L.a7≠bl:=λz=>s.fG (by rw[<- z];simp[SA.own]);have Qr:((J++[t]).map λt=>W1.ref t.a).dropLast=J.map λt=>W1.ref t.a:=by simp
    have Px:=Pl t (by simp);refine wn ⟨λQ5 I=>∃QP,QP<(J++[t]).length/\_,λQ5 I q=>q,?_⟩;have PY:=s.at_.ob;rw[s.ex]at PY;refine B rfl (b' S.x CS L.dx _ _ O PY X.aq X.lB O (.inl ⟨O,⟨_,TD.of OR⟩⟩) (zn _ O (.inl ⟨O,⟨_,TD.of s.bX⟩⟩) (bb bl _ _ O O s.bX O2 (Db t.a _ _ _ O O (pm.of ((UF (λz=>by rw[z,s.bX]at Px;cases Px)).trans Px)) O (bb L.a7 es _ O O ((UF Qe).trans OR) (small (by have:=s.dC;lia)) ?_)))));rw[Qr];obtain⟨T,OP⟩:=QW t P8;refine Ix J.length (by rw[ls,bK];lia) (b_ _ J (t::y) ⟨O,O,by rw[C,dv];rfl,λt' Pe=>?_,s.push Pc PD PJ (Py t P8) T OR,?_,aj (λ_ _ q=>s.lists q) P4⟩)
    ·rcases rs.mp Pe with rfl|Pe
     ·exact PV
     ·exact ON t' Pe
    ·refine P0.push (λr i QZ=>by obtain⟨t',h1,h2⟩:=QZ;exact Ix t' (o0 _ h1) h2) (λr i Q0=>?_) (Ix t (kt ..) ⟨_,O⟩) T OP;obtain⟨t',h1,g,h2⟩:=Q0;rcases rs.mp h1 with rfl|h1
     ·right;rw[h2];exact⟨O,O⟩
     ·exact .inl (Ix t' h1 ⟨g,h2⟩)
  ·rintro ZB OT ⟨L,st,aF,y,xs,fs,Pz,O5,rfl,OV,C,ON,Y,Pn,OW,Ph⟩;have QO:(xs.length:Int)=v-u+2:=by rw[OV];lia
   refine zn _ O (.inl ⟨O,⟨_,TD.of Y.e6⟩⟩) (g2 fl fs O O Y.e6 ?_);have QU:∀ {c:WF}{o:HO},OT c=some o->(∀l,o≠.lst l)->c≠fl:=λq m z=>by rw[z,Y.e6]at q;exact m _ (b3 q).symm
   refine B rfl (k _ fl fs.reverse (rowsOf v xs).reverse (λm=>xs.getD (v+1-m).toNat 0) (λc o q=>?_) ?_ KE ?_ (λm h1 h2=>?_) (LL QO QJ))
   ·have Pq:=OX _ _ (Pr _ _ q);rw[UF (λz=>by rw[z,O8]at Pq;cases Pq)];exact Y.same _ _ Pq
   ·exact Pr.free (OX.free O8)
   ·refine KH (aj (λw r ⟨c,e,q⟩=>Ix c e ?_) OW);rw[UF (QU q (λ_ z=>by cases z))];exact q
   ·have:=Ph (v+1-m).toNat (by lia);rw[show v+1-(((v+1-m).toNat:Nat):Int)=m by lia]at this;exact this
noncomputable def iG:List Int->Option c9
 |[a,b,d,u,v,m]=>some (.profile a b d u v m)
 |_=>none
theorem Mf:pu zaA zaA (s1 qO):=nb rfl rfl rfl (by decide +kernel)
theorem J0(F:sB K "profile" "profile" qO f fd) (T:bV K mg CP)
  (O_:Gf P w K mg base 2 "can_ask" zac (hY CP CN)) (Pb:Gf P w K mg base 1 "is_minute" zao rf) (Pd:Gf P w K mg base 1 "is_most" zai j9) (Pa:Gm P w K mg base 4 CP "forward" zab (fM CP CN hx))
  (Pe:Gf P w K mg base 6 "worthwhile" zaJ (vI CN)) (Pc:Gf P w K mg base 1 "counted" zam j8):AC P w K mg base xL 7 f fd zaA (cI CP CN iG 6):=by(
refine gl O_ λP0 P7 OY O4 Pw Po=>?_;refine gl Pb λP2 P9 O0 O6 Px Pp=>?_;refine gl Pd λP5 Qa GM O8 Pz Pr=>?_;refine Do Pa λP1 P8 OZ O5 Pu=>?_;refine gl Pe λP6 Qb O2 O9 PB Pt=>?_;refine gl Pc λP4 P_ O1 O7 Py Pq=>?_;refine F.ar Mf (λvs H Q E h=>?_) (λPZ PV outer s0 H vs Q E o h=>?_)
·refine gR h λA j m l c PL OO _=>?_;subst PL;simp[OO]
·intro PY;refine gS h λA j m l c PM OO Ph z hT hm k=>?_;subst PM;obtain⟨a,b,d,u,v,g,rfl⟩:=uy OO;cases Ph;refine B (On (it (PW.pt (ew (bR (cz (ge OY (o.mono) rfl Pw Po O4 .nil ws (UV (V 0) (UV (V 1) (UV (V 2) (UV (V 3) (UV (V 4) PP)))))))) (ew (bR (cz (ge O0 (o.mono) rfl Px Pp O6 .nil ws (UV (V 5) PP)))) (ew (ga d1 (V 5) (V 4) (li _)) (gU (bR (cz (ge GM (o.mono) rfl Pz Pr O8 .nil ws (UV (V 6) PP))))))))) (Fa (tt (db (UV (nl T.c2 rfl) PP)))) he)
  (Fa (tt (ge O1 (o.mono) rfl Py Pq O7 .nil ws (UV (ge O2 o rfl PB Pt O9 .nil ws (UV (aA (V 0) T.cl Pu OZ (o.mono) O5 .nil ws (UV (V 3) PP)) (UV (V 1) (UV (V 2) (UV (V 4) (UV (V 5) PP)))))) (UV (V 6) PP)))))) ?_
 have s:(b2 j a b d u&&(u8 v u 2879&&u8 g 0 4096))=false->∀p,H p=none->Q (.ref p) (Uf H p (.lst [W1.int (-2)])):=λe p D=>by
  have J:Ev j (.profile a b d u v g)=(bM (-2),j):=by simp only[Ev,e,a9]
  rw[J]at k;exact k _ p ((z.same (Tl.new D)).more (by lia)) ((Tl.new D).but _) D KE
 refine B rfl (B rfl (B rfl (B rfl (B rfl (g8 A j m a b d u ⟨O,z,B rfl ?_⟩)))));rw[jV];cases Y:b2 j a b d u with
 |false=>exact wn (wn ⟨by show 1<=Gc;decide,s (by rw[Y];rfl)⟩)
 |true=>
  refine jZ (jB Y) λx y e PN PQ PR OU OV Pj Pm Qd=>?_;subst PN;subst PQ;subst PR;refine v6 (B rfl (Ix v O (B rfl ?_)));by_cases t:0<=v/\v<2880
  case neg=>
   rw[show(decide (0<=v)&&decide (v<2880))=false by rw[<- xo,ev,dL,dL];exact t];refine wn (wn ⟨by show 1<=Gc;decide,s ?_⟩);have:u8 v u 2879=false:=by
    unfold u8;rw[<- xo,ev,dL,dL];lia
   rw[this];simp
  case pos=>
   rw[sK t.1,sK t.2];refine v6 (B rfl (B rfl (IN _ _ O O (B rfl ?_))));by_cases OP:v<u
   ·rw[sK OP];refine wn (wn ⟨by show 1<=Gc;decide,s ?_⟩);have:u8 v u 2879=false:=by
     unfold u8;rw[<- xo,ev,dL,dL];lia
    rw[this];simp
   ·rw[sn OP];have PK:u8 v u 2879=true:=by
     unfold u8;rw[ev,dL,dL];lia
    refine v6 (B rfl (Ix g O (B rfl ?_)));cases OM:(decide (0<=g)&&decide (g<=4096))with
    |false=>exact wn ⟨by show 1<=Gc;decide,s (by rw[show u8 g 0 4096=false from OM];simp)⟩
    |true=>
     have hw:(b2 j x y e u&&(u8 v u 2879&&u8 g 0 4096))=true:=by rw[Y,PK,show u8 g 0 4096=true from OM];rfl
     refine v6 (B rfl (nw A.x A.dx _ O z.ob O (B rfl (bi A j m e O z hT Pj (by lia) (λH1 Qg OR Pn OQ Qc=>?_)))));refine Do Pn λn N PU Pg ON=>?_;subst PU;have hz:=jM hT e ON;obtain⟨ok,same,OS⟩:=dF hT.bd ON;refine B rfl (B rfl (B rfl (B rfl (g8 n N _ x y u v ⟨O,Pg,hz,ok,by rw[OS];exact OU,by rw[OS];exact OV,Pm,by lia,t.2,λH2 p PH L PX OX D Pk PF Pf U=>?_⟩))));have bn:=K4 hT.bd ON OU OV (u:=u) (v:=v) (by unfold FS;lia) Pf;have Qe:L.length<=2880:=by
      rw[U];refine dz (Cj ..) ?_;rw[fZ];lia
     refine B rfl (bi p g PH L O Pk PF (pk OM) (λr OT=>?_) (λO3 q PJ PD Pl=>?_))
     ·rw[U]at OT;obtain⟨i,_,hi⟩:=oD.mp OT;split at hi
      ·cases hi;show 2<=9;decide
      ·cases hi
     have OW:=OX.tr PJ;refine k O3 q ((OR.same OW).more (by lia)) (OQ.tr (OW.but []) λb C=>by simp at C) ?_ ?_
     ·exact gF OQ (OX.free PD) λb C=>OR.there (by simp only[sc]at C;rw[C];simp[PA.own])
     ·rw[Pl,A1];have J:Ev j (.profile x y e u v g)=(lZ g L,j):=by
       simp only[Ev,hw,c',aK,ee];rw[U,<-bn];rfl
      rw[J])
structure fu (K:wf) (CL CG:WF):Prop where
 gd:cE K CL
 au:ao K CL "network"
 ab:ao K CL "ridden"
 ready:ao K CL "ready"
 first:ao K CL "first_calls"
 eH:cE K CG
 goal:ao K CG "goal"
 arr:ao K CG "arrival"
 gk:ao K CG "limits"
noncomputable def lf (n c1 c2 c3:WF):List (Str×W1):=[("network",.ref n),("ridden",.ref c1),("ready",.ref c2),("first_calls",.ref c3)]
noncomputable def gf (b:Nat) (a:Int) (c:WF):List (Str×W1):=[("goal",Rs b),("arrival",.int a),("limits",.ref c)]
def hy (CL:WF) (H:Hp) (v:W1) (n:WF) (S:SS):Prop:=∃x dx c1 c2 c3,v=.ref x/\H x=some (.ins CL dx (lf n c1 c2 c3))/\H c1=some (.lst (S.ab.map W1.int))/\H c2=some (.lst (S.ready.map W1.int))/\H c3=some (.lst (S.aa.map Rs))
theorem hy.same(s:Tl H I) (h:hy CL H v n S):hy CL I v n S:=by obtain⟨x,dx,c1,c2,c3,e,a,b,c,d⟩:=h;exact(b0 x dx c1 c2 c3 ⟨e,s _ _ a,s _ _ b,s _ _ c,s _ _ d⟩)
structure gC (CL CG CN:WF) (H:Hp) (g:WF) (b:Nat) (a:Int) (TW:Nt) (S:Nat->SS) (r:Nat):Prop where
 ex:∃f d e c,H g=some (.ins CG f (gf b a d))/\H d=some (.lst c)/\c.length=r+1/\(∀k,k<=r->∃v,c[k]?=some v/\hy CL H v e (S k))/\f2 CN H e TW
theorem gC.same(s:Tl H I) (h:gC CL CG CN H g b a TW S r):gC CL CG CN I g b a TW S r:=by
 refine gQ h.ex λc d m l h1 h2 e f i=>?_;exact⟨c,d,m,l,s _ _ h1,s _ _ h2,e,λk j=>by obtain⟨v,n,o⟩:=f k j;exact(Ix v n (o.same s)),i.same s⟩
def vn (CL:WF):Sp:=λvs H Q _=>∃(v:W1) (n:WF) (S:SS) (s:Nat) (t:Int),vs=[v,Rs s,.int t]/\hy CL H v n S/\s<S.ab.length/\Q (.bl (decide (t<= -(S.ab.getD s 0)))) H
def vB (CL:WF):Sp:=λvs H Q _=>∃(v:W1) (n:WF) (S:SS) (s:Nat) (t:Int),vs=[v,Rs s,.int t]/\hy CL H v n S/\s<S.ready.length/\Q (.bl (decide (t<= -(S.ready.getD s 0)))) H
def vz (CL CN:WF):Sp:=λvs H Q _=>∃(v:W1) (n:WF) (TW:Nt) (S:SS) (r:Nat),vs=[v,Rs r]/\hy CL H v n S/\f2 CN H n TW/\r<TW.runs.length/\S.aa.length=TW.runs.length/\Q (.int ((TW.len r:Int)-1-((S.aa.getD r 0:Nat):Int))) H
theorem L6:pu zad zad (s1 qj):=nb rfl rfl rfl (by decide +kernel)
theorem Md:pu zad zad (s1 qL):=nb rfl rfl rfl (by decide +kernel)
theorem vi:pu ["self","run","stops","comes"] zaK (s1 qG):=nb rfl rfl rfl (by decide +kernel)
theorem Jw(F:sB K "can_board_at" "Limits.can_board_at" qj f fd) (L:fu K CL CG):AC P w K mg base xL 1 f fd zad (vn CL):=by(
refine F.ar L6 (λvs H Q E h=>?_) (λg d outer s0 H vs Q E l h=>?_)
·refine hN h λv n S s t b _=>?_;subst b;rfl
·intro e;refine uN h λv n S s t c=>?_;obtain⟨rfl,⟨x,dx,c1,c2,c3,rfl,h1,h2,i,j⟩,a,k⟩:=c;exact B (Fa (tt (p4 cv (V 2) (eL eP (xz wE (wS (V 0) rfl) (V 1))) (li _)))) (B rfl (B rfl (wv x CL dx _ _ O h1 L.gd L.ab O (B rfl (Db c1 _ _ _ O O (TD.of h2) (lv (int_at a)) (B rfl (IN _ _ O O k))))))))
theorem JX(F:sB K "can_get_off_at" "Limits.can_get_off_at" qL f fd) (L:fu K CL CG):AC P w K mg base xL 1 f fd zad (vB CL):=by(
refine F.ar Md (λvs H Q E h=>?_) (λi e outer s0 H vs Q E l h=>?_)
·refine hN h λv n S s t c _=>?_;subst c;rfl
·intro g;refine uN h λv n S s t d=>?_;obtain⟨rfl,⟨x,dx,c1,c2,c3,rfl,h1,h2,a,j⟩,b,k⟩:=d;exact B (Fa (tt (p4 cv (V 2) (eL eP (xz wE (wS (V 0) rfl) (V 1))) (li _)))) (B rfl (B rfl (wv x CL dx _ _ O h1 L.gd L.ready O (B rfl (Db c2 _ _ _ O O (TD.of a) (lv (int_at b)) (B rfl (IN _ _ O O k))))))))
theorem JS(F:sB K "last_call_off" "Limits.last_call_off" qG f fd) (L:fu K CL CG) (X:bg K mg CS CN):AC P w K mg base xL 1 f fd zaK (vz CL CN):=by(
refine F.ar vi (λvs H Q E h=>?_) (λz u outer s0 H vs Q E OO h=>?_)
·refine hN h λv n TW S r s _=>?_;subst s;rfl
·intro y;refine uN h λv n TW S r t=>?_;obtain⟨rfl,⟨x,dx,c1,c2,c3,rfl,h1,h2,OM,g⟩,i,a,hf,k⟩:=t;refine et i.ex λb c p o C D OP os ds fs d N g3 g4 g5 g6 T U Y J=>?_;obtain⟨OQ,m,sa,A,⟨q,rfl,j⟩,l,ON⟩:=c5 g4 (bW a ([],[]));refine B (On (dI (xz wE (wS (wS (V 0) rfl) rfl) (V 1)) (cw rfl (re (zG 2 vi) (re (zG 3 vi) cx))))
  (Fa (tt (jp gP (jp gP (a0 b6 (by rfl) X.len b1 (UV (V 2) PP)) EQ) (xz wE (wS (V 0) rfl) (V 1)))))) ?_
 refine B rfl (wv x CL dx _ _ O h1 L.gd L.au O (wv n CN b _ _ O d X.aS X.iS O (B rfl (Db p _ _ _ O O (TD.of g3) (lv m) (g2 q _ O (pm.of j) O (im _ _ O (IN _ _ O O ?_)))))));refine B rfl (IN sa _ O (.inl (TD.of l)) (IN _ _ O O (B rfl (wv x CL dx _ _ O h1 L.gd L.first O (B rfl (Db c3 _ _ _ O O (TD.of g) (lv (k' (by rw[hf];exact a))) (IN _ _ O O ?_)))))));have e:(((TW.runs.getD r ([],[])).1.map Rs).length:Int)=(TW.len r:Int):=by rw[FM];rfl
 show Q (.int ((((TW.runs.getD r ([],[])).1.map Rs).length:Int)-1-((S.aa.getD r 0:Nat):Int))) H;rw[e];exact k)
def vH (CL CG CN:WF):Sp:=λvs H Q _=>∃(g:WF) (b:Nat) (a:Int) (TW:Nt) (S:Nat->SS) (r s left:Nat) (t:Int),vs=[.ref g,Rs s,.int t,Rs left]/\gC CL CG CN H g b a TW S r/\left<=r/\s<(S left).ab.length/\Q (.bl (fz (S left) b a s t)) H
def vo (CL CG CN:WF):Sp:=λvs H Q _=>∃(g:WF) (b:Nat) (a:Int) (TW:Nt) (S:Nat->SS) (r run call left:Nat),vs=[.ref g,Rs run,Rs call,Rs left]/\gC CL CG CN H g b a TW S r/\left<=r/\run<TW.runs.length/\(S left).aa.length=TW.runs.length/\Q (.bl (decide ((call:Int)<(TW.len run:Int)-1-(((S left).aa.getD run 0:Nat):Int)))) H
def vp (CL CG CN:WF):Sp:=λvs H Q _=>∃(g:WF) (b:Nat) (a:Int) (TW:Nt) (S:Nat->SS) (r s left:Nat) (t:Int),vs=[.ref g,Rs s,.int t,Rs left]/\gC CL CG CN H g b a TW S r/\left<=r/\s<(S left).ready.length/\Q (.bl (decide (t<= -((S left).ready.getD s 0)))) H
theorem Mi:pu zag zag (s1 q1):=nb rfl rfl rfl (by decide +kernel)
theorem L8:pu zaB zaB (s1 ql):=nb rfl rfl rfl (by decide +kernel)
theorem L9:pu zag zag (s1 qm):=nb rfl rfl rfl (by decide +kernel)
theorem J'(F:sB K "can_walk_to" "Guide.can_walk_to" q1 f fd) (L:fu K CL CG) (u:Gm P w K mg base 1 CL "can_board_at" zad (vn CL)):AC P w K mg base xL 2 f fd zag (vH CL CG CN):=by(
refine Do u λON OO p bB J=>?_;refine F.ar Mi (λvs H Q E h=>?_) (λOM U outer s0 H vs Q E D h=>?_)
·refine pY h λg b a TW S r s left t N _=>?_;subst N;rfl
·intro Y;refine pX h λg b a TW S r s left t T=>?_;obtain⟨rfl,A,C,m,k⟩:=T;refine gQ A.ex λd l n OR h1 h2 OP y OQ=>?_;obtain⟨v,hv,j⟩:=y left C;refine hO (id j) λx dx c1 c2 c3 e o OS OT OU=>?_;refine B (On (it (PW.pt (nt (ga c0 (V 1) (wS (V 0) rfl) (li _)) (nu (ga cv (V 2) (wS (V 0) rfl) (li _))))) (Fa (tt ni)) he)
  (Fa (tt (aA (xz wE (wS (V 0) rfl) (V 3)) L.gd J p D bB .nil ws (UV (V 1) (UV (V 2) PP)))))) ?_
 unfold fz at k;have d4:∀i:Bool,i=false->(Q (.bl (i||decide (t<= -((S left).ab.getD s 0)))) H)->Q (.bl (decide (t<= -((S left).ab.getD s 0)))) H:=λi e q=>by rw[e]at q;exact q
 refine B rfl (B rfl (b' g CG d _ _ O h1 L.eH L.goal O O (B rfl ?_)));by_cases c:s=b
 ·rw[sK (by rw[c])];refine wn (B rfl (B rfl (wv g CG d _ _ O h1 L.eH L.arr O (IN _ _ O O (B rfl ?_)))));by_cases c2:t<=a
  ·rw[sK c2];rw[sK c,sK c2]at k;exact wn k
  ·rw[sn c2];refine v6 (B rfl (wv g CG d _ _ O h1 L.eH L.gk O (B rfl (Db l _ _ _ O O (TD.of h2) (lv hv) (nw x dx _ e o O (B rfl (B rfl (b0 v n (S left) s t ⟨by rw[e];rfl,j,m,d4 _ (by rw[sn c2,oa]) k⟩))))))))
 ·rw[sn (λz=>c (by unfold Rs at z;injection z with z;lia))];refine v6 (v6 (B rfl (wv g CG d _ _ O h1 L.eH L.gk O (B rfl (Db l _ _ _ O O (TD.of h2) (lv hv) (nw x dx _ e o O (B rfl (B rfl (b0 v n (S left) s t ⟨by rw[e];rfl,j,m,d4 _ (by rw[sn c,xp]) k⟩))))))))))
theorem Jz(F:sB K "can_board" "Guide.can_board" ql f fd) (L:fu K CL CG) (i:Gm P w K mg base 1 CL "last_call_off" zaK (vz CL CN)):AC P w K mg base xL 2 f fd zaB (vo CL CG CN):=by(
refine Do i λN T d bB t=>?_;refine F.ar L8 (λvs H Q E h=>?_) (λJ C outer s0 H vs Q E q h=>?_)
·refine pY h λg b a TW S r run call left z _=>?_;subst z;rfl
·intro D;refine pX h λg b a TW S r run call left A=>?_;obtain⟨rfl,o,p,s,hf,k⟩:=A;refine gQ o.ex λj l u Y h1 h2 U m n=>?_;obtain⟨v,hv,c⟩:=m left p;refine hO (id c) λx dx c1 c2 c3 e y OM ON OO=>?_;refine B (Fa (tt (p4 d1 (V 2) (aA (xz wE (wS (V 0) rfl) (V 3)) L.gd t d q bB .nil ws (UV (V 1) PP)) (li _)))) ?_;exact B rfl (B rfl (wv g CG j _ _ O h1 L.eH L.gk O (B rfl (Db l _ _ _ O O (TD.of h2) (lv hv) (nw x dx _ e y O (B rfl (wv v u TW (S left) run (by rw[e];rfl) c n s hf (IN _ _ O O k)))))))))
theorem JA(F:sB K "can_get_off" "Guide.can_get_off" qm f fd) (L:fu K CL CG) (i:Gm P w K mg base 1 CL "can_get_off_at" zad (vB CL)):AC P w K mg base xL 2 f fd zag (vp CL CG CN):=by(
refine Do i λT U d bB u=>?_;refine F.ar L9 (λvs H Q E h=>?_) (λN D outer s0 H vs Q E p h=>?_)
·refine pY h λg b a TW S r s left t A _=>?_;subst A;rfl
·intro J;refine pX h λg b a TW S r s left t C=>?_;obtain⟨rfl,n,o,q,k⟩:=C;refine gQ n.ex λj l y ON h1 h2 Y m OM=>?_;obtain⟨v,hv,c⟩:=m left o;refine hO (id c) λx dx c1 c2 c3 e z OO OP OQ=>?_;refine B (Fa (tt (aA (xz wE (wS (V 0) rfl) (V 3)) L.gd u d p bB .nil ws (UV (V 1) (UV (V 2) PP))))) ?_;exact B rfl (wv g CG j _ _ O h1 L.eH L.gk O (B rfl (Db l _ _ _ O O (TD.of h2) (lv hv) (nw x dx _ e z O (B rfl (B rfl (b0 v y (S left) s t ⟨by rw[e];rfl,c,q,k⟩))))))))
def vy (CL CS CN:WF):Sp:=λvs H Q _=>∃(x dx:WF) (A:SA) (N:Nt) (S:SS),vs=[.ref x,.ref A.x]/\H x=some (.ins CL dx [])/\ul CS CN H A N S/\x∉A.own/\
 ∀I:Hp,(∀l:List WF,(∀c,c∈l->c≠x/\H c≠none)->hy CL (hide l I) (.ref x) A.n S)->Ch [x] H I->Q .ak I
theorem Mc:pu zap zap (s1 qF):=nb rfl rfl rfl (by decide +kernel)
theorem uh(a:c∈l):hide l H c=none:=by(
cases q:hide l H c with
|none=>rfl
|some o=>exact absurd a (wl.mp q).1)
theorem ul.tK(h:ul CS CN H A N S) (b:Ch [g] H I) (m:g∉A.own) (hg:∀l,H g≠some (.tup l)) (k:f2 CN (hide A.own I) A.n N):ul CS CN I A N S:=by
 have at_:∀ {c:WF}{u:HO},c∈A.own->H c=some u->I c=some u:=λj e=>b _ _ e λz=>m (by rw[<- sc.mp z];exact j);obtain⟨es,f,i⟩:=h.ae;refine⟨at_ (by simp[SA.own]) h.ob,at_ (by simp[SA.own]) h.arr,at_ (by simp[SA.own]) h.rides,at_ (by simp[SA.own]) h.ab,at_ (by simp[SA.own]) h.ready,at_ (by simp[SA.own]) h.ah,at_ (by simp[SA.own]) h.aa,(Ix es (at_ (by simp[SA.own]) f) (aj (λv e r=>?_) i)),h.nd,k⟩;obtain⟨a,o,p⟩:=r;obtain⟨q,d⟩:=wl.mp p;exact Ix a o (wl.mpr ⟨q,b _ _ d λz=>hg _ (by rw[<- sc.mp z];exact d)⟩)
theorem f2.uj(h:f2 CN G n N) (s:Tl G H) (a:∀c,c∈l->G c=none):f2 CN (hide l H) n N:=h.same λc u q=>wl.mpr ⟨(λz=>by rw[a c z]at q;cases q),s _ _ q⟩
theorem Bf(s:Tl G H) (a:∀c,c∈l->G c=none):Tl G (hide l H):=λc u q=>wl.mpr ⟨(λz=>by rw[a c z]at q;cases q),s _ _ q⟩
theorem JR(F:sB K "__init__" "Limits.__init__" qF f fd) (L:fu K CL CG) (X:bg K mg CS CN) (U:eG mg):AC P w K mg base xL 1 f fd zap (vy CL CS CN):=by(
refine F.ar Mc (λvs H Q E h=>?_) (λO0 OX outer s0 H vs Q E O1 h=>?_)
·refine hN h λx dx A N S OV _=>?_;subst OV;rfl
·intro OZ;refine hO h λx dx A N S OW OR a nx k=>?_;subst OW;refine B (On (bq (V 0) (wS (V 1) rfl) rfl)
  (On (bq (V 0) (p1 oY (by rfl) U.list sI (UV (wS (V 1) rfl) PP)) rfl)
  (On (bq (V 0) (p1 oY (by rfl) U.list sI (UV (wS (V 1) rfl) PP)) rfl)
  (Fa (bq (V 0) (p1 oY (by rfl) U.list sI (UV (wS (V 1) rfl) PP)) rfl))))) ?_
 have no:∀ {c:WF},c∈A.own->c∉[x]:=λy z=>nx (by rw[<- sc.mp z];exact y);refine B rfl (wv A.x CS A.dx _ _ O a.ob X.aq X.lC O (B rfl (bi x CL dx _ O OR L.gd L.au (by decide) ?_)));have g:Ch [x] H (Uf H x (.ins CL dx (rc "network" (W1.ref A.n) []))):=(Ch.rfl' _ _).put (by simp);have x0:(Uf H x (.ins CL dx (rc "network" (W1.ref A.n) []))) x=some (.ins CL dx (rc "network" (W1.ref A.n) [])):=KE;generalize Uf H x (.ins CL dx (rc "network" (W1.ref A.n) []))=OY at g x0⊢;refine B rfl (wv A.x CS A.dx _ _ O (g _ _ a.ob (no (by simp[SA.own]))) X.aq X.qR O (IN A.a3 _ O (.inl (TD.of (g _ _ a.ab (no (by simp[SA.own]))))) (λc1 n1=>?_)));refine gJ rfl x0 n1 L.gd L.ab (by show 1<1000;decide) λH1 Y m q=>?_;have i:=g.tr Y λb d=>.inl d;refine B rfl (wv A.x CS A.dx _ _ O (i _ _ a.ob (no (by simp[SA.own]))) X.aq X.qQ O (IN A.a4 _ O (.inl (TD.of (i _ _ a.ready (no (by simp[SA.own]))))) (λc2 n2=>?_)));refine gJ rfl q n2 L.gd L.ready (by show 2<1000;decide) λH2 s C r=>?_;have j:=i.tr s λb d=>.inl d;refine B rfl (wv A.x CS A.dx _ _ O (j _ _ a.ob (no (by simp[SA.own]))) X.aq X.qq O (IN A.a6 _ O (.inl (TD.of (j _ _ a.aa (no (by simp[SA.own]))))) (λc3 n3=>?_)));refine gJ rfl r n3 L.gd L.first (by show 3<1000;decide) λT t OM OU=>?_
 have J:=j.tr t λb d=>.inl d;have p:∀ {c:WF}{l:List W1}{e:Hp}{fs:List (Str×W1)},e c=some (.lst l)->e x=some (.ins CL dx fs)->c∉[x]:=λD OT z=>by rw[sc.mp z,OT]at D;cases D
 have u:∀ {c:WF}{e:Hp},Ch [x] H e->e c=none->e x≠none->H c=none:=λd y OS=>gF d y λb OQ=>by rw[sc.mp OQ];exact OS
 have ON:=u g n1 (by rw[x0];simp);have OO:=u i n2 (by rw[q];simp);have OP:=u j n3 (by rw[r];simp);refine k T (λl o=>b0 x dx c1 c2 c3 ⟨O,wl.mpr ⟨λz=>(o _ z).1 rfl,OU⟩,wl.mpr ⟨λz=>(o _ z).2 ON,t _ _ (s _ _ m (p m q)) (p (s _ _ m (p m q)) r)⟩,wl.mpr ⟨λz=>(o _ z).2 OO,t _ _ C (p C r)⟩,wl.mpr ⟨λz=>(o _ z).2 OP,OM⟩⟩) J)
def vw (CL CG CN:WF):Sp:=λvs H Q _=>∃(g d c:WF) (b:Nat) (a:Int) (r:Nat) (TW:Nt),vs=[.ref g,.ref c,Rs b,.int a,Rs r]/\H g=some (.ins CG d [])/\f2 CN (hide [g] H) c TW/\dd TW/\b<TW.n/\r<=400000/\
 ∀I:Hp,gC CL CG CN I g b a TW (a8 TW (cp TW b (-a))) r->Ch [g] H I->Q .ak I
theorem vh:pu ["self","mirrored","goal","arrival","rides","search","ride"] zar (s1 qx):=nb rfl rfl rfl (by decide +kernel)
theorem JK(F:sB K "__init__" "Guide.__init__" qx f fd) (L:fu K CL CG) (X:bg K mg CS CN) (Qy:mg "Search"=some (.ref CS)) (P_:Mk K CS Qk) (P8:AC P w K mg base xL 1 Qk Qm zae (iY CS CN)) (Qd:Binds K Qm zae [])
  (PX:mg "Limits"=some (.ref CL)) (PB:Mk K CL Ql) (Py:AC P w K mg base xL 1 Ql Qn zap (vy CL CS CN)) (PH:Binds K Qn zap [])
  (Qg:Gm P w K mg base 4 CS "begin" zaj (nH CS CN)) (Qh:Gm P w K mg base 4 CS "take_ride" zaa (nI CS CN)):AC P w K mg base xL 5 f fd zar (vw CL CG CN):=by
 refine Do Qg λQK QM P7 bB Qw=>?_;refine Do Qh λQL QN GT Qe Qx=>?_;refine F.ar vh (λvs H Q E h=>?_) (λQJ QH outer s0 H vs Q E OW h=>?_)
 ·refine pV h λg y OO b a r TW QF _=>?_;subst QF;rfl
 ·intro QI;refine pU h λg y OO b a r TW QG=>?_;obtain⟨rfl,hg,ON,hz,Po,QP,k⟩:=QG;refine B (On (zS 5 vh (hP P_ P8 (OW.mono) rfl Qy Qd .nil ws (UV (V 1) PP)))
   (On (ca (aA (V 5) X.aq Qw P7 OW bB .nil ws (UV (V 2) (UV (eL eP (V 3)) PP))))
   (On (bq (V 0) (V 2) rfl)
   (On (bq (V 0) (V 3) rfl)
   (On (bq (V 0) (db (UV (hP PB Py (OW.mono) rfl PX PH .nil ws (UV (V 5) PP)) PP)) rfl)
   (Fa (cH bN rfl (nk rfl X.range (UV (V 4) PP)) (zG 6 vh)
    (On (ca (lp (V 5) X.aq Qx GT OW Qe .nil ws))
    (Fa (ca (cG cm da dc cZ (wS (V 0) rfl) (UV (hP PB Py (OW.mono) rfl PX PH .nil ws (UV (V 5) PP)) PP)))))))))))) ?_
  have O_:Tl (hide [g] H) H:=b7 _ _;have Ph:(hide [g] H) g=none:=uh (by simp);have P2:∀ {I:Hp},Tl (hide [g] H) I->Ch [g] H I:=λs c u q m=>s c u (wl.mpr ⟨m,q⟩);generalize hide [g] H=G at ON O_ Ph P2;refine B rfl (λsx dx a1 a2 a3=>Aa (ON.same O_) hz a1 a2 a3 λH1 S ex en PQ QA Pg=>⟨O,?_⟩);subst ex;have Pj:g∉S.own:=λz=>by rw[Pg _ z]at hg;cases hg
  refine B rfl (nw S.x S.dx _ O PQ.ob O (B rfl (B rfl (Ix a O (b0 S TW _ b (-a) ⟨O,PQ,fw hz,Po,λH2 O8 Qr=>?_⟩)))));have PN:pp TW (cp TW b (-a)):=((fw hz).av Po (-a) (-a)).bI Po (-a)
  replace O8:ul CS CN H2 S TW (cp TW b (-a)):=O8
  generalize cp TW b (-a)=Wp at O8 PN k;have QE:∀j,pp TW (a8 TW Wp j):=λj=>by rw[<- iW];exact fJ PN j
  have P0:=kQ QA Qr Pg;have QD:Tl G H2:=O_.tr P0;have Pu:∀c,c∈S.own->G c=none:=λc m=>O_.free (Pg c m);have PR:=P0 _ _ hg;have PM:∀ {OQ:Hp}{o:HO},OQ g=some o->(∃C d fs,o=.ins C d fs)->∀l,OQ g≠some (.tup l):=λq ⟨_,_,_,e⟩ l z=>by rw[q,e]at z;cases z
  have PU:∀ {OQ Pz:Hp},Tl G OQ->Ch [g] OQ Pz->Tl G Pz:=λs Qb c u q=>Qb _ _ (s _ _ q) λz=>by rw[sc.mp z,Ph]at q;cases q
  refine B rfl (B rfl (bi g CG y _ O PR L.eH L.goal (by decide) ?_));have PF:Ch [g] H2 (Uf H2 g (.ins CG y (rc "goal" (Rs b) []))):=(Ch.rfl' _ _).put (by simp);have g3:(Uf H2 g (.ins CG y (rc "goal" (Rs b) []))) g=some (.ins CG y (rc "goal" (Rs b) [])):=KE;generalize Uf H2 g (.ins CG y (rc "goal" (Rs b) []))=Pb at PF g3⊢;refine B rfl (B rfl (bi g CG y _ O g3 L.eH L.arr (by show 1<1000;decide) ?_));have Pe:Ch [g] H2 (Uf Pb g (.ins CG y (rc "arrival" (W1.int a) (rc "goal" (Rs b) [])))):=PF.put (by simp);have g4:(Uf Pb g (.ins CG y (rc "arrival" (W1.int a) (rc "goal" (Rs b) [])))) g=some (.ins CG y (rc "arrival" (W1.int a) (rc "goal" (Rs b) []))):=KE;generalize Uf Pb g (.ins CG y (rc "arrival" (W1.int a) (rc "goal" (Rs b) [])))=O3 at Pe g4⊢;have P4:=PU QD Pe;have OR:ul CS CN O3 S TW Wp:=O8.tK Pe Pj (PM PR (b_ _ _ _ O)) (by rw[en];exact ON.uj P4 Pu);refine B rfl (λx dx nx Pr ne=>?_);have sx:Tl O3 (Uf (Uf O3 dx (.own x)) x (.ins CL dx [])):=(Tl.new Pr).tr (Tl.new (by rw[UF (Ne.symm ne)];exact nx));refine b0 x dx S TW Wp ⟨O,KE,OR.same sx,(λz=>by obtain⟨o,q,_⟩:=OR.there z;rw[nx]at q;cases q),λPc Pq Qs=>⟨O,by show 1<=Gc;decide,λp OY=>?_⟩⟩;have O0:Tl O3 Pc:=λc u q=>Qs _ _ (sx _ _ q) λz=>by rw[sc.mp z,nx]at q;cases q
  refine gJ rfl (O0 _ _ g4) OY L.eH L.gk (by show 2<1000;decide) λPd Pf Qi g6=>?_;have Qq:p∉S.own:=λz=>by obtain⟨o,q,_⟩:=OR.there z;rw[O0 _ _ q]at OY;cases OY
  have P5:Tl G Pc:=P4.tr O0;have P6:=PU P5 Pf;have Qu:ul CS CN Pd S TW Wp:=(OR.same O0).tK Pf Pj (PM (O0 _ _ g4) (b_ _ _ _ O)) (by rw[en];exact ON.uj P6 Pu);have Qp:G p=none:=P5.free OY;have Qa:∀c,c∈p::g::S.own->G c=none:=λc m=>by
   rcases rs.mp m with z|z
   ·rw[z];exact Qp
   ·rcases rs.mp z with z|z
    ·rw[z];exact Ph
    ·exact Pu c z
  have Qv:=Pq (g::S.own) λc m=>by
   rcases rs.mp m with z|z
   ·rw[z];exact⟨v0 g4 nx,by rw[sx _ _ g4];simp⟩
   ·obtain⟨o,q,_⟩:=OR.there z;exact⟨v0 q nx,by rw[sx _ _ q];simp⟩
  have QB:Tl (hide (g::S.own) Pc) (hide (p::g::S.own) Pd):=λc u q=>by
   obtain⟨T,N⟩:=wl.mp q;refine wl.mpr ⟨λz=>?_,Pf _ _ N λz=>T (by rw[sc.mp z];simp)⟩;rcases rs.mp z with z|z
   ·rw[z,OY]at N;cases N
   ·exact T z
  refine B rfl ⟨_,O,by lia,by lia,?_⟩;have PK:((r:Nat):Int).toNat=r:=by lia
  let P9:Nat->St->Hp->Prop:=λi ZB U=>∃(t:SA) (A:List W1) (D:Hp) (Px:Option W1),ZB=[some (.ref g),some (.ref OO),some (Rs b),some (.int a),some (Rs r),some (.ref S.x),Px]/\t.x=S.x/\t.n=OO/\ul CS CN U t TW (a8 TW Wp i)/\U g=some (.ins CG y (gf b a p))/\U p=some (.lst A)/\A.length=i+1/\Tl G D/\Tl D U/\(∀c,c∈p::g::t.own->D c=none)/\(∀k,k<=i->∃v,A[k]?=some v/\hy CL D v OO (a8 TW Wp k))/\g∉t.own/\p∉t.own
  refine kY P9
   (dQ S ([W1.ref x]) (hide (p::g::S.own) Pd) none ⟨O,O,en,Qu,g6,Qi,O,Bf P6 Qa,b7 _ _,λc m=>uh m,λk O9=>Ix (W1.ref x) (by rw[xn.mp O9];rfl) (by rw[xn.mp O9,<-en];exact Qv.same QB),Pj,Qq⟩) ?_ ?_
  ·rintro i ZB U hi ⟨t,A,D,Px,rfl,ex,PJ,Pn,OS,OU,OX,O2,OP,O5,gk,Pk,Pl⟩;have hi:i<r:=n' hi PK;have PY:=Pn.ob;rw[ex]at PY;refine B rfl (nw S.x t.dx _ O PY O (nw t TW _ (by rw[ex];rfl) Pn (QE i) (λO4 OZ Pt OM Pm=>?_)));have Qj:cA TW (a8 TW Wp i)=a8 TW Wp (i+1):=rfl;rw[Qj]at OM;have Pa:∀c,c∈({t with a7:=OZ}:SA).own->c∈t.own\/c=OZ:=λc m=>by
    simp only[SA.own,rs,ir,g9]at m⊢;rcases m with h|h|h|h|h|h|h|h<;>simp[h]
   have O7:({t with a7:=OZ}:SA).x=S.x:=ex;have O6:({t with a7:=OZ}:SA).n=OO:=PJ;generalize ({t with a7:=OZ}:SA)=J at OM Pa O7 O6;have PZ:∀c,c∈t.own->D c=none:=λc m=>O5 c (o0 _ (o0 _ m));have QC:=kQ OP Pm PZ;have OT:=Pm _ _ OS Pk;have OV:=Pm _ _ OU Pl;have Qo:g∉J.own:=λz=>by
    rcases Pa _ z with z|z
    ·exact Pk z
    ·rw[z,Pt]at OS;cases OS
   have PL:p∉J.own:=λz=>by
    rcases Pa _ z with z|z
    ·exact Pl z
    ·rw[z,Pt]at OU;cases OU
   have PD:∀c,c∈p::g::J.own->D c=none:=λc m=>by
    rcases rs.mp m with z|z
    ·exact O5 c (by rw[z];simp)
    ·rcases rs.mp z with z|z
     ·exact O5 c (by rw[z];simp)
     ·rcases Pa _ z with z|z
      ·exact PZ c z
      ·rw[z];exact OP.free Pt
   have Qz:=OM.ob;rw[O7]at Qz;refine B rfl (b' g CG y _ _ O OT L.eH L.gk O (.inl ⟨O,⟨_,TD.of OV⟩⟩) (B rfl (λx dx nx Pr ne=>?_)));have sx:Tl O4 (Uf (Uf O4 dx (.own x)) x (.ins CL dx [])):=(Tl.new Pr).tr (Tl.new (by rw[UF (Ne.symm ne)];exact nx));refine b0 x dx J TW _ ⟨by rw[O7];rfl,KE,OM.same sx,(λz=>by obtain⟨o,q,_⟩:=OM.there z;rw[nx]at q;cases q),λY Pq Qt=>⟨O,?_⟩⟩;have O1:Tl O4 Y:=λc u q=>Qt _ _ (sx _ _ q) λz=>by rw[sc.mp z,nx]at q;cases q
   refine bb p A _ O O (O1 _ _ OV) (small (by lia)) ?_;have PV:=Pq (p::g::J.own) λc m=>by
    have:∃o,O4 c=some o:=by
     rcases rs.mp m with z|z
     ·exact⟨_,by rw[z];exact OV⟩
     ·rcases rs.mp z with z|z
      ·exact⟨_,by rw[z];exact OT⟩
      ·obtain⟨o,q,_⟩:=OM.there z;exact⟨o,q⟩
    obtain⟨o,q⟩:=this;exact⟨v0 q nx,by rw[sx _ _ q];simp⟩
   have Qc:Ch [p] Y (Uf Y p (.lst (A++[W1.ref x]))):=(Ch.rfl' _ _).put (by simp);have Pw:Tl D (hide (p::g::J.own) Y):=Bf (QC.tr O1) PD;have P1:Tl (hide (p::g::J.own) Y) (Uf Y p (.lst (A++[W1.ref x]))):=λc u q=>by
    obtain⟨T,N⟩:=wl.mp q;rw[UF (λz=>T (by rw[z];simp))];exact N
   refine dQ J (A++[W1.ref x]) (hide (p::g::J.own) Y) _ ⟨O,O7,O6,(OM.same O1).tK Qc PL (λl z=>by rw[O1 _ _ OV]at z;cases z) ?_,?_,KE,by rw[ls,OX];rfl,O2.tr Pw,P1,λc m=>uh m,λPp QO=>?_,Qo,PL⟩
   ·rw[O6];exact(ON.same O2).uj (Pw.tr P1) λc m=>PD c (o0 _ (o0 _ m))
   ·rw[UF (λz=>by rw[z,OV]at OT;cases OT)];exact O1 _ _ OT
   ·by_cases c:Pp<=i
    ·obtain⟨v,T,N⟩:=gk Pp c;exact Ix v (by rw[ow (by lia)];exact T) (N.same Pw)
    ·have:Pp=i+1:=by lia
     subst this;refine Ix (W1.ref x) (by rw[ou (by lia),OX];simp) ?_;rw[O6]at PV;exact PV
  ·rintro ZB U ⟨t,A,D,Px,rfl,ex,PJ,Pn,OS,OU,OX,O2,OP,O5,gk,Pk,Pl⟩;rw[PK]at OX gk;refine k U ⟨y,p,OO,A,OS,OU,OX,λk O9=>?_,ON.same (O2.tr OP)⟩ (P2 (O2.tr OP));obtain⟨v,T,N⟩:=gk k O9;exact Ix v T (N.same OP)
def vv (CL CG CN:WF):Sp:=λvs H Q _=>∃(n g:WF) (N:Nt) (b:Nat) (a:Int) (TW:Nt) (S:Nat->SS) (r s left:Nat) (t:Int),vs=[.ref n,.ref g,Rs s,.int t,Rs left]/\f2 CN H n N/\dd N/\gC CL CG CN H g b a TW S r/\left<=r/\s<N.n/\(S left).ab.length=N.n/\
 (∀(c d:List (Nat×Int×Nat)) (g' q:Nat) (m:Int) (I:Hp) (p:WF),N.foot.getD s []=c++(g',m,q)::d->(∀f,f∈c->fz (S left) b a f.1 (t+f.2.1)=false)->fz (S left) b a g' (t+m)=true->Tl H I->I p=some (.tup [.int (-1),Rs q,Rs s,Rs g',.int (t+m)])->Q (.ref p) I)/\
 ((∀f,f∈N.foot.getD s []->fz (S left) b a f.1 (t+f.2.1)=false)->Q .ak H)
theorem q6:pu ["network","guide","stop","minute","left","goal","minutes","number"] zaL (s1 qu):=nb rfl rfl rfl (by decide +kernel)
theorem JH(F:sB K "first_walk" "first_walk" qu f fd) (L:fu K CL CG) (X:bg K mg CS CN) (U:eG mg) (Y:Gm P w K mg base 2 CG "can_walk_to" zag (vH CL CG CN)):AC P w K mg base xL 3 f fd zaL (vv CL CG CN):=by(
refine Do Y λPb Pc D T O3=>?_;refine F.ar q6 (λvs H Q E h=>?_) (λO_ O8 outer s0 H vs Q E OW h=>?_)
·refine pR h λn g N b a TW S r s left t O6=>?_;obtain⟨rfl,_⟩:=O6;rfl
·intro O9;refine pR h λn g N b a TW S r s left t O7=>?_;obtain⟨rfl,OS,hz,y,OV,A,OX,O0,O1⟩:=O7;refine B (On (cH bN rfl (cy (xz wE (wS (V 0) rfl) (V 2))) (cw rfl (re (zG 5 q6) (re (zG 6 q6) (re (zG 7 q6) cx))))
   (Fa (it (cz (aA (V 1) L.eH O3 D OW T .nil ws (UV (V 5) (UV (jp bG (V 3) (V 6)) (UV (V 4) PP))))) (Fa (tt (bY (UV (nl U.wk rfl) (UV (V 7) (UV (V 2) (UV (V 5) (UV (jp bG (V 3) (V 6)) PP)))))))) he)))
  (Fa (tt uU))) ?_
 refine et OS.ex λON c Po o Pa OO Pp os ds fs h1 h2 Pg Ph Pj Pk OQ OR Pl Pf=>?_;refine gQ y.ex λOM Pe Pn Pm OP Pd g3 g4 g5=>?_;have xd:s<N.foot.length:=by rw[hz.foot];exact A
 obtain⟨vd,OZ,es,⟨x,rfl,z⟩,C⟩:=c5 OR (bW xd []);have O2:es.length=(N.foot.getD s []).length:=Paired.length C;refine B rfl (wv n CN ON _ _ O h1 X.aS X.m4 O (B rfl (Db OO _ _ _ O O (TD.of OQ) (lv OZ) (zn x O ⟨_,TD.of z⟩ ?_))))
 let J:Nat->St->Hp->Prop:=λi ZB H2=>∃k l m,ZB=[some (.ref n),some (.ref g),some (Rs s),some (.int t),some (Rs left),k,l,m]/\H2=H/\∀f,f∈(N.foot.getD s []).take i->fz (S left) b a f.1 (t+f.2.1)=false
 refine gM (K:=K) (a:=x) (xs:=es) J
  (b_ none none none ⟨O,O,λf hf=>by simp at hf⟩) (λi ZB H2 _ O5=>by obtain⟨_,_,_,_,e,_⟩:=O5;rw[e];exact TD.of z) ?_ ?_
 ·rintro i v ZB H2 hi ⟨k,l,m,rfl,rfl,d⟩;obtain⟨⟨g',mi,q⟩,j,ta,rfl,OY⟩:=eu C hi;have OU:=(aD.mp j);have OT:g'<N.n:=hz.kX s g' mi A (by unfold Nt.ft;exact mo.mpr (B (pi j) rfl));refine g2 ta _ O (pm.of OY) O (im _ _ O (im _ _ O (IN _ _ O O ?_)));refine B rfl (nw g OM _ O OP O (B rfl (B rfl (B rfl (IN _ _ O O (B rfl ⟨g,b,a,TW,S,r,g',left,t+mi,O,y,OV,by rw[OX];exact OT,_,O,?_⟩))))));cases u:fz (S left) b a g' (t+mi)with
  |true=>
   refine wn (B rfl (B rfl (B rfl (B rfl (B rfl (g2 _ _ O O (by show 5<=Gc;decide) (λp O4=>?_)))))));refine O0 _ ((N.foot.getD s []).drop (i+1)) g' q mi _ p ?_ d u (Tl.new O4) KE;rw[<- OU.2,List.getElem_cons_drop,Cq]
  |false=>
   refine v6 (b_ _ _ _ ⟨O,O,λf hf=>?_⟩);rw[cB,j,cK]at hf;rcases cs.mp hf with hf|hf
   ·exact d f hf
   ·rw[sc.mp hf];exact u
 ·rintro ZB H2 ⟨k,l,m,rfl,rfl,d⟩;rw[O2,dy]at d;exact O1 d)
def vu (CL CG CN:WF):Sp:=λvs H Q _=>∃(n g:WF) (N:Nt) (b:Nat) (a:Int) (TW:Nt) (S:Nat->SS) (r s left:Nat) (t:Int),vs=[.ref n,.ref g,Rs s,.int t,Rs left]/\f2 CN H n N/\dd N/\gC CL CG CN H g b a TW S r/\left+1<=r/\s<N.n/\(S left).ready.length=N.n/\
 (S (left+1)).aa.length=TW.runs.length/\TW.runs.length=N.runs.length/\N.aZ.length=N.runs.length/\(∀x,x<N.runs.length->TW.len x=N.len x/\(S (left+1)).aa.getD x 0<N.len x)/\(∃e,e∈N.af.getD s []/\bE N (S (left+1)) t e=true)/\
 (∀e,e∈N.af.getD s []->bE N (S (left+1)) t e=true->∃j,e.2.2<j/\j<N.len e.2.1/\e2 N (S left) e.2.1 j=true)/\
 ∀(e:on) (j:Nat) (I:Hp) (p q:WF),e∈N.af.getD s []->bE N (S (left+1)) t e=true->(∀c,c∈N.af.getD s []->bE N (S (left+1)) t c=true->e.2.1<c.2.1\/(e.2.1=c.2.1/\e.2.2<=c.2.2))->e.2.2<j->j<N.len e.2.1->e2 N (S left) e.2.1 j=true->(∀d,e.2.2<d->d<j->e2 N (S left) e.2.1 d=false)->
  Tl H I->I p=some (.tup [Rs (N.aZ.getD e.2.1 (0,0)).1,.int (N.aZ.getD e.2.1 (0,0)).2,Rs e.2.2,Rs j,.int (N.comes e.2.1 j)])->I q=some (.tup [.ref p,Rs (N.stop e.2.1 j)])->Q (.ref q) I
theorem e':pu ["network","guide","stop","ready","left","boardings","goes","run","call","on","trip","begins","stops","comes","off"] zaM (s1 qt):=nb rfl rfl rfl (by decide +kernel)
theorem Ir(h:HT.lexLt [a,b] [c,d]=false):c<a\/(c=a/\d<=b):=by(
rw[HT.k6,HT.k6,HT.z4]at h;by_cases e:a=c
·rw[No e]at h;by_cases f:b=d
 ·right;lia
 ·rw[Ps f,wx]at h;right;lia
·rw[Ps e,wx]at h;left;lia)
theorem JG(F:sB K "first_ride" "first_ride" qt f fd) (O5:fu K CL CG) (X:bg K mg CS CN) (U:eG mg) (Pp:Gm P w K mg base 2 CG "can_board" zaB (vo CL CG CN)) (Pq:Gm P w K mg base 2 CG "can_get_off" zag (vp CL CG CN)):AC P w K mg base xL 3 f fd zaM (vu CL CG CN):=by
 refine Do Pp λQn Qp Pm bB Qa=>?_;refine Do Pq λQo Qq Pn Po Qb=>?_;refine F.ar e' (λvs H Q E h=>?_) (λQm Qk outer s0 H vs Q E OX h=>?_)
 ·refine pR h λn g N b a TW S r s left t Qh=>?_;obtain⟨rfl,_⟩:=Qh;rfl
 ·intro Ql;refine pR h λn g N b a TW S r s left t Qi=>?_;obtain⟨rfl,PJ,hz,OU,PQ,OY,PZ,e6,Qz,QA,PR,hex,PX,k⟩:=Qi;have hu:=hK OX;refine B (On (zS 5 e' (db PP))
   (On (cH bN rfl (cy (xz wE (wS (V 0) rfl) (V 2))) (cw rfl (re (zG 6 e') (re (zG 7 e') (re (zG 8 e') cx))))
    (Fa (it (PW.pt (nt (ga la (V 6) (V 3) (li _)) (nu (cz (aA (V 1) O5.eH Qa Pm OX bB .nil ws (UV (V 7) (UV (V 8) (UV (jp bG (V 4) EQ) PP)))))))) (Fa (ca (cG cm da dc cZ (V 5) (UV (bY (UV (V 7) (UV (V 8) PP))) PP)))) he)))
   (On (dI (a0 (FO rfl hu) (by rfl) U.min xw (UV (V 5) PP)) (cw rfl (re (zG 7 e') (re (zG 9 e') cx))))
   (On (dI (xz wE (wS (V 0) rfl) (V 7)) (cw rfl (re (zG 10 e') (re (zG 11 e') cx))))
   (On (dI (xz wE (wS (V 0) rfl) (V 7)) (cw rfl (re (zG 12 e') (re (zG 13 e') cx))))
   (On (zS 14 e' (jp bG (V 9) EQ))
   (On (lu bN (bR (cz (aA (V 1) O5.eH Qb Pn OX Po .nil ws (UV (xz wE (V 12) (V 14)) (UV (xz wE (V 13) (V 14)) (UV (V 4) PP)))))) (Fa (uW (i:=14) e'.nd rfl (Or.inl rfl) EQ Hu)))
   (Fa (tt (bY (UV (bY (UV (V 10) (UV (V 11) (UV (V 9) (UV (V 14) (UV (xz wE (V 13) (V 14)) PP)))))) (UV (xz wE (V 12) (V 14)) PP)))))))))))) ?_
  refine et PJ.ex λOT c Qd o Pt Qr QG os ds fs h1 h2 Pz PB PD PF Qu Qv PH Py=>?_;refine gQ OU.ex λO9 Qt QF QE Pa Qs g3 g4 g5=>?_;have xd:s<N.af.length:=by rw[hz.af];exact OY
  obtain⟨vd,P2,es,⟨O8,rfl,Pd⟩,Pl⟩:=c5 PF (bW xd []);have P_:es.length=(N.af.getD s []).length:=Paired.length Pl;have QD:(N.af.getD s []).length<=300000:=by
   have:=jR (N.af.map cC) s;rw[np,pr,bW xd []]at this;have this:(N.af.getD s []).length<=_:=this;have:=hz.small.2.1;lia
  refine⟨f4 _,λbl fG=>?_⟩;have OP:Tl H (Uf H bl (.lst [])):=Tl.new fG;refine B rfl (wv n CN OT _ _ O (OP _ _ h1) X.aS X.hM O (B rfl (Db Pt _ _ _ O O (TD.of (OP _ _ PD)) (lv P2) (zn O8 O ⟨_,TD.of (OP _ _ Pd)⟩ ?_))))
  let O4:Nat->St->Hp->Prop:=λi ZB H2=>∃(OQ O2 OR:Option W1) (as:List WF),ZB=[some (.ref n),some (.ref g),some (Rs s),some (.int t),some (Rs left),some (.ref bl),OQ,O2,OR,none,none,none,none,none,none]/\H2 bl=some (.lst (as.map W1.ref))/\Paired (λJ ns=>H2 J=some (.tup (ns.map W1.int))) as ((((N.af.getD s []).take i).filter (bE N (S (left+1)) t)).map λe=>[(e.2.1:Int),(e.2.2:Int)])/\Tl H H2
  refine gM (K:=K) (a:=O8) (xs:=es) O4
   (dQ none none none ([]) ⟨O,KE,.nil,OP⟩) (λi ZB H2 _ Qg=>by obtain⟨_,_,_,_,_,_,_,l⟩:=Qg;exact TD.of (l _ _ Pd)) ?_ ?_
  ·rintro i v ZB H2 hi ⟨OQ,O2,OR,as,rfl,bX,D,l⟩;obtain⟨⟨go,d,A⟩,OZ,ta,rfl,P1⟩:=eu Pl hi;have Qw:=(aD.mp OZ).1;have T:d<N.runs.length:=hz.mF s _ OY (pi OZ);have O_:((N.af.getD s []).take (i+1)).filter (bE N (S (left+1)) t)=((N.af.getD s []).take i).filter (bE N (S (left+1)) t)++(if bE N (S (left+1)) t (go,d,A)=true then [(go,d,A)]else []):=by
    rw[cB,OZ,cK,kz]
    congr 1
    by_cases q:bE N (S (left+1)) t (go,d,A)=true<;>simp[q]
   have Pj:as.length<=300000:=by
    rw[Paired.length D,FM];refine dz (ma ..) ?_;rw[aP];lia
   have same:bE N (S (left+1)) t (go,d,A)=false->O4 (i+1) [some (W1.ref n),some (.ref g),some (Rs s),some (.int t),some (Rs left),some (.ref bl),some (.int go),some (Rs d),some (Rs A),none,none,none,none,none,none] H2:=λq=>by
    refine dQ _ _ _ as ⟨O,bX,?_,l⟩;rw[O_,Ps (by rw[q];simp),fm];exact D
   refine g2 ta _ O (pm.of (l _ _ P1)) O (im _ _ O (im _ _ O (IN _ _ O O ?_)));refine B rfl (B rfl (IN _ _ O O (B rfl ?_)));by_cases c1:t<=go
   ·rw[sK c1];have Qy:((left:Nat):Int)+1=((left+1:Nat):Int):=by lia
    refine wn (B rfl (nw g O9 _ O (l _ _ Pa) O (B rfl (B rfl (B rfl (IN _ _ O O ?_))))));refine⟨g,b,a,TW,S,r,d,A,left+1,O,OU.same l,PQ,by lia,e6,_,O,?_⟩;obtain⟨P8,QC⟩:=PR d T;rw[P8];by_cases c2:A<N.len d-1-(S (left+1)).aa.getD d 0
    ·have Pr:bE N (S (left+1)) t (go,d,A)=true:=by unfold bE;rw[sK c1,sK c2];rfl
     rw[sK (by lia)];refine wn (zn _ O (.inl ⟨O,⟨_,TD.of bX⟩⟩) (B rfl (zn _ O (by show 2<=Gc;decide) (λp L=>?_))));have O6:bl≠p:=v0 bX L;refine bb bl _ _ O O ((UF O6).trans bX) (small (by rw[FM];lia)) ?_;refine dQ _ _ _ (as++[p]) ⟨O,by rw[KE,bL];rfl,?_,λO7 u q=>?_⟩
     ·rw[O_,No Pr,bL];refine Paired.snoc (aj (λJ ns q=>?_) D) (by rw[UF (Ne.symm O6),KE];rfl);rw[UF (λz=>by rw[z,bX]at q;cases q),UF (v0 q L)];exact q
     ·rw[UF (v0 q fG)];exact Tl.new L _ _ (l _ _ q)
    ·rw[sn (by lia)];refine v6 (same ?_);unfold bE;rw[sn c2,oa]
   ·rw[sn c1];refine v6 (v6 (same ?_));unfold bE;rw[sn c1,xp]
  ·rintro ZB H2 ⟨OQ,O2,OR,as,rfl,bX,D,l⟩;rw[P_,dy]at D;have Pj:as.length=((N.af.getD s []).filter (bE N (S (left+1)) t)).length:=by rw[Paired.length D,FM]
   refine B rfl (bb bl as _ O (TD.of bX) D ?_ (λi J m PK hm PU=>?_))
   ·obtain⟨e,OV,PM⟩:=hex;rw[Pj];exact List.length_pos_of_mem (f5.mpr ⟨OV,PM⟩)
   obtain⟨e,OV,Pu⟩:∃e,((N.af.getD s []).filter (bE N (S (left+1)) t))[i]?=some e/\m=[(e.2.1:Int),(e.2.2:Int)]:=by
    rw[pr]at hm;cases q:((N.af.getD s []).filter (bE N (S (left+1)) t))[i]? with
    |none=>rw[q]at hm;cases hm
    |some e=>rw[q]at hm;cases hm;exact Ix e O O
   subst Pu;obtain⟨OW,Pe⟩:=f5.mp (pi OV);have PL:H2 J=some (.tup [Rs e.2.1,Rs e.2.2]):=by
    obtain⟨ns,OO,O1⟩:=eu D PK;rw[hm]at OO;cases OO;exact O1
   have Pw:∀x,x∈N.af.getD s []->bE N (S (left+1)) t x=true->e.2.1<x.2.1\/(e.2.1=x.2.1/\e.2.2<=x.2.2):=λx OO O1=>by
    have:=Ir (PU [(x.2.1:Int),(x.2.2:Int)] (mo.mpr (Ix x (f5.mpr ⟨OO,O1⟩) O)));lia
   obtain⟨go,d,y⟩:=e;have T:d<N.runs.length:=hz.mF s _ OY OW;obtain⟨QH,P4,Qc,rfl,PV⟩:=c5 Py (bW (show d<N.aZ.length by lia) (0,0));obtain⟨QI,P5,sa,OS,⟨Qe,rfl,P0⟩,Pg,Pc⟩:=c5 PB (bW T ([],[]));refine g2 J _ O (pm.of PL) O (im _ _ O (IN _ _ O O ?_));refine B rfl (wv n CN OT _ _ O (l _ _ h1) X.aS X.pI O (B rfl (Db o _ _ _ O O (TD.of (l _ _ PH)) (lv P4) (g2 Qc _ O (pm.of (l _ _ PV)) O (im _ _ O (IN _ _ O O ?_))))));refine B rfl (wv n CN OT _ _ O (l _ _ h1) X.aS X.iS O (B rfl (Db Qd _ _ _ O O (TD.of (l _ _ Pz)) (lv P5) (g2 Qe _ O (pm.of (l _ _ P0)) O (im _ _ O (IN _ _ O O ?_))))));refine B rfl (IN _ _ O O ?_);obtain⟨Y,P6,P7,O0⟩:=PX _ OW Pe;have P9:=hz.comes d T;have PY:W1.int ((y:Int)+1)=Rs (y+1):=by unfold Rs;congr 1
   show bh 14 (W1.int ((y:Int)+1)) _ _ _;rw[PY];refine⟨λON ZB O3=>∃(j:Nat),ZB=[some (.ref n),some (.ref g),some (Rs s),some (.int t),some (Rs left),some (.ref bl),OQ,some (Rs d),OR,some (Rs y),some (Rs (N.aZ.getD d (0,0)).1),some (.int (N.aZ.getD d (0,0)).2),some (.ref sa),some (.ref OS),some (Rs j)]/\O3=H2/\ON=Y-j/\y<j/\j<=Y/\∀C,y<C->C<j->e2 N (S left) d C=false,⟨_,y+1,rfl,rfl,rfl,by lia,P6,λC h1 h2=>by lia⟩,?_⟩;rintro ON ZB O3 ⟨j,rfl,rfl,rfl,PN,Qx,Pf⟩;have OM:j<N.len d:=by simp only at P7;lia
   have Ph:((N.runs.getD d ([],[])).1.map Rs)[j]?=some (Rs (N.stop d j)):=k' OM;have Pb:((N.runs.getD d ([],[])).2.map W1.int)[j]?=some (W1.int (N.comes d j)):=int_at (by rw[P9];exact OM);refine B rfl (nw g O9 _ O (l _ _ Pa) O (B rfl (B rfl (Db sa _ _ _ O O (TD.of (l _ _ Pg)) (lv Ph) (B rfl (B rfl (Db OS _ _ _ O O (TD.of (l _ _ Pc)) (lv Pb) (B rfl ⟨g,b,a,TW,S,r,N.stop d j,left,N.comes d j,O,OU.same l,by lia,by rw[PZ];exact hz.eO d j T OM,_,O,?_⟩))))))));have Px:decide (N.comes d j<= -((S left).ready.getD (N.stop d j) 0))=e2 N (S left) d j:=rfl;rw[Px];cases co:e2 N (S left) d j with
   |false=>
    refine wn ⟨λQj I=>∃ON,ON<Y-j/\_,λQj I q=>q,?_⟩;have QB:j≠Y:=λz=>by rw[z]at co;simp only at O0;rw[co]at O0;cases O0
    refine B rfl (IN _ _ O O (Ix (Y-(j+1)) (by lia) ⟨j+1,?_,O,O,by lia,by lia,λC h1 h2=>?_⟩))
    ·have:W1.int ((j:Int)+1)=Rs (j+1):=by unfold Rs;congr 1
     show List.set _ 14 (some (W1.int ((j:Int)+1)))=_;rw[this];rfl
    ·by_cases O7:C<j
     ·exact Pf C h1 O7
     ·rw[show C=j by lia];exact co
   |true=>
    refine v6 ?_;refine B rfl (B rfl (B rfl (B rfl (B rfl (B rfl (bi OS _ _ _ O O (TD.of (l _ _ Pc)) (lv Pb) (by show 5<=Gc;decide) (λp L=>?_)))))));have sp:=Tl.new (o:=HO.tup [Rs (N.aZ.getD d (0,0)).1,.int (N.aZ.getD d (0,0)).2,Rs y,Rs j,.int (N.comes d j)]) L;refine B rfl (B rfl (bi sa _ _ _ O O (TD.of (sp _ _ (l _ _ Pg))) (lv Ph) (by show 2<=Gc;decide) (λq Pk=>?_)));exact k (go,d,y) j _ p q OW Pe Pw PN OM co Pf ((l.tr sp).tr (Tl.new Pk)) (Tl.new Pk _ _ KE) KE
abbrev x9 (T:t1) (d:Nat) (N:Nt):Prop:=ss (up T) (wT T d) (lm T d) (ol T) N
abbrev EE (T:t1) (d:Nat) (N:Nt):Prop:=ss (up T) ((wT T d).map ut) (lm T d) ((ol T).map bD) N
noncomputable def dZ (x:l0) (left:Nat):Nat:=2*left+(if x.way=2 then 0 else 1)
def vt (CL CG CN:WF):Sp:=λvs H Q _=>∃(n g:WF) (N TW:Nt) (T:t1) (M b:Nat) (a:Int) (S:Nat->SS) (r s:Nat) (t:Int),vs=[.ref n,.ref g,Rs s,.int t,Rs r]/\f2 CN H n N/\gC CL CG CN H g b a TW S r/\eY T/\x9 T M N/\EE T M TW/\(∀k,SInv TW (f0 ((wT T M).map ut)) b (-a) k (S k))/\(∀k,pp TW (S k))/\s<T.stops.length/\0<=t/\kI T M b a r ⟨s,t,0⟩/\fq T M b a r ⟨s,t,0⟩ [] ⟨s,t,0⟩ r/\r<=400000/\
 ∀(I:Hp) (p:WF) (c:List W1) (pre:List n0) (x:l0) (left:Nat),Tl H I->H p=none->I p=some (.lst c)->Paired (λv r=>TupAt I v (r.map W1.int)) c (ek T M ⟨s,t,0⟩ pre)->fq T M b a r ⟨s,t,0⟩ pre x left->x.halt=b->x.time<=a->Q (.ref p) I
theorem dN:pu ["network","guide","start","minute","rides","legs","stop","there","ready","left","after_walk","leg"] zaN (s1 qs):=nb rfl rfl rfl (by decide +kernel)
theorem Mt {A X G:Prop}(h:(A->X)->G) (x:A->X):G:=h x
theorem FK(hT:bm T) (c:x9 T M N) (f:r<N.runs.length) (a:j<N.len r): -1440<=N.comes r j:=by
 have b:=f;rw[p' c]at b;obtain⟨i,d,k,e⟩:=pe c b;rw[d]at a;rw[(e j a).1];have mi:((v4 T M)[r].1,(v4 T M)[r].2.1,(v4 T M)[r].2.2)∈v4 T M:=eX b;obtain⟨g,h,l⟩:=dr.mp mi;exact(lL hT (pi g) M h a).1
theorem JF(F:sB K "first_journey" "first_journey" qs f fd) (Pc:fu K CL CG) (X:bg K mg CS CN) (Px:Gf P w K mg base 3 "first_walk" zaL (vv CL CG CN)) (Pw:Gf P w K mg base 3 "first_ride" zaM (vu CL CG CN)):AC P w K mg base xL 4 f fd zaN (vt CL CG CN):=by
 refine gl Px λQC QE Pq Pu Qb P8=>?_;refine gl Pw λQB QD Pp Pt Qa P7=>?_;refine F.ar dN (λvs H Q E h=>?_) (λQz Qu outer s0 H vs Q E Pm h=>?_)
 ·refine As h λn g N TW T M b a S r s t Qp=>?_;obtain⟨rfl,_⟩:=Qp;rfl
 ·intro Qx;refine As h λn g N TW T M b a S r s t Qq=>?_;obtain⟨rfl,O8,Pf,hT,o,hB,ON,O1,P4,QR,Pl,PZ,QQ,k⟩:=Qq;refine B (On (zS 5 dN (db PP))
   (On (zS 6 dN (V 2))
   (On (zS 7 dN (V 3))
   (On (zS 8 dN (V 3))
   (On (zS 9 dN (V 4))
   (On (zS 10 dN ni)
   (On (lu bN (ga Ki (V 6) (wS (V 1) rfl) (li _))
    (On (zS 11 dN uU)
    (On (it (bR (cz (V 10))) (Fa (zS 11 dN (ge Pq Pm rfl Qb P8 Pu .nil ws (UV (V 0) (UV (V 1) (UV (V 6) (UV (V 7) (UV (V 9) PP)))))))) he)
    (On (zS 10 dN (p4 Kj (V 11) uU (li _)))
    (On (it (cz (V 10))
     (On (zS 6 dN (xz gN (V 11) EQ)) (Fa (zS 8 dN (xz gN (V 11) EQ))))
     (On (uW (i:=9) dN.nd rfl (Or.inl rfl) EQ zz)
     (On (dI (ge Pp Pm rfl Qa P7 Pt .nil ws (UV (V 0) (UV (V 1) (UV (V 6) (UV (V 8) (UV (V 9) PP)))))) (cw rfl (re (zG 11 dN) (re (zG 6 dN) cx))))
     (Fa (zS 8 dN (jp bG (xz gN (V 11) EQ) (xz wE (wS (V 0) rfl) (V 6))))))))
    (On (zS 7 dN (xz gN (V 11) EQ))
    (Fa (ca (cG cm da dc cZ (V 5) (UV (V 11) PP))))))))))
   (Fa (tt (V 5)))))))))) ?_
  refine et O8.ex λPz c QX QW QA QF OZ os ds fs h1 h2 QJ QK QL QM QN QO QP QI=>?_;refine gQ Pf.ex λPy QH QV QU PM QG g3 g4 g5=>?_;have hz:=jM hT M o;obtain⟨ok,_,OW⟩:=dF hT.bd o;obtain⟨_,_,Pk⟩:=jE hT.bd hB;have P1:TW.runs.length=N.runs.length:=by rw[o.e9,hB.e9,FM]
  have PY:N.aZ.length=N.runs.length:=by rw[o.aZ,o.runs];simp[lm,wT]
  refine⟨f4 _,λOP O2=>?_⟩;refine B rfl (B rfl (B rfl (B rfl ?_)))
  let Pr:Nat->St->Hp->Prop:=λm ZB H2=>∃(pre:List n0) (x:l0) (left:Nat) (OZ:List W1) (Po:Option W1),ZB=[some (.ref n),some (.ref g),some (Rs s),some (.int t),some (Rs r),some (.ref OP),some (Rs x.halt),some (.int x.time),some (.int (x.time+chg T x)),some (Rs left),some (.bl (decide (x.way=2))),Po]/\m=dZ x left/\fq T M b a r ⟨s,t,0⟩ pre x left/\x.halt<T.stops.length/\ -1000000<x.time/\pre.length+dZ x left<=2*r+1/\H2 OP=some (.lst OZ)/\Paired (λv r=>TupAt H2 v (r.map W1.int)) OZ (ek T M ⟨s,t,0⟩ pre)/\Tl H H2
  refine⟨Pr,(i3 _ ([]) ⟨s,t,0⟩ r ([]) none ⟨by simp[chg,L2.start],O,PZ,P4,by show -1000000<t;lia,by simp[dZ],KE,.nil,Tl.new O2⟩),?_⟩;rintro m ZB H2 ⟨pre,x,left,OU,Po,rfl,rfl,J,Y,QS,PR,OV,O4,L⟩;have Pg:=Pf.same L;have Pj:left<=r:=by have:=J.rides;lia
  refine B rfl (B rfl (b' g CG Py _ _ O (L _ _ PM) Pc.eH Pc.goal O O (B rfl ?_)));by_cases OR:x.halt=b
  ·rw[show(!decide (Rs x.halt=Rs b))=false by rw[OR];simp];refine v6 (B rfl ?_);have P5:x.time<=a:=by
    refine nc J.fin λD Qy QY Qr=>?_;obtain⟨PL,OS,_⟩:=Qr;have:=kW hT.bd.right D PL;exact xv this OS
   exact k H2 OP OU pre x left L O2 OV O4 J OR P5
  ·rw[show(!decide (Rs x.halt=Rs b))=true by
    rw[sn (λz=>OR (by unfold Rs at z;injection z with z;lia))];rfl]
   refine wn ⟨λQt I=>∃D,D<dZ x left/\_,λQt I q=>q,?_⟩;refine B rfl (B rfl ?_);have O3:∀ {Pb:Hp}{OZ:List W1}{U:WF}{l:List W1},Pb OP=some (.lst OZ)->Pb U=some (.tup l)->U≠OP:=λOY OQ z=>by rw[z,OY]at OQ;cases OQ
   have QT:OU.length=pre.length:=by rw[Paired.length O4,(pv pre J.at_).2]
   apply Mt (A:=∀q O9,xi T M x (.walk q)=some O9->¬Fin T M b a left O9)
   ·intro Ph;by_cases OT:x.way=2
    ·rw[sK OT];refine v6 (zn _ O O (B rfl (B rfl ?_)));refine v6 (Ph λq O9 hg=>?_);obtain⟨_,_,_,z,_⟩:=aM.mp hg;exact absurd OT z
    ·rw[sn OT];refine wn (B rfl (B rfl (B rfl (B rfl (B rfl ⟨n,g,N,b,a,TW,S,r,x.halt,left,x.time,O,O8.same L,hz,Pg,Pj,by rw[OW];exact Y,by rw[(O1 left).ab,Pk,OW],λQv Qw g' q D Pa p OS O5 O6 OM C=>?_,λPV=>?_⟩)))))
     ·obtain⟨Qk,Ql,Qm,QZ,Qn,Qo⟩:=Ni hT.bd o hB (ON left) Y (by unfold FS;lia) OT OS O5 O6;have OO:=OM _ _ OV;refine zn _ O O (B rfl (B rfl ?_));refine wn (B rfl (Db p _ _ _ O O (pm.of C) O (B rfl (Db p _ _ _ O O (pm.of C) O (B rfl (Db p _ _ _ O O (pm.of C) O ?_))))));refine zn _ O (.inl ⟨O,⟨_,TD.of OO⟩⟩) (B rfl (bb OP OU _ O O OO (small (by lia)) ?_));have O7:x.time+D=x.time+D+chg T ⟨g',x.time+D,2⟩:=by simp[chg]
      have st:=J.step Pl (λz=>OR z.1) Qk (by simp[eC,b8]) Qn Qo;refine Ix (dZ ⟨g',x.time+D,2⟩ left) (by simp[dZ,OT]) (b0 (pre++[.walk q]) ⟨g',x.time+D,2⟩ left (OU++[W1.ref p]) _ ⟨by rw[<- O7];rfl,O,st,Qm,by show -1000000<x.time+D;lia,?_,KE,?_,λU u OX=>?_⟩)
      ·rw[ls,bK];simp only[dZ,OT,aK,a9]at PR⊢;lia
      ·rw[uu pre _ J.at_,Ql];refine Paired.snoc (aj (λv r ⟨U,O_,O0⟩=>Ix U O_ ?_) O4) (Ix p O ?_)
       ·rw[UF (O3 OO C)];exact C
       ·rw[UF (O3 OV O0)];exact OM _ _ O0
      ·rw[UF (v0 OX O2)];exact OM _ _ (L _ _ OX)
     ·refine zn _ O O (B rfl (B rfl ?_));exact v6 (Ph (Nh hT.bd o hB (ON left) Y (by unfold FS;lia) PV))
   ·intro hw;obtain⟨d,rfl,PB,PQ,PN⟩:=LF hT.bd o hB ON Y J.fin OR hw;refine B rfl (IN _ _ O O ?_);have Pe:W1.int (((d+1:Nat):Int)-1)=Rs d:=by unfold Rs;congr 1;lia
    have PU:∀y,y<N.runs.length->TW.len y=N.len y/\(S (d+1)).aa.getD y 0<N.len y:=λy P6=>by
     obtain⟨OY,OQ,_⟩:=yq hT.bd o hB P6;exact⟨OQ,by rw[<- OQ];exact(O1 (d+1)).dD y OY⟩
    have PX:∀e,e∈N.af.getD x.halt []->bE N (S (d+1)) (x.time+chg T x) e=true->∃j,e.2.2<j/\j<N.len e.2.1/\e2 N (S d) e.2.1 j=true:=λe OY OQ=>(Jk hT.bd o hB (ON (d+1)) (ON d) Y OY OQ).2;refine B rfl (B rfl (B rfl (B rfl (B rfl ⟨n,g,N,b,a,TW,S,r,x.halt,d,x.time+chg T x,by rw[<- Pe];rfl,O8.same L,hz,Pg,Pj,by rw[OW];exact Y,by rw[(O1 d).ready,Pk,OW],(O1 (d+1)).aa,P1,PY,PU,(Ix PB PQ PN),PX,λe j Pa p q OS O5 O6 PF Pd PH PJ OM C P0=>?_⟩))));refine iU (LD hT.bd o hB (ON (d+1)) (ON d) Y OS O5 O6 PF Pd PH PJ hw) λQj P9 Qs=>?_;obtain⟨Qc,Qd,Qe,Qg,Qh,Qi⟩:=Qs;have OO:=OM _ _ OV;have P2:e.2.1<N.runs.length:=hz.mF x.halt _ (by rw[OW];exact Y) OS;have Pn:Tl H Pa:=L.tr OM;have P_:N.stop e.2.1 j<N.chg.length:=by
     have:N.chg.length=T.stops.length:=by rw[o.chg];simp[up]
     lia
    refine g2 q _ O (pm.of P0) O (im _ _ O (IN _ _ O O ?_));refine B rfl (Db p _ _ _ O O (pm.of C) O (B rfl (wv n CN Pz _ _ O (Pn _ _ h1) X.aS X.pH O (B rfl (Db c _ _ _ O O (TD.of (Pn _ _ h2)) (lv (int_at P_)) (IN _ _ O O ?_))))));refine B rfl (Db p _ _ _ O O (pm.of C) O ?_);refine zn _ O (.inl ⟨O,⟨_,TD.of OO⟩⟩) (B rfl (bb OP OU _ O O OO (small (by lia)) ?_));have O7:N.comes e.2.1 j+N.chg.getD (N.stop e.2.1 j) 0=N.comes e.2.1 j+chg T ⟨N.stop e.2.1 j,N.comes e.2.1 j,1⟩:=by
     rw[o.chg,yQ];simp[chg]
    have st:=J.step Pl (λz=>OR z.1) Qd (by simp[eC,b8];lia) Qh Qi;refine Ix (dZ ⟨N.stop e.2.1 j,N.comes e.2.1 j,1⟩ d) ?_ (b0 (pre++[.ride Qj P9 e.2.2 j]) ⟨N.stop e.2.1 j,N.comes e.2.1 j,1⟩ d (OU++[W1.ref p]) _ ⟨by rw[<- Pe,<-O7];rfl,O,st,Qg,?_,?_,KE,?_,λU u OX=>?_⟩)
    ·have PK:dZ ⟨N.stop e.2.1 j,N.comes e.2.1 j,1⟩ d=2*d+1:=by simp[dZ]
     have PD:2*(d+1)<=dZ x (d+1):=by unfold dZ;lia
     lia
    ·have:=FK hT.bd o P2 Pd;show -1000000<N.comes e.2.1 j;lia
    ·rw[ls,bK];have PK:dZ ⟨N.stop e.2.1 j,N.comes e.2.1 j,1⟩ d=2*d+1:=by simp[dZ]
     have PD:2*(d+1)<=dZ x (d+1):=by unfold dZ;lia
     lia
    ·rw[uu pre _ J.at_,Qe];refine Paired.snoc (aj (λv r ⟨U,O_,O0⟩=>Ix U O_ ?_) O4) (Ix p O ?_)
     ·rw[UF (O3 OO C),C,Qc];rfl
     ·rw[UF (O3 OV O0)];exact OM _ _ O0
    ·rw[UF (v0 OX O2)];exact OM _ _ (L _ _ OX)
theorem A4 (T:t1) (M:Nat) (bf:List (Nat×Int×bu)):∀(n:Nat) (q:kq),(ec T M bf n q).length<=n+1
 |0,q=>by simp[ec]
 |n+1,q=>by
  unfold ec;split
  ·simp
  ·have:=A4 T M bf n (n_ T M bf q);rw[bt];lia
theorem LG(hT:eY T) (h:jc T M a b t=some (x,r)):r<=400000:=by(
have hm:aJ T M<=300001:=by
 have:=p_ hT M;unfold wT at this;rw[ax]at this;unfold aJ;have e:((v4 T M).map ((λx:aQ=>x.1.length)∘λy=>aO M y.2.1 y.2.2))=(v4 T M).map λx=>x.2.2.calls.length:=eE λy _=>by simp[aO]
 rw[e]at this;lia
have d:(aE T M a t (aJ T M)).length<=aJ T M+1:=by
 unfold aE;rw[FM];exact A4 ..
unfold jc at h;simp only[Option.bind_eq_some_iff,DS]at h;obtain⟨z,_,f,h2,c⟩:=h;injection c with _ c;subst c;unfold gw at h2;have:=(ED.mp h2).1;lia)
theorem Jf (T:t1) (M:Nat) (x:l0) (c:n0):(bT T M x c).length<=9:=by(
unfold bT;split
·split<;>simp
·split<;>simp)
theorem z0:∀(l:List n0) (x:l0) (r:List Int),r∈ek T M x l->r.length<=9
 |[],x,r,h=>by simp[ek]at h
 |c::l,x,r,h=>by
  unfold ek at h;rcases rs.mp h with rfl|h
  ·exact Jf T M x c
  ·cases q:xi T M x c with
   |none=>rw[q]at h;simp at h
   |some y=>rw[q]at h;exact z0 l y r h
def iE:List Int->Option c9
 |[a,b,d,t,m]=>some (.journey a b d t m)
 |_=>none
theorem nB:pu ["plan","start","goal","day","minute","most","network","search","rides","guide"] zan (s1 qE):=nb rfl rfl rfl (by decide +kernel)
theorem JQ(F:sB K "journey" "journey" qE f fd) (T:bV K mg CP) (U:eG mg) (X:bg K mg CS CN) (Qu:mg "Guide"=some (.ref CG)) (Px:Mk K CG PY) (Pq:AC P w K mg base xL 5 PY PZ zar (vw CL CG CN)) (PB:Binds K PZ zar [])
  (PM:Gf P w K mg base 2 "can_ask" zac (hY CP CN)) (PU:Gf P w K mg base 1 "is_most" zai j9) (PN:Gm P w K mg base 4 CP "forward" zab (fM CP CN hx)) (PL:Gm P w K mg base 5 CP "mirrored" zab (fM CP CN ml))
  (PV:Gf P w K mg base 6 "searched" zah (lG CS CN)) (PQ:Gf P w K mg base 4 "first_journey" zaN (vt CL CG CN)) (PR:Gf P w K mg base 1 "counted" zam j8):AC P w K mg base xL 7 f fd zan (cI CP CN iE 5):=by
 refine gl PM λQ1 Q8 Po Py Qt Ql=>?_;refine gl PU λQ5 Rb GM PH Qx Qo=>?_;refine Do PN λQ2 Q9 Pp Pz Qs=>?_;refine Do PL λQ0 Q7 Pn bB Qr=>?_;refine gl PV λQ6 Rc Pt PJ Qy Qp=>?_;refine gl PQ λQ3 Q_ GJ PD Qv Qm=>?_;refine gl PR λQ4 Ra Pr PF Qw Qn=>?_;refine F.ar nB (λvs H Q E h=>?_) (λQY QU outer s0 H vs Q E s h=>?_)
 ·refine gR h λA g m l c QM O2 _=>?_;subst QM;simp[O2]
 ·intro QW;refine gS h λA g m l c QN O2 P_ OR hT hm k=>?_;subst QN;obtain⟨a,b,d,t,o,rfl⟩:=jQ O2;cases P_;refine B (On (it (PW.pt (ew (bR (cz (ge Po (s.mono) rfl Qt Ql Py .nil ws (UV (V 0) (UV (V 1) (UV (V 2) (UV (V 3) (UV (V 4) PP)))))))) (gU (bR (cz (ge GM (s.mono) rfl Qx Qo PH .nil ws (UV (V 5) PP))))))) (Fa (tt (db (UV (nl T.c2 rfl) PP)))) he)
   (On (zS 6 nB (aA (V 0) T.cl Qs Pp (s.mono) Pz .nil ws (UV (V 3) PP)))
   (On (zS 7 nB (ge Pt s rfl Qy Qp PJ .nil ws (UV (V 6) (UV (V 1) (UV (V 4) PP)))))
   (On (it (ga c0 (xz wE (wS (V 7) rfl) (V 2)) (nl U.nv rfl) (li _)) (Fa (tt (db (UV (nl U.c1 rfl) PP)))) he)
   (On (zS 8 nB (xz wE (wS (V 7) rfl) (V 2)))
   (On (zS 9 nB (hP Px Pq s rfl Qu PB .nil ws (UV (aA (V 0) T.cl Qr Pn (s.mono) bB .nil ws (UV (V 3) PP)) (UV (V 2) (UV (xz wE (wS (V 7) rfl) (V 2)) (UV (V 8) PP))))))
   (Fa (tt (ge Pr (s.mono) rfl Qw Qn PF .nil ws (UV (ge GJ (s.mono) rfl Qv Qm PD .nil ws (UV (V 6) (UV (V 9) (UV (V 1) (UV (V 4) (UV (V 8) PP)))))) (UV (V 5) PP))))))))))) ?_
  have O6:(b2 g a b d t&&u8 o 0 4096)=false->∀p,H p=none->Q (.ref p) (Uf H p (.lst [W1.int (-2)])):=λe p D=>by
   have OX:Ev g (.journey a b d t o)=(bM (-2),g):=by simp only[Ev,e,a9]
   rw[OX]at k;exact k _ p ((OR.same (Tl.new D)).more (by lia)) ((Tl.new D).but _) D KE
  refine B rfl (B rfl (B rfl (B rfl (B rfl (g8 A g m a b d t ⟨O,OR,B rfl ?_⟩)))));rw[jV];cases OP:b2 g a b d t with
  |false=>exact wn (wn ⟨by show 1<=Gc;decide,O6 (by rw[OP];rfl)⟩)
  |true=>
   refine v6 (B rfl (Ix o O (B rfl ?_)));cases OY:(decide (0<=o)&&decide (o<=4096))with
   |false=>exact wn ⟨by show 1<=Gc;decide,O6 (by rw[OP,show u8 o 0 4096=false from OY];rfl)⟩
   |true=>
    have hw:(b2 g a b d t&&u8 o 0 4096)=true:=by rw[OP,show u8 o 0 4096=true from OY];rfl
    refine jZ (jB OP) λx y e QO QP QQ L C Pa Qe Rh=>?_;subst QO;subst QP;subst QQ;refine v6 (B rfl (nw A.x A.dx _ O OR.ob O (B rfl (bi A g m e O OR hT Pa (by lia) (λH1 v P7 hv P0 Rf=>?_)))));refine Do hv λn N QR O9 OO=>?_;subst QR;have hz:=jM hT e OO;obtain⟨ok,same,Y⟩:=dF hT.bd OO;refine B rfl (B rfl (B rfl (Db n N x t O O9 hz (by rw[Y];exact L) (λH2 S j J i O4=>?_))));have OS:=P7.same O4;have OZ:Ch [A.n] H H2:=P0.tr (O4.but []) λb i=>by simp at i
    have OU:=j4 ok (kP ok (s0:=x) (t0:=t) (by rw[Y];exact L) (by unfold FS;lia)) j;rw[<- iW]at OU;have OV:=fJ (((fw hz).av (stop:=x) (by rw[Y];exact L) t t).bI (by rw[Y];exact L) t) j;generalize P9:aN N (cp N x t) j=SS at J i OU;have OV:pp N SS:=by rw[<- P9];exact OV
    obtain⟨QD,Pk⟩:=y7 hT.bd OO L C OU i (by unfold FS;lia);have Pd:y<SS.arr.length:=by rw[OV.arr,Y];exact C
    have Qh:y<SS.rides.length:=by rw[OV.rides,Y];exact C
    have Pf:A.n∈A.own:=by simp[PA.own]
    refine B rfl (wv S.x CS S.dx _ _ O J.ob X.aq X.dJ O (B rfl (bi S.a1 _ _ _ O O (TD.of J.arr) (lv (int_at Pd)) O (B rfl ?_))));by_cases c:SS.arr.getD y 0=FS
    ·rw[sK (by rw[c];rfl)];have OX:Ev g (.journey x y e t o)=(bM (-1),g):=by simp only[Ev,hw,c',aK,ee,QD c]
     rw[OX]at k;refine wn ⟨by show 1<=Gc;decide,λp D=>?_⟩;exact k _ p ((OS.same (Tl.new D)).more (by lia)) (OZ.new D) (gF OZ D λb i=>OS.there (by rw[sc.mp i];exact Pf)) KE
    ·rw[sn (by intro z;injection z with z;exact c z)];obtain⟨Ph,Pj,_⟩:=Kl hT.bd OO L C OU i (by unfold FS;lia) c;have Pc:=LG hT (Pk c);have Qa:=Pk c;refine v6 (B rfl (wv S.x CS S.dx _ _ O J.ob X.aq X.nz O (B rfl (Db S.a2 _ _ _ O O (TD.of J.rides) (lv (k' Qh)) ?_))));refine B rfl (nw A.x A.dx _ O OS.ob O (B rfl (bi A g (m+1) e O OS hT Pa (by lia) (λON Rj O_ Qg P1 O0=>?_))));refine Do Qg λQz TW QS P5 O1=>?_;subst QS;have P6:f2 CN ON n N:=(O9.same O4).jS O0;have Pe:=yF hT e O1;obtain⟨Pg,Ri,OT⟩:=jE hT.bd O1;have O8:Ch [A.n] H ON:=OZ.tr P1 λb i=>.inl i;refine B rfl (B rfl (wv S.x CS S.dx _ _ O (O0 _ _ J.ob (λ_ z=>by cases z)) X.aq X.dJ O (B rfl (Db S.a1 _ _ _ O O (TD.of (O0 _ _ J.arr (λ_ z=>by cases z))) (lv (int_at Pd)) (B rfl (λOQ OW O3 QA neg=>?_))))));have sx:Tl ON (Uf (Uf ON OW (.own OQ)) OQ (.ins CG OW [])):=(Tl.new QA).tr (Tl.new (by rw[UF (Ne.symm neg)];exact O3));refine g8 OQ OW Qz y (SS.arr.getD y 0) (SS.rides.getD y 0) TW ⟨O,KE,P5.same λPK u q=>wl.mpr ⟨by simpa using v0 q O3,sx _ _ q⟩,Pe,by rw[OT];exact C,Pc,λPu P4 P2=>⟨O,?_⟩⟩;have O5:Tl ON Pu:=λPK u q=>P2 _ _ (sx _ _ q) (by simpa using v0 q O3);have Qk:∀OM,SInv TW (f0 ((wT g e).map ut)) y (-(SS.arr.getD y 0)) OM (a8 TW (cp TW y (-(SS.arr.getD y 0))) OM):=by
      have Rg: -1440<=SS.arr.getD y 0:=by
       refine nc Pj.fin λQq QX Rl QT=>?_;obtain⟨PX,QZ,_⟩:=QT;have:=kW hT.bd.right Qq PX;simp only at this;lia
      exact j4 Pg (kP Pg (by rw[OT];exact C) (by unfold FS;lia))
     have QG:∀OM,pp TW (a8 TW (cp TW y (-(SS.arr.getD y 0))) OM):=λOM=>by
      rw[<- iW];exact fJ (((fw Pe).av (by rw[OT];exact C) _ _).bI (by rw[OT];exact C) _) OM
     refine B rfl (B rfl (B rfl (B rfl (B rfl ⟨n,OQ,N,TW,g,e,y,SS.arr.getD y 0,_,SS.rides.getD y 0,x,t,O,P6.same O5,P4,hT,OO,O1,Qk,QG,L,Qe,Ph,Pj,Pc,λQV p QE pre z left Pm D Qb QC Pb Qi Qj=>?_⟩))));obtain⟨l',QH,QI,QJ⟩:=HD hT.bd.right Ph Pb Qi Qj;obtain⟨QK,QL⟩:=pv pre Pb.at_;refine B rfl (bi p o QE _ O Qb QC (pk OY) (λr Qd=>z0 _ _ r Qd) (λPw q QF QB Qc=>?_));have Pl:=(O5.tr Pm).tr QF;have P8:=O_.same Pl;refine k Pw q (P8.more (by lia)) (O8.tr (Pl.but []) λb i=>by simp at i) ?_ ?_
     ·exact gF O8 ((O5.tr Pm).free QB) λb i=>O_.there (by rw[sc.mp i];exact Pf)
     ·rw[Qc];have eq:gq o (ek g e ⟨x,t,0⟩ pre)=am (Ev g (.journey x y e t o)).1:=by
       simp only[Ev,hw,c',aK,ee,Qa,QH];unfold gq;rw[QL,QK,QJ,QI];by_cases O7:o<(pre.length:Int)
       ·rw[No O7,Ps (by lia)];rfl
       ·rw[Ps O7,No (by lia)];unfold am;rw[Ps (by simp only;lia)]
      rw[eq]
structure oQ (mg:Str->Option Tk):Prop where
 n1:a_ mg "STOP" 1
 n2:a_ mg "TRIP" 2
 n3:a_ mg "WALK" 3
 n4:a_ mg "LATE" 4
 n5:a_ mg "EARLIEST" 5
 n6:a_ mg "LATEST" 6
 n7:a_ mg "FRONT" 7
 n8:a_ mg "PROFILE" 8
 n9:a_ mg "REACH" 9
 IT:a_ mg "JOURNEY" 10
noncomputable def jA (p:Int) (l:List Int):Option c9:=if p=5 then iC l else if p=6 then iF l else if p=7 then iD l else if p=8 then iG l else if p=9 then iH l else if p=10 then iE l else iB l
noncomputable def tu (p:Int):Nat:=if p=5 then 4 else if p=6 then 4 else if p=7 then 5 else if p=8 then 6 else if p=9 then 4 else if p=10 then 5 else 4
def vm (CP CN:WF):Sp:=λvs H Q _=>∃(A:PA) (T:t1) (m:Nat) (p:Int) (ns:WF) (l:List Int) (c:c9),vs=[.ref A.x,.int p,.ref ns]/\H ns=some (.lst (l.map W1.int))/\l.length=tu p/\jA p l=some c/\cd CP CN H A T m/\eY T/\m+2<=1000/\
 ∀(I:Hp) (a:WF),cd CP CN I A T (m+2)->Ch [A.n] H I->H a=none->I a=some (.lst ((am (Ev T c).1).map W1.int))->Q (.ref a) I
theorem L4:pu zaC zaC (s1 qe):=nb rfl rfl rfl (by decide +kernel)
theorem Ju(F:sB K "answer_asked" "answer_asked" qe f fd) (W1:oQ mg)
  (OV:Gf P w K mg base 7 "earliest" zac (cI CP CN iC 4)) (OW:Gf P w K mg base 7 "latest" zac (cI CP CN iF 4)) (OX:Gf P w K mg base 7 "front" zan (cI CP CN iD 5))
  (c8:Gf P w K mg base 7 "profile" zaA (cI CP CN iG 6)) (OY:Gf P w K mg base 7 "reach" zaF (cI CP CN iH 4)) (OT:Gf P w K mg base 7 "journey" zan (cI CP CN iE 5))
  (OU:Gf P w K mg base 7 "board" zaG (cI CP CN iB 4)):AC P w K mg base xL 8 f fd zaC (vm CP CN):=by
 refine gl OV λPp Ph L OO g5 O6=>?_;refine gl OW λPq Pj N OP g6 O7=>?_;refine gl OX λPr Pk T OQ O1 O8=>?_;refine gl c8 λPt Pl U OR O2 O9=>?_;refine gl OY λPu Pm Y OS O3 O_=>?_;refine gl OT λPn Pf D OM OZ O4=>?_;refine gl OU λPo Pg J ON O0 O5=>?_;refine F.ar L4 (λvs H Q E h=>?_) (λPe Pc outer s0 H vs Q E i h=>?_)
 ·refine pV h λA e m p ns l c Pa _=>?_;subst Pa;rfl
 ·intro Pd;refine pU h λA e m p ns l c Pb=>?_;obtain⟨rfl,a,b,d,g,hT,hm,k⟩:=Pb;refine B (On (it (ga c0 (V 1) (nl W1.n5 rfl) (li _)) (Fa (tt (ge L i rfl g5 O6 OO .nil ws (UV (V 0) (UV (xz wE (V 2) EQ) (UV (xz wE (V 2) EQ) (UV (xz wE (V 2) EQ) (UV (xz wE (V 2) EQ) PP)))))))) he)
   (On (it (ga c0 (V 1) (nl W1.n6 rfl) (li _)) (Fa (tt (ge N i rfl g6 O7 OP .nil ws (UV (V 0) (UV (xz wE (V 2) EQ) (UV (xz wE (V 2) EQ) (UV (xz wE (V 2) EQ) (UV (xz wE (V 2) EQ) PP)))))))) he)
   (On (it (ga c0 (V 1) (nl W1.n7 rfl) (li _)) (Fa (tt (ge T i rfl O1 O8 OQ .nil ws (UV (V 0) (UV (xz wE (V 2) EQ) (UV (xz wE (V 2) EQ) (UV (xz wE (V 2) EQ) (UV (xz wE (V 2) EQ) (UV (xz wE (V 2) EQ) PP))))))))) he)
   (On (it (ga c0 (V 1) (nl W1.n8 rfl) (li _)) (Fa (tt (ge U i rfl O2 O9 OR .nil ws (UV (V 0) (UV (xz wE (V 2) EQ) (UV (xz wE (V 2) EQ) (UV (xz wE (V 2) EQ) (UV (xz wE (V 2) EQ) (UV (xz wE (V 2) EQ) (UV (xz wE (V 2) EQ) PP)))))))))) he)
   (On (it (ga c0 (V 1) (nl W1.n9 rfl) (li _)) (Fa (tt (ge Y i rfl O3 O_ OS .nil ws (UV (V 0) (UV (xz wE (V 2) EQ) (UV (xz wE (V 2) EQ) (UV (xz wE (V 2) EQ) (UV (xz wE (V 2) EQ) PP)))))))) he)
   (On (it (ga c0 (V 1) (nl W1.IT rfl) (li _)) (Fa (tt (ge D i rfl OZ O4 OM .nil ws (UV (V 0) (UV (xz wE (V 2) EQ) (UV (xz wE (V 2) EQ) (UV (xz wE (V 2) EQ) (UV (xz wE (V 2) EQ) (UV (xz wE (V 2) EQ) PP))))))))) he)
   (Fa (tt (ge J i rfl O0 O5 ON .nil ws (UV (V 0) (UV (xz wE (V 2) EQ) (UV (xz wE (V 2) EQ) (UV (xz wE (V 2) EQ) (UV (xz wE (V 2) EQ) PP)))))))))))))) ?_
  unfold jA at d;unfold tu at b;refine zn _ O O (B rfl ?_);by_cases s:p=5
  ·rw[sK (by rw[s])];rw[No s]at d b;obtain⟨j,n,o,q,rfl⟩:=d0 b;exact wn (B rfl (B rfl (Db ns _ _ _ O O (TD.of a) O (B rfl (Db ns _ _ _ O O (TD.of a) O (B rfl (Db ns _ _ _ O O (TD.of a) O (B rfl (Db ns _ _ _ O O (TD.of a) O (b' A e m _ c O b d g hT hm k))))))))))
  rw[sn (by intro z;injection z with z;exact s z)];rw[Ps s]at d b;refine v6 (zn _ O O (B rfl ?_));by_cases t:p=6
  ·rw[sK (by rw[t])];rw[No t]at d b;obtain⟨j,n,o,q,rfl⟩:=d0 b;exact wn (B rfl (B rfl (Db ns _ _ _ O O (TD.of a) O (B rfl (Db ns _ _ _ O O (TD.of a) O (B rfl (Db ns _ _ _ O O (TD.of a) O (B rfl (Db ns _ _ _ O O (TD.of a) O (b' A e m _ c O b d g hT hm k))))))))))
  rw[sn (by intro z;injection z with z;exact t z)];rw[Ps t]at d b;refine v6 (zn _ O O (B rfl ?_));by_cases u:p=7
  ·rw[sK (by rw[u])];rw[No u]at d b;obtain⟨j,n,o,q,C,rfl⟩:=jQ b;exact wn (B rfl (B rfl (Db ns _ _ _ O O (TD.of a) O (B rfl (Db ns _ _ _ O O (TD.of a) O (B rfl (Db ns _ _ _ O O (TD.of a) O (B rfl (Db ns _ _ _ O O (TD.of a) O (B rfl (Db ns _ _ _ O O (TD.of a) O (b' A e m _ c O b d g hT hm k))))))))))))
  rw[sn (by intro z;injection z with z;exact u z)];rw[Ps u]at d b;refine v6 (zn _ O O (B rfl ?_));by_cases x:p=8
  ·rw[sK (by rw[x])];rw[No x]at d b;obtain⟨j,n,o,q,C,Pw,rfl⟩:=uy b;exact wn (B rfl (B rfl (Db ns _ _ _ O O (TD.of a) O (B rfl (Db ns _ _ _ O O (TD.of a) O (B rfl (Db ns _ _ _ O O (TD.of a) O (B rfl (Db ns _ _ _ O O (TD.of a) O (B rfl (Db ns _ _ _ O O (TD.of a) O (B rfl (Db ns _ _ _ O O (TD.of a) O (b' A e m _ c O b d g hT hm k))))))))))))))
  rw[sn (by intro z;injection z with z;exact x z)];rw[Ps x]at d b;refine v6 (zn _ O O (B rfl ?_));by_cases y:p=9
  ·rw[sK (by rw[y])];rw[No y]at d b;obtain⟨j,n,o,q,rfl⟩:=d0 b;exact wn (B rfl (B rfl (Db ns _ _ _ O O (TD.of a) O (B rfl (Db ns _ _ _ O O (TD.of a) O (B rfl (Db ns _ _ _ O O (TD.of a) O (B rfl (Db ns _ _ _ O O (TD.of a) O (b' A e m _ c O b d g hT hm k))))))))))
  rw[sn (by intro z;injection z with z;exact y z)];rw[Ps y]at d b;refine v6 (zn _ O O (B rfl ?_));by_cases r:p=10
  ·rw[sK (by rw[r])];rw[No r]at d b;obtain⟨j,n,o,q,C,rfl⟩:=jQ b;exact wn (B rfl (B rfl (Db ns _ _ _ O O (TD.of a) O (B rfl (Db ns _ _ _ O O (TD.of a) O (B rfl (Db ns _ _ _ O O (TD.of a) O (B rfl (Db ns _ _ _ O O (TD.of a) O (B rfl (Db ns _ _ _ O O (TD.of a) O (b' A e m _ c O b d g hT hm k))))))))))))
  rw[sn (by intro z;injection z with z;exact r z)];rw[Ps r]at d b;obtain⟨j,n,o,q,rfl⟩:=d0 b;exact v6 (B rfl (B rfl (Db ns _ _ _ O O (TD.of a) O (B rfl (Db ns _ _ _ O O (TD.of a) O (B rfl (Db ns _ _ _ O O (TD.of a) O (B rfl (Db ns _ _ _ O O (TD.of a) O (b' A e m _ c O b d g hT hm k))))))))))
noncomputable def oS (l row:List Int):Option c9:=match l with
 |[d]=>some (.trip d (cL row) ((row.length:Int)/3))
 |_=>none
noncomputable def kb (p:Int) (l row:List Int):Option c9:=if p=1 then kN l else if p=2 then oS l row else if p=3 then kO l else if p=4 then kM l else jA p l
noncomputable def vT (p:Int):Nat:=if p=1 then 1 else if p=2 then 1 else if p=3 then 3 else if p=4 then 4 else tu p
def mx (d:Int) (row:List Int):Prop:=(∀z,z∈row->0<=z)/\((1<=d/\d<=127)/\(2<=(row.length:Int)/3/\(row.length:Int)/3<=64)->(row.length:Int)=3*((row.length:Int)/3))
theorem yg(h:a.out=[]):am a=[a.code]:=by unfold am;rw[h];split<;>rfl
section
variable {T:t1}
theorem Au:(Ev T (.halt c)).1.out=[]:=by(
simp only[Ev];split
·rfl
·split<;>rfl)
theorem Aw:(Ev T (.trip d l n)).1.out=[]:=by(
simp only[Ev];split
·rfl
·split
 ·rfl
 ·split<;>rfl)
theorem Ax:(Ev T (.walk a b m)).1.out=[]:=by(
simp only[Ev];split
·rfl
·split<;>rfl)
theorem Av:(Ev T (.late p d i m)).1.out=[]:=by
 simp only[Ev];split<;>rfl
theorem ym(h:jA p l=some c):(Ev T c).2=T:=by(
unfold jA at h;have a:∀ {l c},iC l=some c->(Ev T c).2=T:=λ{l c} h=>by
 unfold iC at h;split at h
 ·cases h;simp only[Ev];split
  ·rfl
  ·split<;>rfl
 ·cases h
have b:∀ {l c},iF l=some c->(Ev T c).2=T:=λ{l c} h=>by
 unfold iF at h;split at h
 ·cases h;simp only[Ev];split
  ·rfl
  ·split<;>rfl
 ·cases h
have d:∀ {l c},iD l=some c->(Ev T c).2=T:=λ{l c} h=>by
 unfold iD at h;split at h
 ·cases h;simp only[Ev];split<;>rfl
 ·cases h
have e:∀ {l c},iG l=some c->(Ev T c).2=T:=λ{l c} h=>by
 unfold iG at h;split at h
 ·cases h;simp only[Ev];split<;>rfl
 ·cases h
have f:∀ {l c},iH l=some c->(Ev T c).2=T:=λ{l c} h=>by
 unfold iH at h;split at h
 ·cases h;simp only[Ev];split
  ·rfl
  ·split<;>rfl
 ·cases h
have g:∀ {l c},iE l=some c->(Ev T c).2=T:=λ{l c} h=>by
 unfold iE at h;split at h
 ·cases h;simp only[Ev];split
  ·rfl
  ·split
   ·rfl
   ·split
    ·split<;>rfl
    ·rfl
 ·cases h
have i:∀ {l c},iB l=some c->(Ev T c).2=T:=λ{l c} h=>by
 unfold iB at h;split at h
 ·cases h;simp only[Ev];split<;>rfl
 ·cases h
split at h
·exact a h
·split at h
 ·exact b h
 ·split at h
  ·exact d h
  ·split at h
   ·exact e h
   ·split at h
    ·exact f h
    ·split at h
     ·exact g h
     ·exact i h)
theorem eY.does(hT:eY T) (h:kb p l row=some c) (s:p=2->∀d,l=[d]->mx d row):eY (Ev T c).2:=by(
unfold kb at h;split at h
·unfold kN at h;split at h
 ·cases h;simp only[Ev];split
  ·exact hT
  ·next h1=>
   split
   ·exact hT
   ·next h2=>
    have:=hT.sz.stops;refine⟨MA hT.bd (by simpa using h1),⟨by show(T.stops++_).length<=256;rw[ls,bK];lia,hT.sz.trips,hT.sz.walks,hT.sz.late⟩,hT.jF⟩
 ·cases h
·split at h
 ·next r=>
  unfold oS at h;split at h
  ·next d=>
   cases h;obtain⟨u,x⟩:=s r d rfl;simp only[Ev];split
   ·exact hT
   ·next h1=>
    split
    ·exact hT
    ·next h2=>
     split
     ·exact hT
     ·next t=>
      have h1:(u8 d 1 127&&u8 ((row.length:Int)/3) 2 64)=true:=by simpa using h1
      unfold u8 at h1;simp only[ev,dL]at h1;have f:=yM (cL row);have o:(cL row).length=row.length:=by unfold cL;rw[FM]
      rw[o]at f;have:=hT.sz.trips;refine⟨MX hT.bd (by rw[f];lia) (by simpa using h2),⟨hT.sz.stops,by show(T.trips++_).length<=1024;rw[ls,bK];lia,hT.sz.walks,λq e=>?_⟩,λq e=>?_⟩
      ·rcases cs.mp e with e|e
       ·exact hT.sz.late q e
       ·rw[sc.mp e];simp
      ·rcases cs.mp e with e|e
       ·exact hT.jF q e
       ·rw[sc.mp e];show(fV (cL row)).length<=64;rw[f];lia
  ·cases h
 ·split at h
  ·unfold kO at h;split at h
   ·cases h;simp only[Ev];split
    ·exact hT
    ·next h1=>
     split
     ·exact hT
     ·next h2=>
      rename_i a b m;have h1:(eV T a&&(eV T b&&u8 m 0 240))=true:=by simpa using h1
      unfold eV u8 at h1;simp only[ev,dL]at h1;have:=hT.sz.walks;refine⟨Ng hT.bd (by lia) (by lia) (by lia),⟨hT.sz.stops,hT.sz.trips,by show(T.walks++_).length<=4096;rw[ls,bK];lia,hT.sz.late⟩,hT.jF⟩
   ·cases h
  ·split at h
   ·unfold kM at h;split at h
    ·cases h;simp only[Ev];split
     ·exact hT
     ·next h1=>
      rename_i g d i m;have h1:(u8 g 0 ((T.trips.length:Int)-1)&&(u8 d 0 6&&(u8 i 0 63&&u8 m 0 240)))=true:=by simpa using h1
      unfold u8 at h1;simp only[ev,dL]at h1;have bd:=Ik hT.bd (n:=g.toNat) (d:=d.toNat) (i:=i.toNat) (m:=m.toNat) (by lia) (by lia);refine⟨bd,⟨hT.sz.stops,by rw[wj];exact hT.sz.trips,hT.sz.walks,λq e=>(bd.late q e).1⟩,λq e=>?_⟩;rw[CD]at e;obtain⟨k,j,rfl⟩:=e;have:=hT.jF _ (eX j);split<;>exact this
    ·cases h
   ·rw[ym h];exact hT)
end
def vl (CP CN:WF):Sp:=λvs H Q _=>∃(A:PA) (T:t1) (m:Nat) (p:Int) (ns b:WF) (l row:List Int) (c:c9),vs=[.ref A.x,.int p,.ref ns,.ref b]/\H ns=some (.lst (l.map W1.int))/\H b=some (.lst (row.map W1.int))/\l.length=vT p/\kb p l row=some c/\(p=2->∀d,l=[d]->mx d row)/\cd CP CN H A T m/\eY T/\m+2<=1000/\
 ∀(I:Hp) (a:WF),cd CP CN I A (Ev T c).2 (m+2)->Ch A.own H I->H a=none->I a=some (.lst ((am (Ev T c).1).map W1.int))->Q (.ref a) I
theorem L1:pu zaD zaD (s1 qf):=nb rfl rfl rfl (by decide +kernel)
theorem Jr(F:sB K "answer_of" "answer_of" qf f fd) (T:bV K mg CP) (Y:oQ mg)
  (c1:Gm P w K mg base 1 CP "add_stop" zau (hZ CP CN kN 1)) (c2:Gm P w K mg base 2 CP "add_trip" zaE (vG CP CN)) (c3:Gm P w K mg base 2 CP "add_walk" zav (hZ CP CN kO 3)) (c4:Gm P w K mg base 2 CP "tell_late" zaw (hZ CP CN kM 4))
  (OX:Gf P w K mg base 8 "answer_asked" zaC (vm CP CN)):AC P w K mg base xL 9 f fd zaD (vl CP CN):=by(
refine Do c1 λPl Pf ON OS m1=>?_;refine Do c2 λPm Pg OO OT m2=>?_;refine Do c3 λPn Ph OP OU m3=>?_;refine Do c4 λPo Pj OQ OV O5=>?_;refine gl OX λPp Pk OR OW g5 O4=>?_;refine F.ar L1 (λvs H Q E h=>?_) (λPe Pc outer s0 H vs Q E y h=>?_)
·refine pY h λA i m p ns OM l row c Pa _=>?_;subst Pa;rfl
·intro Pd;refine pX h λA i m p ns OM l row c Pb=>?_;obtain⟨rfl,r,O2,g,d,O3,t,hT,hm,k⟩:=Pb;refine B (On (it (ga c0 (V 1) (nl Y.n1 rfl) (li _)) (Fa (tt (db (UV (aA (V 0) T.cl m1 ON (y.mono) OS .nil ws (UV (xz wE (V 2) EQ) PP)) PP)))) he)
  (On (it (ga c0 (V 1) (nl Y.n2 rfl) (li _)) (Fa (tt (db (UV (aA (V 0) T.cl m2 OO (y.mono) OT .nil ws (UV (xz wE (V 2) EQ) (UV (V 3) PP))) PP)))) he)
  (On (it (ga c0 (V 1) (nl Y.n3 rfl) (li _)) (Fa (tt (db (UV (aA (V 0) T.cl m3 OP (y.mono) OU .nil ws (UV (xz wE (V 2) EQ) (UV (xz wE (V 2) EQ) (UV (xz wE (V 2) EQ) PP)))) PP)))) he)
  (On (it (ga c0 (V 1) (nl Y.n4 rfl) (li _)) (Fa (tt (db (UV (aA (V 0) T.cl O5 OQ (y.mono) OV .nil ws (UV (xz wE (V 2) EQ) (UV (xz wE (V 2) EQ) (UV (xz wE (V 2) EQ) (UV (xz wE (V 2) EQ) PP))))) PP)))) he)
  (Fa (tt (ge OR y rfl g5 O4 OW .nil ws (UV (V 0) (UV (V 1) (UV (V 2) PP)))))))))) ?_
 have fin:(Ev i c).1.out=[]->∀H1,cd CP CN H1 A (Ev i c).2 (m+1)->Ch A.own H H1->∀q,H1 q=none->Q (.ref q) (Uf H1 q (.lst [W1.int (Ev i c).1.code])):=λs H1 n j q U=>by
  refine k _ q ((n.same (Tl.new U)).more (by lia)) (j.new U) (gF j U λb N=>n.there N) ?_;rw[KE,yg s];rfl
 unfold kb at d;unfold vT at g;refine zn _ O O (B rfl ?_);by_cases D:p=1
 ·rw[sK (by rw[D])];rw[No D]at d g;obtain⟨u,rfl⟩:=k7 g;have s:(Ev i c).1.out=[]:=by cases d;exact Au
  exact wn (B rfl (nw A.x A.dx _ O t.ob O (B rfl (Db ns _ _ _ O O (TD.of r) O (b' A i m _ c O g d t hT.sz (by lia) (λH1 n j=>⟨by show 1<=Gc;decide,fin s H1 n j⟩))))))
 rw[sn (by intro z;injection z with z;exact D z)];rw[Ps D]at d g;refine v6 (zn _ O O (B rfl ?_));by_cases C:p=2
 ·rw[sK (by rw[C])];rw[No C]at d g;obtain⟨u,rfl⟩:=k7 g;have s:(Ev i c).1.out=[]:=by cases d;exact Aw
  obtain⟨O7,O8⟩:=O3 C u rfl;have OY:c=.trip u (cL row) ((row.length:Int)/3):=by unfold oS at d;cases d;rfl
  rw[OY]at fin s;exact wn (B rfl (nw A.x A.dx _ O t.ob O (B rfl (Db ns _ _ _ O O (TD.of r) O (B rfl (i3 A i m u OM row ⟨O,O2,O7,O8,t,hT.sz,by lia,λH1 n j=>⟨by show 1<=Gc;decide,fin s H1 n j⟩⟩))))))
 rw[sn (by intro z;injection z with z;exact C z)];rw[Ps C]at d g;refine v6 (zn _ O O (B rfl ?_));by_cases J:p=3
 ·rw[sK (by rw[J])];rw[No J]at d g;obtain⟨u,O9,O_,rfl⟩:=pB g;have s:(Ev i c).1.out=[]:=by cases d;exact Ax
  exact wn (B rfl (nw A.x A.dx _ O t.ob O (B rfl (Db ns _ _ _ O O (TD.of r) O (B rfl (Db ns _ _ _ O O (TD.of r) O (B rfl (Db ns _ _ _ O O (TD.of r) O (b' A i m _ c O g d t hT.sz (by lia) (λH1 n j=>⟨by show 1<=Gc;decide,fin s H1 n j⟩))))))))))
 rw[sn (by intro z;injection z with z;exact J z)];rw[Ps J]at d g;refine v6 (zn _ O O (B rfl ?_));by_cases L:p=4
 ·rw[sK (by rw[L])];rw[No L]at d g;obtain⟨u,O9,O_,Pq,rfl⟩:=d0 g;have s:(Ev i c).1.out=[]:=by cases d;exact Av
  exact wn (B rfl (nw A.x A.dx _ O t.ob O (B rfl (Db ns _ _ _ O O (TD.of r) O (B rfl (Db ns _ _ _ O O (TD.of r) O (B rfl (Db ns _ _ _ O O (TD.of r) O (B rfl (Db ns _ _ _ O O (TD.of r) O (b' A i m _ c O g d t hT.sz (by lia) (λH1 n j=>⟨by show 1<=Gc;decide,fin s H1 n j⟩))))))))))))
 rw[sn (by intro z;injection z with z;exact L z)];rw[Ps L]at d g;refine v6 (B rfl (B rfl (B rfl (g8 A i m p ns l c ⟨O,r,g,d,t,hT,hm,λI a O0 OZ O6 O1=>k I a (by rw[ym d];exact O0) (λb o e N=>OZ b o e λz=>N (by rw[sc.mp z];simp[PA.own])) O6 O1⟩)))))
end Dv
namespace L2
open PySem PySem.Spec PyProof.Rows
noncomputable def mI (e:g_):Option (Int×Int×Int):=match e.key,e.val with
 |.int k _,.int v _=>some (e.hash,k,v)
 |_,_=>none
theorem Ga(q:mI e=some (h,k,v)):e.hash=h/\∃t u,e.key=.int k t/\e.val=.int v u:=by(
unfold mI at q;split at q
·next t u h1 h2=>cases q;exact⟨O,im _ _ h1 h2⟩
·cases q)
def mj (K:wf) (wd:WF) (a:List (Int×Int)):Prop:=∃o es ep,K.lookup wd=some o/\o.ExactDict/\o.data=.dict es ep/\es.toList.map mI=a.map λx=>some (x.1,x.1,x.2)
theorem B8:∀ {es:List g_}{b:List (Int×Int)},es.map mI=(b.map λx=>some (x.1,x.1,x.2))->(∀x,x∈b->w0 x.1=x.1)->
  ∃T0:List (sw×Tk),Pairs (cj P w) es T0/\T0.map (·.1)=(b.map λx=>(ii x.1:sw))/\(∀e,e∈es->∃k,(cj P w).is k e.key=true/\e.hash=(cj P w).hash k)/\∀p n,b.lookup p=some n->∃t,ia T0 (ii p:sw)=some (.int n t)
 |[],[],_,_=>⟨[],.nil,O,λe r=>by simp at r,λp n h=>by cases h⟩
 |[],_::_,h,_=>by cases h
 |_::_,[],h,_=>by cases h
 |e::es,(k,v)::b,h,f=>by
  rw[m0,m0]at h;injection h with h1 h2;obtain⟨T0,y,p2,A,C⟩:=B8 (P:=P) (w:=w) h2 λx s=>f x (o0 _ s);obtain⟨m,t,u,o,q⟩:=Ga h1;have g:(cj P w).is (ii k:sw) e.key=true:=by rw[o];exact iQ (k:=ii k) ⟨t,O⟩
  refine⟨(ii k,e.val)::T0,.cons g rfl y,by rw[m0,m0,p2],λl d=>?_,λp n a=>?_⟩
  ·rcases rs.mp d with rfl|d
   ·exact B g (by rw[m];exact(f (k,v) (kt ..)).symm)
   ·exact A l d
  ·unfold ia;rw[kD];rw[jn]at a;by_cases c:p=k
   ·subst c;simp only[beq_self_eq_true]at a;cases a;simp only[decide_true,ik];exact⟨u,by rw[q]⟩
   ·have i:(p==k)=false:=by simpa using c
    rw[i]at a;have j:decide ((ii k:sw)=ii p)=false:=sn λz=>c (by injection z with z;exact z.symm);simp only[j];exact C p n a
def MS (a:List (Int×Int)) (ty:TE):TE:=λZB H Q=>ty ZB H λy H1=>∃p n,y=.int p/\a.lookup p=some n/\Q (.int n) H1
theorem KS {X:Cx}{x:Str}{i:s5}{ty:TE}{p pos:Pos}{wd:WF}{a:List (Int×Int)}(hm:X.mg x=some (.ref wd)) (hg:Gl X x) (hd:mj X.K wd a) (m:∀x,x∈a->w0 x.1=x.1) (r:(a.map λx=>(ii x.1:sw)).Nodup) (hi:PE X i ty) (z:s9 i) (j:(x==("__debug__":Str))=false:=by decide):PE X (.Subscript (.Name x p) i pos) (MS a ty):=by
 intro WP s ZB H Q XV h;refine BB DL.lookup z (mU XV hg hm ?_ j);refine wP (hi WP s ZB H _ XV h) λU N T=>?_;obtain⟨y,H2,b,L,k,n,d,q,J⟩:=T;subst d;refine lb hd λo es ep h1 h2 f g=>?_;obtain⟨T0,C,p2,D,E⟩:=B8 (P:=X.prog) (w:=X.w) g m;have u:=b.dY wd o h1;have c:N.heap.DictOf (cj X.prog X.w) wd T0:=b_ o es ep ⟨u,h2,f,λe l=>D e (by simpa using l),C,by rw[p2];exact r⟩;obtain⟨t,A⟩:=E k n q;exact⟨c.mapOf.typeIs,C5 (iQ (k:=ii k) L) c.mapOf A (IN (.int n) H2 (b.tok _) ⟨t,O⟩ J)⟩
end L2
namespace Dv
open PySem L2 Tw
variable {P:fr}{w:kw}{K:wf}{mg:Str->Option Tk}{base:s2}{CP CN CS CL CG:WF}
theorem zh(L:List (List Int)) (h:∀r,r∈L->r.length<=k):L.flatten.length<=k*L.length:=by
 rw[Cu];exact nJ cC k L h
theorem mH:∀(l:List (Nat×Option Int)) (m:Option Int) (r:List Int),r∈gv m l->r.length<=5
 |[],m,r,h=>by simp[gv]at h
 |(k,x)::l,m,r,h=>by
  unfold gv at h;split at h
  ·split at h
   ·rcases rs.mp h with rfl|h
    ·simp
    ·exact mH l _ r h
   ·exact mH l _ r h
  ·rcases rs.mp h with rfl|h
   ·simp
   ·exact mH l _ r h
  ·exact mH l _ r h
theorem BR:∀(l:List n0) (x:l0),(bn T M x l).length<=5*l.length
 |[],x=>by simp[bn]
 |c::l,x=>by
  unfold bn;rw[ls,bt];have h1:(bT T M x c).length<=5:=by
   unfold bT;split
   ·split<;>simp
   ·split<;>simp
  cases q:xi T M x c with
  |none=>simp only[kC];lia
  |some y=>
   have:=BR (T:=T) (M:=M) l y;simp only;lia
theorem Hc:∀r,r∈so T h M t->r.length<=5:=λr a=>by
 unfold so at a;rw[Cv]at a;obtain⟨x,_,a⟩:=fk.mp a;obtain⟨k,_,a⟩:=fk.mp a;split at a
 ·simp at a
 ·obtain⟨i,_,hi⟩:=oD.mp a;split at hi
  ·cases hi;simp
  ·cases hi
theorem A2(a:room<=4096) (h:∀r,r∈L->r.length<=5):(am (lZ room L)).length<=20481:=by(
unfold am lZ;split
·next c=>
 have:=zh L h;simp only[bt];split
 ·simp
 ·lia
·simp[bM])
theorem e_ (n:Int):(am (bM n)).length<=20481:=by
 unfold am bM;simp
theorem rH(h:u8 a b c=true):b<=a/\a<=c:=by unfold u8 at h;simpa using h
theorem Fj(hT:eY T) (h:jA p l=some c):(am (Ev T c).1).length<=20481:=by(
have two:∀(x y:Int),(am ⟨0,[x,y]⟩).length<=20481:=λx y=>by simp[am]
have b:∀ {l c},iC l=some c->(am (Ev T c).1).length<=20481:=λ{l c} h=>by
 unfold iC at h;split at h
 ·cases h;simp only[Ev];split
  ·exact e_ _
  ·split
   ·exact two _ _
   ·exact e_ _
 ·cases h
have d:∀ {l c},iF l=some c->(am (Ev T c).1).length<=20481:=λ{l c} h=>by
 unfold iF at h;split at h
 ·cases h;simp only[Ev];split
  ·exact e_ _
  ·split
   ·exact two _ _
   ·exact e_ _
 ·cases h
have e:∀ {l c},iD l=some c->(am (Ev T c).1).length<=20481:=λ{l c} h=>by
 unfold iD at h;split at h
 ·cases h;simp only[Ev];split
  ·exact e_ _
  ·next hw=>
   have hw:=sy _ |>.resolve_right hw;rw[ev]at hw;exact A2 (rH hw.2).2 λr a=>mH _ _ r a
 ·cases h
have f:∀ {l c},iG l=some c->(am (Ev T c).1).length<=20481:=λ{l c} h=>by
 unfold iG at h;split at h
 ·cases h;simp only[Ev];split
  ·exact e_ _
  ·next hw=>
   have hw:=sy _ |>.resolve_right hw;rw[ev,ev]at hw;refine A2 (rH hw.2.2).2 λr a=>?_;obtain⟨i,_,hi⟩:=oD.mp a;split at hi
   ·split at hi
    ·cases hi;simp
    ·cases hi
   ·cases hi;simp
   ·cases hi
 ·cases h
have g:∀ {l c},iH l=some c->(am (Ev T c).1).length<=20481:=λ{l c} h=>by
 unfold iH at h;split at h
 ·cases h;simp only[Ev];split
  ·exact e_ _
  ·split
   ·exact e_ _
   ·have:=hT.sz.stops;unfold am;simp only[bt];split
    ·simp
    ·rw[FM,fZ];lia
 ·cases h
have j:∀ {l c},iE l=some c->(am (Ev T c).1).length<=20481:=λ{l c} h=>by
 unfold iE at h;split at h
 ·cases h;simp only[Ev];split
  ·exact e_ _
  ·next hw=>
   have hw:=sy _ |>.resolve_right hw;rw[ev]at hw;have n:=(rH hw.2).2;split
   ·exact e_ _
   ·split
    ·next l' _=>
     split
     ·exact e_ _
     ·next o=>
      unfold am;simp only[bt];split
      ·simp
      ·refine dz (DI (BR l' _)) ?_;lia
    ·exact e_ _
 ·cases h
have m:∀ {l c},iB l=some c->(am (Ev T c).1).length<=20481:=λ{l c} h=>by
 unfold iB at h;split at h
 ·cases h;simp only[Ev];split
  ·exact e_ _
  ·next hw=>
   have hw:=sy _ |>.resolve_right hw;rw[ev]at hw;have n:=rH hw.2;unfold am;simp only[bt];split
   ·simp
   ·refine dz (DI (zh (k:=5) _ λr a=>Hc r (oz a))) ?_;rw[aP];lia
 ·cases h
unfold jA at h;split at h
·exact b h
·split at h
 ·exact d h
 ·split at h
  ·exact e h
  ·split at h
   ·exact f h
   ·split at h
    ·exact g h
    ·split at h
     ·exact j h
     ·exact m h)
theorem yh(hT:eY T) (h:kb p l row=some c):(am (Ev T c).1).length<=20481:=by(
have one:∀ {a:DF},a.out=[]->(am a).length<=20481:=λb=>by rw[yg b];simp
unfold kb at h;split at h
·unfold kN at h;split at h
 ·cases h;exact one Au
 ·cases h
·split at h
 ·unfold oS at h;split at h
  ·cases h;exact one Aw
  ·cases h
 ·split at h
  ·unfold kO at h;split at h
   ·cases h;exact one Ax
   ·cases h
  ·split at h
   ·unfold kM at h;split at h
    ·cases h;exact one Av
    ·cases h
   ·exact Fj hT h)
noncomputable def rG:List (Int×Int):=[(1,1),(2,1),(3,3),(4,4),(5,4),(6,4),(7,5),(8,6),(9,4),(10,5),(11,4)]
theorem MW(h:f3 p=some (n,k)) (g:l.length=n) (h0:k=0->xs=[]) (h1:k=1->xs=[row]):
  ∃x,kb p l row=some x/\D4 (l7 ((p::l)::xs))=some x/\vT p=n/\rG.lookup p=some (n:Int)/\(k=1↔p=2):=by(
rcases Bo h with⟨rfl,rfl,rfl⟩|⟨rfl,rfl,rfl⟩|⟨rfl,rfl,rfl⟩|⟨rfl,rfl,rfl⟩|⟨rfl,rfl,rfl⟩|⟨rfl,rfl,rfl⟩|⟨rfl,rfl,rfl⟩|⟨rfl,rfl,rfl⟩|⟨rfl,rfl,rfl⟩|⟨rfl,rfl,rfl⟩|⟨rfl,rfl,rfl⟩
·rw[h0 rfl];obtain⟨a,rfl⟩:=k7 g;exact⟨_,O,O,O,O,by decide⟩
·rw[h1 rfl];obtain⟨a,rfl⟩:=k7 g;exact⟨_,O,O,O,O,by decide⟩
·rw[h0 rfl];obtain⟨a,b,c,rfl⟩:=pB g;exact⟨_,O,O,O,O,by decide⟩
·rw[h0 rfl];obtain⟨a,b,c,d,rfl⟩:=d0 g;exact⟨_,O,O,O,O,by decide⟩
·rw[h0 rfl];obtain⟨a,b,c,d,rfl⟩:=d0 g;exact⟨_,O,O,O,O,by decide⟩
·rw[h0 rfl];obtain⟨a,b,c,d,rfl⟩:=d0 g;exact⟨_,O,O,O,O,by decide⟩
·rw[h0 rfl];obtain⟨a,b,c,d,e,rfl⟩:=jQ g;exact⟨_,O,O,O,O,by decide⟩
·rw[h0 rfl];obtain⟨a,b,c,d,e,f,rfl⟩:=uy g;exact⟨_,O,O,O,O,by decide⟩
·rw[h0 rfl];obtain⟨a,b,c,d,rfl⟩:=d0 g;exact⟨_,O,O,O,O,by decide⟩
·rw[h0 rfl];obtain⟨a,b,c,d,e,rfl⟩:=jQ g;exact⟨_,O,O,O,O,by decide⟩
·rw[h0 rfl];obtain⟨a,b,c,d,rfl⟩:=d0 g;exact⟨_,O,O,O,O,by decide⟩)
theorem Bw{T:t1}{c:List (List Int)}(h:D4 c=some x):l4 T c=((Ev T x).2,am (Ev T x).1):=by
 unfold l4;rw[h];rfl
theorem LK(h:xu (l7 [[2,d],row])=true):mx d row:=by(
have h:(D2 d&&(D2 ((row.length:Int)/3)&&(row.all (λ(z:Int)=>D3 z 16)&&decide ((row.length:Int)=if(1<=d/\d<=127)/\(2<=(row.length:Int)/3/\(row.length:Int)/3<=64)then 3*((row.length:Int)/3)else 0))))=true:=h;simp only[ev,hp,dL]at h;obtain⟨_,_,b,a⟩:=h;refine⟨λz hz=>?_,λc=>?_⟩
·have:=b z hz;unfold D3 at this;simp only[ev,dL]at this;exact this.1
·rw[No c]at a;exact a)
theorem yW(xs:List W1) (h:j<=xs.length) (a:i<=j):eI xs (some (i:Int)) (some (j:Int))=(xs.drop i).take (j-i):=by
 unfold eI;rw[HT.qD,HT.qD,kr h,kr (by lia)]
def q' (K:wf):Sp:=λvs H Q _=>∃(a:WF) (ns:List Int),vs=[.ref a]/\TD K H a (ns.map W1.int)/\ns.length<=30000/\xF ns=true/\∀(I:Hp) (l:WF),I l=some (.lst ((sQ ns).map W1.int))->Q (.ref l) I
theorem fK:pu ["calls","plan","told","place","number","behind","numbers","row","answer"] ["calls"] (s1 hV):=nb rfl rfl rfl (by decide +kernel)
theorem y5{ns:List Int}(h:ns.drop pl=p::r):ns[pl]?=some p/\ns.drop (pl+1)=r/\pl<ns.length:=by(
have a:pl<ns.length:=by
 apply Ew;intro c;rw[wc (by lia)]at h;cases h
rw[x2 a]at h;injection h with h1 h2;exact⟨by rw[g1 a,h1],h2,a⟩)
def eZ (H I:Hp):Prop:=∀b o,H b=some o->(∀x u,o≠HO.aw x u)->I b=some o
theorem eZ.hide {l:List WF}{H I:Hp}(h:eZ H I):eZ (hide l H) (hide l I):=λb o e m=>by obtain⟨a,c⟩:=wl.mp e;exact wl.mpr ⟨a,h b o c m⟩
theorem eZ.drop(h:H q=some (.aw o u)):eZ H (L2.hide [q] H):=λb o' e m=>wl.mpr ⟨(λz=>by rw[sc.mp z,h]at e;exact m _ _ (b3 e).symm),e⟩
section
variable {G G':Hp}
theorem eZ.l(s:eZ G G') {l:List W1}(e:G b=some (.lst l)):G' b=some (.lst l):=s _ _ e λ_ _ z=>by cases z
theorem eZ.t(s:eZ G G') {l:List W1}(e:TupAt G v l):TupAt G' v l:=by obtain⟨a,b,c⟩:=e;exact(Ix a b (s _ _ c λ_ _ z=>by cases z))
theorem f2.m6(s:eZ G G') (h:f2 CN G n N):f2 CN G' n N:=by(
refine et h.ex λk c r o d f J os ds fs h1 h2 p u y A C D E m=>?_;have j:∀ {v:W1}{l:List W1},LstAt G v l->LstAt G' v l:=λL=>by obtain⟨a,e,q⟩:=L;exact Ix a e (s.l q)
exact⟨k,c,r,o,d,f,J,os,ds,fs,s _ _ h1 (λ_ _ z=>by cases z),s.l h2,s.l p,aj (λv x Q=>by obtain⟨a,b,g,i,H⟩:=Q;exact IN a b (s.t g) (s.l i) (s.l H)) u,s.l y,aj (λv x T=>by obtain⟨es,g,i⟩:=T;exact Ix es (j g) (aj (λ_ _ q=>s.t q) i)) A,s.l C,aj (λv x U=>by obtain⟨es,g,i⟩:=U;exact Ix es (j g) (aj (λ_ _ q=>s.t q) i)) D,s.l E,aj (λ_ _ q=>s.t q) m⟩)
theorem cd.m6(s:eZ G G') (h:cd CP CN G A T m):cd CP CN G' A T m:=by(
have f:=s.hide (l:=A.own);obtain⟨ts,E,H⟩:=h.trips;obtain⟨Q,J,L⟩:=h.walks;obtain⟨lk,h1,h2,n⟩:=h.late;obtain⟨C,x,y,o⟩:=h.bo;refine⟨h.nd,s _ _ h.ob (λ_ _ z=>by cases z),s.l h.chg,(Ix ts (s.l E) (aj (λ_ _ U=>by obtain⟨a,b,c,g,j,k,D⟩:=U;exact nw a b c (f.t g) (f.l j) (f.l k) (f.l D)) H)),(Ix Q (s.l J) (aj (λ_ _ q=>f.t q) L)),(zn lk (s _ _ h1 (λ_ _ z=>by cases z)) h2 ⟨λi d p r u=>?_,n.no⟩),(zn C (s _ _ x (λ_ _ z=>by cases z)) y (λd hd=>⟨λv e=>by obtain⟨a,N,g,j,k⟩:=(o d hd).1 v e;exact(IN a N g (j.m6 s) k),λv e=>by obtain⟨a,N,g,j,k⟩:=(o d hd).2 v e;exact(IN a N g (j.m6 s) k)⟩))⟩;have:=n.at_ i d p r u;unfold ju at this⊢;cases q:io lk (el i d)with
|none=>rw[q]at this;exact this
|some v=>rw[q]at this;exact f.t this)
end
theorem Js(F:sB K "answers" "answers" hV f fd) (T:bV K mg CP) (Y:oQ mg) (QH:mg "Plan"=some (.ref CP)) (TW:Mk K CP Qm) (P_:AC P w K mg base xL 1 Qm Qn zaa (vD CP CN)) (Qd:Binds K Qn zaa [])
  (QI:mg "WIDTHS"=some (.ref wd)) (Qq:mj K wd rG) (Qe:Gf P w K mg base 9 "answer_of" zaD (vl CP CN)):AC P w K mg base xL 10 f fd ["calls"] (q' K):=by
 refine gl Qe λQT QU P9 Qc QG QD=>?_;refine F.ar fK (λvs H Q E h=>?_) (λQR QP outer s0 H vs Q E PR h=>?_)
 ·refine iU h λa ns QM=>?_;obtain⟨rfl,_⟩:=QM;rfl
 ·intro QQ;refine iU h λa ns QN=>?_;obtain⟨rfl,Qr,QX,Qt,k⟩:=QN;refine B (On (zS 1 fK (KP TW P_ (PR.mono) rfl QH Qd .nil ws))
   (On (zS 2 fK (db PP))
   (On (zS 3 fK EQ)
   (On (lu bN (ga d1 (V 3) (a0 b6 (by rfl) T.len b1 (UV (V 0) PP)) (li _))
    (On (zS 4 fK (xz wE (V 0) (V 3)))
    (On (zS 5 fK (jp bG (jp bG (V 3) EQ) (KS QI rfl Qq (by decide) (by decide) (V 4) (λ_ _=>rfl))))
    (On (zS 6 fK (nj nF (V 0) (d2 (jp bG (V 3) EQ)) (d2 (V 5))))
    (On (zS 7 fK (db PP))
    (On (it (ga c0 (V 4) (nl Y.n2 rfl) (li _))
     (On (zS 7 fK (nj nF (V 0) (d2 (jp bG (V 5) EQ)) (d2 (jp bG (jp bG (V 5) EQ) (xz wE (V 0) (V 5))))))
     (Fa (zS 5 fK (jp bG (jp bG (V 5) EQ) (a0 b6 (by rfl) T.len b1 (UV (V 7) PP)))))) he)
    (On (uX (zS 8 fK (ge P9 PR rfl QG QD Qc .nil ws (UV (V 1) (UV (V 4) (UV (V 6) (UV (V 7) PP)))))))
    (On (ca (cG cm da dc cZ (V 2) (UV (a0 b6 (by rfl) T.len b1 (UV (V 8) PP)) PP)))
    (On (ca (cG cm DM DN IM (V 2) (UV (V 8) PP)))
    (Fa (zS 3 fK (V 5))))))))))))
   (Fa (tt (V 2))))))) ?_
  refine gl (Ff Qt) λQl Qg Qx Qs Qu QV=>?_;refine λx dx nx QK ne=>?_;have sx:Tl H (Uf (Uf H dx (.own x)) x (.ins CP dx [])):=(Tl.new QK).tr (Tl.new (by rw[UF (Ne.symm ne)];exact nx));refine IN x dx O KE (λH1 A ex PK Qp Qo=>⟨O,?_⟩);subst ex;have P0:Tl H H1:=λc u q=>Qp _ _ (sx _ _ q) (by simpa using v0 q nx);have PZ:∀b,b∈A.own->H b=none:=λb Qv=>by
   rcases Qo b Qv with z|z
   ·rw[z];exact nx
   ·exact sx.free z
  refine⟨f4 _,λtl Pa=>?_⟩;have P1:Tl H1 (Uf H1 tl (.lst [])):=Tl.new Pa;have O_:H tl=none:=P0.free Pa;have QL:Tl H1 (hide [tl] (Uf H1 tl (.lst []))):=λc u q=>wl.mpr ⟨by simpa using v0 q Pa,P1 _ _ q⟩;have P2:tl∉A.own:=λz=>PK.there z Pa
  let Qb:Nat->St->Hp->Prop:=λm ZB H2=>∃(pl:Nat) (PH:Nat) (C:List (List (List Int))) (o:t1) (N:Nat) (out:List Int) (P4 P5 P6 P7 P8:Option W1),ZB=[some (.ref a),some (.ref A.x),some (.ref tl),some (Rs pl),P4,P5,P6,P7,P8]/\m=C.length/\jj f3 PH (ns.drop pl)=some C/\out++lJ o (C.map l7)=sQ ns/\cd CP CN (hide [tl] H2) A o N/\eY o/\N+2*C.length<=600/\(∀c,c∈C->xu (l7 c)=true)/\out.length+20500*C.length<=6150000/\H2 tl=some (.lst (out.map W1.int))/\Tl H H2
  refine⟨Qb,⟨_,0,Ql,Qg,eb,0,[],none,none,none,none,none,O,O,by rw[CK];exact Qx,by rw[me];exact Qs.symm,PK.same QL,⟨F',⟨by simp[eb],by simp[eb],by simp[eb],λp Pp=>by simp[eb]at Pp⟩,λp Pp=>by simp[eb]at Pp⟩,by lia,Qu,by simp;lia,KE,P0.tr P1⟩,?_⟩;rintro m ZB H2 ⟨pl,PH,C,o,N,out,P4,P5,P6,P7,P8,rfl,rfl,Qw,O9,PL,OW,Q0,Pl,Q3,OR,PB⟩;have O6:=Qr.same PB;refine B rfl (B rfl (IN a _ O (.inl O6) (IN _ _ O O (B rfl ?_))));rcases FH Qw with⟨Pf,J⟩|⟨p,n,OS,r,xs,t,OV,PJ,Pf,PX,Q2,OQ,J,PN⟩
  ·have QW:ns.length<=pl:=by
    have:=cM cC Pf;rw[jm]at this;simp at this;lia
   rw[sn (by rw[FM];lia)];refine v6 (B rfl (k H2 tl ?_));rw[J,hr,MV,fm]at O9;rw[<- O9];exact OR
  ·obtain⟨QC,O7,QY⟩:=y5 Pf;rw[sK (by rw[FM];lia)];refine wn ⟨λQO I=>∃PY,PY<C.length/\_,λQO I q=>q,?_⟩;have Q5:r.length+pl+1=ns.length:=by rw[<- O7,jm];lia
   have Qy:(ns.map W1.int)[pl]?=some (W1.int p):=by rw[pr,QC];rfl
   refine B rfl (B rfl (Db a _ _ _ O O O6 (lv Qy) ?_));have Po:OS=0->xs=[]:=λz=>by rw[z]at OQ;exact(A8 OQ).1
   have O8:OS=1->xs=[if OS=1 then(xs.getD 0 [])else []]:=λz=>by
    have PV:=OQ;rw[z]at PV;refine gl (A7 PV) λPY l _ _ e _=>?_;rw[No z,e];rfl
   obtain⟨x,c1,c2,c3,c4,PD⟩:=MW (row:=if OS=1 then(xs.getD 0 [])else []) (xs:=xs) PX (show(r.take n).length=n by rw[aP];lia) Po O8;have Qh:W1.int ((pl:Int)+1+(n:Int))=Rs (pl+1+n):=by unfold Rs;congr 1
   refine B rfl (IN _ _ O O (B rfl (IN p _ O c4 (IN _ _ O O ?_))));show bh 5 (W1.int ((pl:Int)+1+(n:Int))) _ _ _;rw[Qh];have PF:eI (ns.map W1.int) (some ((pl:Int)+1)) (some ((pl+1+n:Nat):Int))=(r.take n).map W1.int:=by
    rw[show((pl:Int)+1)=((pl+1:Nat):Int) by lia,yW _ (by rw[FM];lia) (by lia),<-wz,O7,<-nM,show pl+1+n-(pl+1)=n by lia]
   refine B rfl (B rfl (IN _ _ O O (B rfl (B rfl (B rfl (IN a _ O O6 (λON O3=>?_)))))));have QS:eI (ns.map W1.int) (some ((λi j=>i+j) (pl:Int) 1)) (some ((pl+1+n:Nat):Int))=(r.take n).map W1.int:=PF;rw[PF];have Px:Tl H2 (Uf H2 ON (.lst ((r.take n).map W1.int))):=Tl.new O3;have PQ:(Uf H2 ON (.lst ((r.take n).map W1.int))) ON=some (.lst ((r.take n).map W1.int)):=KE;generalize Uf H2 ON (.lst ((r.take n).map W1.int))=O4 at Px PQ⊢;refine⟨f4 _,λU Pu=>?_⟩;have Py:Tl O4 (Uf O4 U (.lst [])):=Tl.new Pu;have PU:(Uf O4 U (.lst [])) U=some (.lst []):=KE;generalize Uf O4 U (.lst [])=D at Py PU⊢;have y:Tl H2 D:=Px.tr Py;have O2:=Py _ _ PQ;refine zn _ O O (B rfl ?_);by_cases OX:p=2
   ·have O8:OS=1:=PD.mpr OX;rw[sK (by rw[OX])];rw[O8]at OQ;refine gl (A7 OQ) λg l Qk Q1 Ph Pg=>?_;rw[No O8]at c1;have O5:xs.getD 0 []=l.take g:=by rw[Ph];rfl
    rw[O5]at c1;obtain⟨Qz,Pn,QZ⟩:=y5 (ns:=ns) (pl:=pl+1+n) (p:=(g:Int)) (r:=l) (by rw[<- Qk,<-O7,wy]);have Q4:l.length+(pl+1+n)+1=ns.length:=by rw[<- Pn,jm];lia
    have QA:(ns.map W1.int)[pl+1+n]?=some (W1.int (g:Int)):=by rw[pr,Qz];rfl
    have PM:=O6.same y;have Qj:eI (ns.map W1.int) (some (((pl+1+n:Nat):Int)+1)) (some (((pl+1+n:Nat):Int)+1+(g:Int)))=(l.take g).map W1.int:=by
     rw[show(((pl+1+n:Nat):Int)+1)=((pl+1+n+1:Nat):Int) by lia,show(((pl+1+n+1:Nat):Int)+(g:Int))=((pl+1+n+1+g:Nat):Int) by lia,yW _ (by rw[FM];lia) (by lia),<-wz,Pn,<-nM,show pl+1+n+1+g-(pl+1+n+1)=g by lia]
    refine wn (B rfl (B rfl (IN _ _ O O (B rfl (B rfl (IN _ _ O O (B rfl (B rfl (Db a _ _ _ O O PM (lv QA) (IN _ _ O O (B rfl (IN a _ O PM (λOT Pw=>?_)))))))))))));rw[Qj];have Pz:Tl D (Uf D OT (.lst ((l.take g).map W1.int))):=Tl.new Pw;have Pq:(Uf D OT (.lst ((l.take g).map W1.int))) OT=some (.lst ((l.take g).map W1.int)):=KE;generalize Uf D OT (.lst ((l.take g).map W1.int))=Qa at Pz Pq⊢;refine B rfl (IN _ _ O O (B rfl (IN OT _ O (.inl (TD.of Pq)) (IN _ _ O O ?_))));have Q6:(((l.take g).map W1.int).length:Int)=(g:Int):=by rw[FM,aP];lia
    have Qi:W1.int (((pl+1+n:Nat):Int)+1+(((l.take g).map W1.int).length:Int))=Rs (pl+1+n+1+g):=by unfold Rs;congr 1;lia
    show bh 5 (W1.int (((pl+1+n:Nat):Int)+1+(((l.take g).map W1.int).length:Int))) _ _ _;rw[Qi];have OZ:p=2->∀d,r.take n=[d]->mx d (l.take g):=λ_ d hd=>by
     refine LK ?_;have:=Pl ((p::r.take n)::xs) (by rw[J];exact kt ..);rw[OX,hd,Ph]at this;exact this
    have Pb:OT≠tl:=λz=>by rw[z,y _ _ OR]at Pw;cases Pw
    have O1:ns.drop (pl+1+n+1+g)=t:=by rw[Pg,<-Pn,wy]
    have O2:=Pz _ _ O2;have y:=y.tr Pz;have OY:=Pq;generalize pl+1+n+1+g=Pd at O1⊢;generalize l.take g=row at c1 OZ OY;generalize Qa=D at y O2 OY⊢;generalize OT=U at OY Pb⊢;have Pj:∀s,cd CP CN (Uf D tl (.aw s (.lst (out.map W1.int)))) A o N:=λs=>PL.same λc u q=>by
     obtain⟨OM,OU⟩:=wl.mp q;rw[UF (by simpa using OM)];exact y _ _ OU
    have QF:C.length=OV.length+1:=by rw[J];rfl
    have Pr:=y _ _ OR;have Pt:ON≠tl:=λz=>by rw[z,OR]at O3;cases O3
    refine IN tl _ Pr True.intro (λs=>?_);refine B rfl (B rfl (B rfl (B rfl ⟨A,o,N,p,ON,U,r.take n,row,x,O,(UF Pt).trans O2,(UF Pb).trans OY,by rw[c3,aP];lia,c1,OZ,Pj s,OW,by lia,λPc OO Pk O0 QJ L=>?_⟩)));have OP:Pc tl=some (.aw s (.lst (out.map W1.int))):=O0 _ _ KE P2;refine⟨OP,?_⟩;have at_:OO≠tl:=λz=>by rw[z,OP]at L;cases L
    have QE:=yh OW c1;have big:∀ {k:Nat},k<=16000000->k<=Gc:=λh=>by rw[h9];lia
    have Pe:∀ {k:Nat},k<=16000000->k<Gc:=λh=>by rw[h9];lia
    refine zn _ O (.inl ⟨O,⟨_,TD.of KE⟩⟩) (B rfl (IN OO _ O (.inl (TD.of ((UF at_).trans L))) (bb tl _ _ O O KE (Pe (by rw[FM];lia)) ?_)));refine zn _ O (.inl ⟨O,⟨_,TD.of KE⟩⟩) (B rfl (bi tl OO _ _ O O KE (by rw[UF at_,UF at_];exact L) (big (by rw[ls,FM,FM,bK];lia)) ?_));rw[gZ,gZ];refine B rfl (Ix OV.length (by lia) ⟨Pd,PJ,OV,_,N+2,out++(((am (Ev o x).1).length:Int)::am (Ev o x).1),_,_,_,_,_,O,O,by rw[O1];exact PN,?_,?_,OW.does c1 OZ,by lia,λc Pm=>Pl c (by rw[J];exact o0 _ Pm),?_,?_,λc u q=>?_⟩)
    ·rw[<- O9,J,m0,BM,Bw c2];simp only[dv,mc]
    ·refine(Pk.m6 (eZ.drop OP)).same λc u q=>?_;obtain⟨OM,OU⟩:=wl.mp q;exact wl.mpr ⟨OM,by rw[UF (by simpa using OM)];exact OU⟩
    ·rw[ls,bt];lia
    ·rw[KE,bL,m0,dv];simp
    ·rw[UF (v0 q O_)];exact O0 _ _ ((UF (v0 q O_)).trans (y _ _ (PB _ _ q))) λz=>by rw[PZ c z]at q;cases q
   ·have Po:¬OS=1:=λz=>OX (PD.mp z);rw[sn (by intro z;injection z with z;exact OX z)];rw[Ps Po]at c1;have QB:OS=0:=by
     rcases Bo PX with q|q|q|q|q|q|q|q|q|q|q<;>lia
    rw[QB]at OQ;obtain⟨Ph,Pg⟩:=A8 OQ;refine v6 ?_;obtain⟨row,O5⟩:∃row:List Int,row=[]:=⟨_,O⟩;have OZ:p=2->∀d,r.take n=[d]->mx d row:=λz=>absurd z OX;rw[<- O5]at c1;have Pb:U≠tl:=λz=>by rw[z,Px _ _ OR]at Pu;cases Pu
    have O1:ns.drop (pl+1+n)=t:=by rw[Pg,<-O7,wy]
    have OY:D U=some (.lst (row.map W1.int)):=by rw[O5];exact PU
    generalize pl+1+n=Pd at O1⊢;have Pj:∀s,cd CP CN (Uf D tl (.aw s (.lst (out.map W1.int)))) A o N:=λs=>PL.same λc u q=>by
     obtain⟨OM,OU⟩:=wl.mp q;rw[UF (by simpa using OM)];exact y _ _ OU
    have QF:C.length=OV.length+1:=by rw[J];rfl
    have Pr:=y _ _ OR;have Pt:ON≠tl:=λz=>by rw[z,OR]at O3;cases O3
    refine IN tl _ Pr True.intro (λs=>?_);refine B rfl (B rfl (B rfl (B rfl ⟨A,o,N,p,ON,U,r.take n,row,x,O,(UF Pt).trans O2,(UF Pb).trans OY,by rw[c3,aP];lia,c1,OZ,Pj s,OW,by lia,λPc OO Pk O0 QJ L=>?_⟩)));have OP:Pc tl=some (.aw s (.lst (out.map W1.int))):=O0 _ _ KE P2;refine⟨OP,?_⟩;have at_:OO≠tl:=λz=>by rw[z,OP]at L;cases L
    have QE:=yh OW c1;have big:∀ {k:Nat},k<=16000000->k<=Gc:=λh=>by rw[h9];lia
    have Pe:∀ {k:Nat},k<=16000000->k<Gc:=λh=>by rw[h9];lia
    refine zn _ O (.inl ⟨O,⟨_,TD.of KE⟩⟩) (B rfl (IN OO _ O (.inl (TD.of ((UF at_).trans L))) (bb tl _ _ O O KE (Pe (by rw[FM];lia)) ?_)));refine zn _ O (.inl ⟨O,⟨_,TD.of KE⟩⟩) (B rfl (bi tl OO _ _ O O KE (by rw[UF at_,UF at_];exact L) (big (by rw[ls,FM,FM,bK];lia)) ?_));rw[gZ,gZ];refine B rfl (Ix OV.length (by lia) ⟨Pd,PJ,OV,_,N+2,out++(((am (Ev o x).1).length:Int)::am (Ev o x).1),_,_,_,_,_,O,O,by rw[O1];exact PN,?_,?_,OW.does c1 OZ,by lia,λc Pm=>Pl c (by rw[J];exact o0 _ Pm),?_,?_,λc u q=>?_⟩)
    ·rw[<- O9,J,m0,BM,Bw c2];simp only[dv,mc]
    ·refine(Pk.m6 (eZ.drop OP)).same λc u q=>?_;obtain⟨OM,OU⟩:=wl.mp q;exact wl.mpr ⟨OM,by rw[UF (by simpa using OM)];exact OU⟩
    ·rw[ls,bt];lia
    ·rw[KE,bL,m0,dv];simp
    ·rw[UF (v0 q O_)];exact O0 _ _ ((UF (v0 q O_)).trans (y _ _ (PB _ _ q))) λz=>by rw[PZ c z]at q;cases q
def x8 (K:wf) (x q:Str) (st:v2) (f:WF):Prop:=∃(d:Tk) (e:Option WF) (kV c h:Tk) (b:Option WF) (a ct:Tk) (g:Array (Option Tk)),
 K.lookup f=some ⟨d,e,.func (fT x q (gG st) (fA st) (s1 st) .none kV c h b a ct),g⟩/\lY K a q=true/\cV K (.ref f)=true
def a' (K:wf) (x:Str) (st:v2):Prop:=∃f,jb K cS x=some (some (.ref f))/\x8 K x x st f
def aB (K:wf) (C:WF) (x q:Str) (st:v2):Prop:=∃f,fS K (.ref C) x=some (some (.ref f))/\nZ K (.ref f)=true/\x8 K x q st f
structure ht (K:wf) (x:Str) (C:WF):Prop where
 ns:jb K cS x=some (some (.ref C))
 pg:nY K C D5=true
 hd:sl K C=true
 po:xa K C=true
 sa:fS K (.ref C) "__setattr__"=some (some (.builtin "object.__setattr__"))
 IL:xc K C=true
 kp:cV K (.ref C)=true
theorem ht.cls(h:ht K x C):cE K C:=⟨h.pg,h.hd,h.po,h.sa⟩
def aW (K:wf) (x:Str) (i:Int):Prop:=∃t,jb K cS x=some (some (.int i t))
def jw (K:wf) (x:Str):Prop:=jb K cS x=some none
section
variable {P:fr}{w:kw}{K:wf}{mg:Str->Option Tk}{base h:s2}{x q:Str}{st:v2}{C:WF}{k:Nat}{ps:List Str}{sp:Sp}
def yf:Nat->(List Tk->Prop)->Prop
 |0,P=>P []
 |n+1,P=>∀a,yf n λl=>P (a::l)
theorem mB:∀ {n:Nat}{P:List Tk->Prop},yf n P->∀us:List Tk,us.length=n->P us
 |0,_,h,[],_=>h
 |_+1,_,h,a::l,e=>mB (h a) l (Nat.succ.inj e)
abbrev sZ (x q:Str) (st:v2) (ps:List Str):Prop:=∀(kV c d:Tk) (a:Option WF) (b ct:Tk) (us:List Tk),us.length=ps.length->wY (fT x q (gG st) (fA st) (s1 st) .none kV c d a b ct) ⟨us,[]⟩=pure (ps.zip us)
theorem a'.gf (H:a' K x st) (X:K.In h) (G:h.Ns cS mg) (a:∀f fd,sB K x x st f fd->AC P w K mg base xL k f fd ps sp) (b:sZ x x st ps:=by exact λ_ _ _ _ _ _=>mB (by(repeat intro);rfl)):Gf P w K mg base k x ps sp:=by
 obtain⟨f,e,j,m,kV,i,o,d,g,ct,n,l,c,kp⟩:=H;have F:=mN (st:=st) l c kp;exact g2 f _ (a f _ F) (F.binds b) (ig X G e) kp
theorem aB.gm (H:aB K C x q st) (a:∀f fd,sB K x q st f fd->AC P w K mg base xL k f fd ps sp) (b:sZ x q st ps:=by exact λ_ _ _ _ _ _=>mB (by(repeat intro);rfl)):Gm P w K mg base k C x ps sp:=by
 obtain⟨f,e,i,m,n,kV,j,p,d,g,ct,o,l,c,kp⟩:=H;have F:=mN (st:=st) l c kp;exact IN f _ (a f _ F) (F.binds b) ⟨e,i,kp⟩
theorem aB.makes (H:aB K C "__init__" q st) {y:Str}(cl:ht K y C) (a:∀f fd,sB K "__init__" q st f fd->AC P w K mg base xL k f fd ps sp) (b:sZ "__init__" q st ps:=by exact λ_ _ _ _ _ _=>mB (by(repeat intro);rfl)):∃f fd,Mk K C f/\AC P w K mg base xL k f fd ps sp/\Binds K fd ps []:=by
 obtain⟨f,e,i,m,n,kV,j,p,d,g,ct,o,l,c,kp⟩:=H;have F:=mN (st:=st) l c kp;exact IN f _ ⟨cl.IL,e,i,cl.kp⟩ (a f _ F) (F.binds b)
theorem aW.con(H:aW K x i) (X:K.In h) (G:h.Ns cS mg):a_ mg x i:=by obtain⟨t,e⟩:=H;exact⟨t,ig X G e⟩
end
theorem aB.m{st:v2}{kV:Tk}(a:fS K (.ref C) x=some (some (.ref f))) (b:nZ K (.ref f)=true) (l:K.lookup f=some ⟨h,i,.func (fT x q (gG st) (fA st) (s1 st) .none kV g n e d ct),j⟩) (c:lY K d q=true) (k:cV K (.ref f)=true):aB K C x q st:=zn f a b ⟨h,i,kV,g,n,e,d,ct,j,l,c,k⟩
theorem a'.m{st:v2}{kV:Tk}(a:jb K cS x=some (some (.ref f))) (l:K.lookup f=some ⟨g,h,.func (fT x x (gG st) (fA st) (s1 st) .none kV e j d b ct),i⟩) (c:lY K b x=true) (k:cV K (.ref f)=true):a' K x st:=Ix f a ⟨g,h,kV,e,j,d,b,ct,i,l,c,k⟩
theorem aW.m(e:jb K cS x=some (some (.int i t))):aW K x i:=⟨t,e⟩
theorem F5(l:K.lookup wd=some o) (x:o.ExactDict) (d:o.data=.dict es ep) (e:es.toList.map mI=a.map λx=>some (x.1,x.1,x.2)):mj K wd a:=nw o es ep l x d e
structure x7 (K:wf) (CN CP CS CL CG:WF):Prop where
 tN:ht K "Network" CN
 ER:ao K CN "changes"
 EV:ao K CN "runs"
 EU:ao K CN "origins"
 ES:ao K CN "departures"
 ET:ao K CN "footpaths"
 tO:ht K "Plan" CP
 EW:ao K CP "changes"
 EZ:ao K CP "trips"
 E1:ao K CP "walks"
 EX:ao K CP "lateness"
 EY:ao K CP "networks"
 tP:ht K "Search" CS
 E5:ao K CS "network"
 E9:ao K CS "taken"
 E2:ao K CS "arrivals"
 E8:ao K CS "rides"
 E7:ao K CS "ridden"
 E6:ao K CS "ready"
 E_:ao K CS "unboarded"
 E4:ao K CS "first_calls"
 E3:ao K CS "boardings"
 tM:ht K "Limits" CL
 EM:ao K CL "network"
 EO:ao K CL "ridden"
 EN:ao K CL "ready"
 EL:ao K CL "first_calls"
 tL:ht K "Guide" CG
 EJ:ao K CG "goal"
 EI:ao K CG "arrival"
 EK:ao K CG "limits"
 IV:aB K CN "__init__" "Network.__init__" qK
 IU:aB K CN "add_run" "Network.add_run" qa
 Kt:aB K CP "__init__" "Plan.__init__" qN
 Ky:aB K CP "add_stop" "Plan.add_stop" qb
 Kz:aB K CP "add_trip" "Plan.add_trip" qc
 KA:aB K CP "add_walk" "Plan.add_walk" qd
 Ku:aB K CP "tell_late" "Plan.tell_late" qY
 Ks:aB K CP "has_stop" "Plan.has_stop" qz
 Kr:aB K CP "forward" "Plan.forward" qv
 Kv:aB K CP "mirrored" "Plan.mirrored" qJ
 Kx:aB K CP "runs_around" "Plan.runs_around" qT
 Kw:aB K CP "run_of" "Plan.run_of" qS
 LW:aB K CS "__init__" "Search.__init__" qU
 LQ:aB K CS "begin" "Search.begin" qh
 dJ:aB K CS "arrive" "Search.arrive" qg
 LV:aB K CS "get_on" "Search.get_on" j6
 LY:aB K CS "walk_on" "Search.walk_on" q0
 nA:aB K CS "take_ride" "Search.take_ride" qX
 LX:aB K CS "get_off" "Search.get_off" qy
 LS:aB K CS "ride_to_the_end" "Search.ride_to_the_end" qZ
 Ig:aB K CL "__init__" "Limits.__init__" qF
 Ie:aB K CL "can_board_at" "Limits.can_board_at" qj
 Ii:aB K CL "can_get_off_at" "Limits.can_get_off_at" qL
 Ih:aB K CL "last_call_off" "Limits.last_call_off" qG
 G4:aB K CG "__init__" "Guide.__init__" qx
 G7:aB K CG "can_walk_to" "Guide.can_walk_to" q1
 G3:aB K CG "can_board" "Guide.can_board" ql
 G6:aB K CG "can_get_off" "Guide.can_get_off" qm
 GA:a' K "mirrored_network" qI
 Gr:a' K "is_day" qA
 GG:a' K "can_run" qn
 GI:a' K "shifted" qW
 Gw:a' K "first_journey" qs
 GK:a' K "first_walk" qu
 GD:a' K "first_ride" qt
 GL:a' K "worthwhile" q2
 Gu:a' K "minutes_on_foot" qM
 Gp:a' K "first_boardings" qr
 Gs:a' K "earliest" qp
 Gy:a' K "latest" qH
 Gv:a' K "front" qw
 GC:a' K "profile" qO
 GF:a' K "reach" qP
 Gx:a' K "journey" qE
 Gn:a' K "board" qi
 Gj:a' K "can_ask" qk
 Gz:a' K "is_minute" qB
 GB:a' K "is_most" qC
 GH:a' K "searched" qV
 Gq:a' K "counted" qo
 Gh:a' K "answers" hV
 Gi:a' K "answer_of" qf
 Gg:a' K "answer_asked" qe
 HW:aW K "OUT_OF_RANGE" (-2)
 HE:aW K "CANNOT_RUN" (-4)
 HI:aW K "FULL" (-8)
 HV:aW K "NO_WAY" (-1)
 H0:aW K "TOO_MANY" (-3)
 HR:aW K "MOST_STOPS" 256
 HS:aW K "MOST_TRIPS" 1024
 HU:aW K "MOST_WALKS" 4096
 HM:aW K "MINUTES_OF_A_DAY" 1440
 HN:aW K "MINUTES_TOLD" 2880
 HF:aW K "DAYS_OF_A_WEEK" 7
 zP:aW K "NEVER" 1000000
 H6:aW K "WALKED" (-1)
 HP:aW K "MOST_RIDES_OF_FRONT" 8
 HQ:aW K "MOST_ROWS" 4096
 H4:aW K "UNREACHED" (-1)
 HZ:aW K "STOP" 1
 H3:aW K "TRIP" 2
 H5:aW K "WALK" 3
 HK:aW K "LATE" 4
 HG:aW K "EARLIEST" 5
 HL:aW K "LATEST" 6
 HH:aW K "FRONT" 7
 HX:aW K "PROFILE" 8
 HY:aW K "REACH" 9
 HJ:aW K "JOURNEY" 10
 B':jw K "len"
 Cb:jw K "range"
 Nu:jw K "zip"
 Ca:jw K "list"
 Cc:jw K "sorted"
 Nr:jw K "min"
section
variable {P:fr}{w:kw}{K:wf}{mg:Str->Option Tk}{base h:s2}{CN CP CS CL CG wd fa:WF}
theorem Fd(D:x7 K CN CP CS CL CG) (X:K.In h) (G:h.Ns cS mg) (Qh:jb K cS "WIDTHS"=some (some (.ref wd))) (Qm:mj K wd rG) (F:sB K "answers" "answers" hV f fd):AC P w K mg base xL 10 f fd ["calls"] (q' K):=by
 have TS:bg K mg CS CN:=⟨D.tP.cls,D.E5,D.E9,D.E2,D.E8,D.E7,D.E6,D.E_,D.E4,D.E3,D.tN.cls,D.ER,D.EV,D.EU,D.ES,D.ET,hc X G D.Cb,hc X G D.B'⟩;have TP:bV K mg CP:=⟨D.tO.cls,D.EW,D.EZ,D.E1,D.EX,D.EY,hc X G D.B',hc X G D.Cb,hc X G D.Nu,D.HW.con X G,D.HE.con X G,D.HI.con X G,D.HR.con X G,D.HS.con X G,D.HU.con X G,D.HM.con X G,D.HN.con X G,D.HF.con X G⟩;have a:eG mg:=⟨D.HV.con X G,D.H0.con X G,D.H4.con X G,D.H6.con X G,D.zP.con X G,D.HP.con X G,hc X G D.Nr,hc X G D.Ca,hc X G D.Cc⟩;have TA:oQ mg:=⟨D.HZ.con X G,D.H3.con X G,D.H5.con X G,D.HK.con X G,D.HG.con X G,D.HL.con X G,D.HH.con X G,D.HX.con X G,D.HY.con X G,D.HJ.con X G⟩;have TL:fu K CL CG:=⟨D.tM.cls,D.EM,D.EO,D.EN,D.EL,D.tL.cls,D.EJ,D.EI,D.EK⟩;have OZ:=ig X G D.tN.ns;have QC:=ig X G D.tO.ns;have o:=ig X G D.tP.ns;have QB:=ig X G D.tM.ns;have QA:=ig X G D.tL.ns;have Qg:=D.zP.con X G;have zL:=hc X G D.Ca;have zS:=hc X G D.Cc;obtain⟨Rg,QP,QD,P6,Qv,O_⟩:∃f fd,AC P w K mg base xL 1 f fd zaq (ra CS CN)/\Binds K fd zaq []/\cf K CS "get_on" f/\sB K "get_on" "Search.get_on" j6 f fd:=by
  obtain⟨f,e,i,Ry,Rz,kV,Q5,RB,QE,QF,ct,RA,l,c,kp⟩:=D.LV;have F:=mN (st:=j6) l c kp;exact g2 f _ (An F TS) (F.binds (λ_ _ _ _ _ _=>mB (by(repeat intro);rfl))) ⟨e,i,kp⟩ F
 have O3:Gm P w K mg base 2 CS "arrive" zaf (nG CS CN):=D.dJ.gm λf fd F=>Jt F TS O_ P6 Qv;refine Do (id O3) λQ7 QH q t u=>?_;have PV:Gm P w K mg base 3 CS "walk_on" zad (rj CS CN):=D.LY.gm λf fd F=>J_ F TS q t u;refine Do (id PV) λRx Q4 J OP OY=>?_;have PH:Gm P w K mg base 1 CS "get_off" zaa (vx CS CN):=D.LX.gm λf fd F=>JL F TS;refine Do (id PH) λRo QW Pn Qa Qx=>?_;have s:Gm P w K mg base 4 CS "take_ride" zaa (nI CS CN):=D.nA.gm λf fd F=>J7 F TS q t u J OP OY Pn Qa Qx;refine Do (id s) λRw Q3 Pr Qe Qz=>?_;have x:Gm P w K mg base 5 CS "ride_to_the_end" zaa (ri CS CN):=D.LS.gm λf fd F=>J9 F TS Pr Qe Qz;refine Do (id x) λRb QM Pg P2 Qt=>?_;have p:Gm P w K mg base 4 CS "begin" zaj (nH CS CN):=D.LQ.gm λf fd F=>Jv F TS q t u J OP OY;refine Do (id p) λQ8 QI Pe P0 Qs=>?_;obtain⟨Rv,Q2,m,k,n⟩:∃f fd,Mk K CS f/\AC P w K mg base xL 1 f fd zae (iY CS CN)/\Binds K fd zae []:=D.LW.makes D.tP λf fd F=>J4 F TS Qg;have r:Gf P w K mg base 6 "searched" zah (lG CS CN):=D.GH.gf X G λf fd F=>J5 F TS o m k n Pe P0 Qs Pg P2 Qt;refine gl (id r) λRt Q0 H OO OS OV=>?_;have O1:Gm P w K mg base 1 CN "add_run" zas (vk CN):=D.IU.gm λf fd F=>Jm F TS;refine Do (id O1) λQ6 QG Pd PZ Qr=>?_;obtain⟨Rn,QV,N,C,OM⟩:∃f fd,Mk K CN f/\AC P w K mg base xL 2 f fd zak (rg CN)/\Binds K fd zak []:=D.IV.makes D.tN λf fd F=>JW F TS zL zS Pd PZ Qr;have PB:Gf P w K mg base 4 "mirrored_network" zat (vA CN):=D.GA.gf X G λf fd F=>JU F TS OZ N C OM;refine gl (id PB) λRl QT Pl P9 Qk Qp=>?_;have O8:Gf P w K mg base 1 "is_day" ["day"] (rd):=D.Gr.gf X G λf fd F=>JN F TP;refine gl (id O8) λRa QL z U OR OU=>?_;have L:Gf P w K mg base 1 "is_minute" zao (rf):=D.Gz.gf X G λf fd F=>JO F TP;refine gl (id L) λRj QS GMI P8 Qj Qo=>?_;have j:Gf P w K mg base 1 "is_most" zai (j9):=D.GB.gf X G λf fd F=>JP F (D.HQ.con X G);have Pt:Gm P w K mg base 1 CP "has_stop" zal (rb CP CN):=D.Ks.gm λf fd F=>JM F TP;refine Do (id Pt) λRh QQ A Y OW=>?_;have b:Gf P w K mg base 2 "can_ask" zac (hY CP CN):=D.Gj.gf X G λf fd F=>Jy F TP A Y OW z U OR OU GMI P8 Qj Qo;refine gl (id b) λQ9 QJ y T OQ OT=>?_;obtain⟨Rp,QX,PD,Po,Qb⟩:∃f fd,Mk K CP f/\AC P w K mg base xL 1 f fd zaa (vD CP CN)/\Binds K fd zaa []:=D.Kt.makes D.tO λf fd F=>JZ F TP;have ST:Gm P w K mg base 1 CP "add_stop" zau (hZ CP CN kN 1):=D.Ky.gm λf fd F=>Jo F TP;have CR:Gf P w K mg base 1 "can_run" zax (vq):=D.GG.gf X G λf fd F=>JB F TP;refine gl (id CR) λQ_ QK Pf P1 Qi Qn=>?_;have PR:Gm P w K mg base 2 CP "add_trip" zaE (vG CP CN):=D.Kz.gm λf fd F=>Jp F TP Pf P1 Qi Qn;have PU:Gm P w K mg base 2 CP "add_walk" zav (hZ CP CN kO 3):=D.KA.gm λf fd F=>Jq F TP A Y OW;have LT:Gm P w K mg base 2 CP "tell_late" zaw (hZ CP CN kM 4):=D.Ku.gm λf fd F=>J8 F TP z U OR OU;have PQ:Gf P w K mg base 1 "shifted" zay (vF):=D.GI.gf X G λf fd F=>J6 F;refine gl (id PQ) λRu Q1 Pq Qd Ql Qq=>?_;have PN:Gm P w K mg base 2 CP "run_of" zaz (vE CP CN):=D.Kw.gm λf fd F=>J2 F TP Pq Qd Ql Qq;refine Do (id PN) λRr QZ Pp Qc Qy=>?_;have PL:Gm P w K mg base 3 CP "runs_around" zab (rh CP CN):=D.Kx.gm λf fd F=>J3 F TP Pp Qc Qy;refine Do (id PL) λRq QY E ON OX=>?_;have d:Gm P w K mg base 4 CP "forward" zab (fM CP CN hx):=D.Kr.gm λf fd F=>JI F TP E ON OX OZ N C OM;refine Do (id d) λRc QN Ph P4 Qu=>?_;have Q:Gm P w K mg base 5 CP "mirrored" zab (fM CP CN ml):=D.Kv.gm λf fd F=>JV F TP E ON OX Pl P9 Qk Qp;refine Do (id Q) λRm QU Pm P_ Qw=>?_;have g:Gf P w K mg base 1 "counted" zam (j8):=D.Gq.gf X G λf fd F=>JC F TP a;have O9:Gf P w K mg base 7 "earliest" zac (cI CP CN iC 4):=D.Gs.gf X G λf fd F=>JD F TP a TS y T OQ OT Ph P4 Qu H OO OS OV;have Pw:Gf P w K mg base 7 "latest" zac (cI CP CN iF 4):=D.Gy.gf X G λf fd F=>JT F TP a TS y T OQ OT Pm P_ Qw H OO OS OV;have FR:Gf P w K mg base 7 "front" zan (cI CP CN iD 5):=D.Gv.gf X G λf fd F=>JJ F TP a TS o m k n b j d p s g;have PJ:Gf P w K mg base 1 "minutes_on_foot" zaH (vC CN):=D.Gu.gf X G λf fd F=>JY F a TS;have FB:Gf P w K mg base 1 "first_boardings" zaI (vr CN):=D.Gp.gf X G λf fd F=>JE F a TS;have PY:Gf P w K mg base 6 "worthwhile" zaJ (vI CN):=D.GL.gf X G λf fd F=>Ka F a TS o m k n PJ FB x;have PK:Gf P w K mg base 7 "profile" zaA (cI CP CN iG 6):=D.GC.gf X G λf fd F=>J0 F TP b L j d PY g;have PM:Gf P w K mg base 7 "reach" zaF (cI CP CN iH 4):=D.GF.gf X G λf fd F=>J1 F TP a TS b j d r g;have O5:Gf P w K mg base 7 "board" zaG (cI CP CN iB 4):=D.Gn.gf X G λf fd F=>Jx F TP a TS b j d g;have O4:Gm P w K mg base 1 CL "can_board_at" zad (vn CL):=D.Ie.gm λf fd F=>Jw F TL;have PF:Gm P w K mg base 1 CL "can_get_off_at" zad (vB CL):=D.Ii.gm λf fd F=>JX F TL;have Px:Gm P w K mg base 1 CL "last_call_off" zaK (vz CL CN):=D.Ih.gm λf fd F=>JS F TL TS;have PX:Gm P w K mg base 2 CG "can_walk_to" zag (vH CL CG CN):=D.G7.gm λf fd F=>J' F TL O4;have O6:Gm P w K mg base 2 CG "can_board" zaB (vo CL CG CN):=D.G3.gm λf fd F=>Jz F TL Px;have O7:Gm P w K mg base 2 CG "can_get_off" zag (vp CL CG CN):=D.G6.gm λf fd F=>JA F TL PF;obtain⟨Ri,QR,Pz,Pk,P7⟩:∃f fd,Mk K CL f/\AC P w K mg base xL 1 f fd zap (vy CL CS CN)/\Binds K fd zap []:=D.Ig.makes D.tM λf fd F=>JR F TL TS a;obtain⟨Rf,QO,Py,Pj,P5⟩:∃f fd,Mk K CG f/\AC P w K mg base xL 5 f fd zar (vw CL CG CN)/\Binds K fd zar []:=D.G4.makes D.tL λf fd F=>JK F TL TS o m k n QB Pz Pk P7 p s;have Pc:Gf P w K mg base 3 "first_walk" zaL (vv CL CG CN):=D.GK.gf X G λf fd F=>JH F TL TS a PX;have Pb:Gf P w K mg base 3 "first_ride" zaM (vu CL CG CN):=D.GD.gf X G λf fd F=>JG F TL TS a O6 O7;have Pa:Gf P w K mg base 4 "first_journey" zaN (vt CL CG CN):=D.Gw.gf X G λf fd F=>JF F TL TS Pc Pb;have Pu:Gf P w K mg base 7 "journey" zan (cI CP CN iE 5):=D.Gx.gf X G λf fd F=>JQ F TP a TS QA Py Pj P5 b j d Q r Pa g;have O0:Gf P w K mg base 8 "answer_asked" zaC (vm CP CN):=D.Gg.gf X G λf fd F=>Ju F TA O9 Pw FR PK PM Pu O5;have O2:Gf P w K mg base 9 "answer_of" zaD (vl CP CN):=D.Gi.gf X G λf fd F=>Jr F TP TA ST PR PU LT O0;exact Js F TP TA QC PD Po Qb (ig X G Qh) Qm O2
theorem all_mk (D:x7 K CN CP CS CL CG) (X:K.In h) (G:h.Ns cS mg) (j:mg "answers"=some (.ref fa)) (g:jb K cS "WIDTHS"=some (some (.ref wd))) (i:mj K wd rG):
  ∃fd:lT,(∀(s:Go) (v:Tk),nU s fd ⟨[v],[]⟩ [("calls",v)])/\∀base:s2,K.In base->base.Ns cS mg->AC P w K mg base xL 10 fa fd ["calls"] (q' K):=by
 obtain⟨f,e,m,n,kV,d,k,a,b,ct,o,l,c,kp⟩:=D.Gh;have q:=j.symm.trans (ig X G e);cases q;exact Ix (fT "answers" "answers" (gG hV) (fA hV) (s1 hV) .none kV d k a b ct) (λs v=>.of_eq rfl) (λbase _ _=>Fd D X G g i (mN (st:=hV) l c kp))
end
end Dv
open PySem PySem.W PyProof.Rows
theorem PySem.Challenge.cw_timeways_s01_answers_holds : PySem.Challenge.rw_timeways_s01_answers.Holds := by
 refine holds_os (q:=Dv.zV) (XP:=XL Dv.zV []) (YP:=Hook.says (ko Dv.zK Dv.zA Dv.ka)) Dv.zu (Hook.of (ko Dv.zK Dv.zA Dv.ka)) (Hook.keeps (ko Dv.zK Dv.zA Dv.ka)) (λs e=>xl_of s (DJ.mp e).1) XL.keeps (by rfl) (by rfl) (by rfl) (λs e=>recFacts_of (DJ.mp e).2) os_shapes (by decide +kernel) (by decide +kernel) ⟨rfl,rfl,rfl,rfl,rfl,by decide +kernel⟩ ?hw ?n
 case hw=>exact⟨[.list []],by decide +kernel,by decide +kernel⟩
 k_fillS
 refine L2.Nj (k:=10) (x:="calls") (sp:=λK=>Dv.q' K) (by decide +kernel) (by decide) rfl ⟨rfl,by decide,by decide⟩ (λw h Y=>N3 Y) ?F (λK H a ns f j d i c=>⟨a,ns,rfl,c,f,d,λI l e=>⟨l,rfl,e⟩⟩)
 intro w mg fa h b G g
 refine' Dv.all_mk (.mk ..) b G g ?_ (Dv.F5 ..)
 iterate 3 try any_goals first|k_is|(delta L2.ao;k_is)|(delta Dv.jw;k_is)|refine' .m .. |refine' Dv.ht.mk ..
 any_goals first|exact⟨rfl,rfl,rfl⟩|rfl