import PyProof.Rows.All
import Wide.All
import OpenK.AllK
import Wide.FinOn
import PyProof.EqAt
import PyProof.EqKinds
import PyProof.TupleCall
import KE.BitLaws
import PyProof.ZipIter
import KE.KSortTupG
import KE.OsGo
import Open.SpecLaws
import PyProof.Rows.SortG.SortRunsSt
import PyProof.Sound
import KE.KRevSl
import PyProof.AutoSeq1
import PySem.Challenge.RW_timeways_s01_answers
set_option Elab.async false
set_option linter.all false
set_option maxRecDepth 100000
set_option maxHeartbeats 0
set_option compiler.extract_closed false
local macro_rules|`(tactic|lia)=>`(tactic|with_reducible first|assumption|exact Nat.le_of_lt ‹_›|exact Nat.le_of_not_lt ‹_›|exact Nat.lt_of_not_le ‹_›|exact Nat.lt_succ_of_le ‹_›|exact Nat.le_of_lt_succ ‹_›|exact Nat.lt_of_succ_lt ‹_›|exact Nat.le_succ_of_le ‹_›|exact Nat.sub_add_cancel ‹_›|exact Nat.sub_one_add_one ‹_›|exact Nat.lt_sub_of_add_lt ‹_›|exact Nat.add_lt_of_lt_sub ‹_›|exact Nat.le_sub_of_add_le ‹_›|exact Nat.eq_sub_of_add_eq ‹_›|exact Nat.lt_of_lt_of_le ‹_› (Nat.sub_le ..)|exact Nat.sub_one_lt_of_lt ‹_›|exact Nat.sub_one_lt ‹_›|exact Nat.lt_of_le_of_lt ‹_› ‹_›|exact Nat.lt_trans ‹_› ‹_›|exact Nat.le_trans ‹_› ‹_›|exact Nat.lt_of_lt_of_le ‹_› ‹_›|exact Int.le_trans ‹_› ‹_›|exact Int.le_of_lt ‹_›|exact Int.not_le.mp ‹_›|exact Int.not_lt.mp ‹_›|exact Int.le_of_eq ‹_›|exact Int.lt_of_lt_of_le ‹_› ‹_›|exact Int.lt_of_le_of_lt ‹_› ‹_›|exact Int.natCast_nonneg _|fail)
noncomputable section
abbrev zaa:List PySem.Str:=["self"]
abbrev zab:List PySem.Str:=["self","day"]
abbrev zac:List PySem.Str:=["plan","start","goal","day","minute"]
abbrev zad:List PySem.Str:=["self","stop","minute"]
abbrev zae:List PySem.Str:=["self","network"]
abbrev zaf:List PySem.Str:=["self","stop","minute","ready"]
abbrev zag:List PySem.Str:=["self","stop","minute","left"]
abbrev zah:List PySem.Str:=["network","start","minute"]
abbrev zai:List PySem.Str:=["most"]
abbrev zaj:List PySem.Str:=["self","start","minute"]
abbrev zak:List PySem.Str:=["self","changes","runs","walks"]
abbrev zal:List PySem.Str:=["self","stop"]
abbrev zam:List PySem.Str:=["rows","most"]
abbrev zan:List PySem.Str:=["plan","start","goal","day","minute","most"]
abbrev zao:List PySem.Str:=["minute"]
abbrev zap:List PySem.Str:=["self","search"]
abbrev zaq:List PySem.Str:=["self","stop","ready"]
abbrev zar:List PySem.Str:=["self","mirrored","goal","arrival","rides"]
abbrev zas:List PySem.Str:=["self","stops","comes","goes"]
abbrev zat:List PySem.Str:=["changes","runs","walks"]
abbrev zau:List PySem.Str:=["self","change"]
abbrev zav:List PySem.Str:=["self","start","goal","minutes"]
abbrev zaw:List PySem.Str:=["self","trip","day","call","minutes"]
abbrev zax:List PySem.Str:=["stops","comes","goes","stop_count"]
abbrev zay:List PySem.Str:=["minutes","call","before","since"]
abbrev zaz:List PySem.Str:=["self","trip","begins","weekday"]
abbrev zaA:List PySem.Str:=["plan","start","goal","day","first","last","most"]
abbrev zaB:List PySem.Str:=["self","run","call","left"]
abbrev zaC:List PySem.Str:=["plan","number","numbers"]
abbrev zaD:List PySem.Str:=["plan","number","numbers","row"]
abbrev zaE:List PySem.Str:=["self","days","calls"]
abbrev zaF:List PySem.Str:=["plan","start","day","minute","most"]
abbrev zaG:List PySem.Str:=["plan","stop","day","minute","most"]
abbrev zaH:List PySem.Str:=["network","start"]
abbrev zaI:List PySem.Str:=["network","on_foot"]
abbrev zaJ:List PySem.Str:=["network","start","goal","first","last"]
abbrev zaK:List PySem.Str:=["self","run"]
abbrev zaL:List PySem.Str:=["network","guide","stop","minute","left"]
abbrev zaM:List PySem.Str:=["network","guide","stop","ready","left"]
abbrev zaN:List PySem.Str:=["network","guide","start","minute","rides"]
open PySem.EqMixed renaming eq_bool_str->Oy,eq_str_bool->Oz,ne_bool_str->OA,ne_str_bool->OB,eq_int_str->OC,eq_str_int->OD,ne_int_str->OE,ne_str_int->OF
open PySem.EqNone renaming eq_none_none->Of,eq_none_bool->Og,eq_bool_none->Oh,ne_none_none->Oi,ne_none_bool->Oj,ne_bool_none->Ol,eq_none_int->Om,eq_none_str->Oo,eq_int_none->Oq,eq_str_none->Ot,ne_none_int->Ou,ne_none_str->Ov,ne_int_none->Ow,ne_str_none->Ox
open StateT renaming run_pure->Et,run_bind->Eu,run_lift->Ew,run_get->Ex
open Function renaming comp->xX
open Pure renaming pure->oo
open Sg45.Trip renaming lateOn->xU,comes->xV,goes->xW,stopAt->Es,runs->Oe
open PySem.Builtin.Dict renaming showsAll->Er,dictSlotNone->Oc,noArgs->Od
open Array.Perm renaming refl->xT
open List.Perm renaming of_eq->xS
open PyProof.Rows.G renaming sortHeap6->l6,tupKindC->xR
open PySem.Heap.IsList renaming push->xQ
open Classical renaming byContradiction->Ep
open PySem.Sem renaming wp_pure'->om,wp->hp,wp_bind'->xO,wp_mono->xP
open PySem.Around renaming under_plainId->xM,under->xN
open Prod.mk renaming injEq->oj
open List.Nodup renaming length_le_of_subset->Eo
open PySem.Builtin renaming iter->bx,bitAnd->sR,globals->xK
open PySem.Calls renaming callWith_builtin->xI,Name_function_global->El,spliced_cons->xJ,evalArgs_plain->Em,spliced_nil->En
open PySem.Builtin.Range renaming rangeSize->xH,small->Ob
open ForInStep renaming yield->oi
open PySem.NameKind renaming free->l5,cell->xG
open PySem.Heap.SameBut renaming update->sQ
open PySem.Obj renaming mapSeq->ho,data_mapDictKeys->xF,isFreed_of_dict->Eh,data_mapFields->Ei,mapDictKeys->Ej,mapFields->Ek
open PyFlat renaming calls->jg,rows->oh,played->Ed,call->Ee,told->Ef,row->Eg
open List.cons renaming injEq->kq
open Array renaming mem_toList_iff->l4,perm_iff_toList_perm->xD,getElem?_eq_getElem->xE,length_toList->sP,getElem_toList->Ea,toList_map->Eb,toList->Ec
open PySg45 renaming shape->f3,whole->l3,answers_asked->xC,answers->sO
open PyProof.Rows renaming callWith_type1->od,IntsAre->cD,SortSt->bT,boot_list->sG,Keyed->cn,boot_min->xt,pairsOf->gz,sortedAll_old->D5,sortedAll_at->D6,subscriptTail->sH,boot_sorted->D7,SortedToK->l2,AllBare->jd,envOfC->hl,subscriptTail_builtinR->D8,pairsOf_size->sI,pairsOf_toList->xu,tuples'->ko,listUpdate_at->xv,Subscript_->sJ,seqObj->je,failedOf->oe,callWith_builtin1->N',seqEpoch_at->xw,iadd_int->D9,IsTup->jf,boot_range->xx,SortKind->sL,size_push'->xy,lt_int->D_,bitAnd_m1->Oa,isTrue_and->D',TupsOf->sM,itemOrd->xA,Call_->sN,keyLt'->xB
open False renaming elim->ef
open PySem.Builtin.SmallTypes renaming ownedTupleIsFree->sE,nextOf->sF,ownedTupleHandOut->D4
open PySem.Builtin.List renaming listTooLong->l1,listFitsIndex->N_
open PySem.Challenge renaming pw_timeways_s01_answers->oc
open Sum renaming inl->im,inr->jc
open Int renaming toNat_natCast->ee,toNat_of_nonneg->fi,neg_neg->dU,le_refl->fj,fdiv_eq_ediv_of_nonneg->D1,natCast_nonneg->D2,le_trans->xr,add_zero->D3
open PySem.Str renaming ofString->b3,empty->D0
open Sg45Neutral renaming nats->cL,step->l0,asked1->xq,whole32->DX,natural->DY,callOf->DZ,asked->N9
open PySem.Value renaming ref->em,int->ij,isInt->sC,bool->sD,isStrOf->DT,bytes->DU,float->DV,type->DW
open Option.some renaming inj->b2,injEq->hk
open Option renaming toList_some->cK,map_some->ih,bind_some->sA,isSome_iff_exists->DL,getD_some->xp,map_eq_none_iff->DM,map_eq_some_iff->DN,isSome_some->DO,isSome_map->DP,getD_none->DQ,any_none->DR,any_some->DS
open PySem.PassesOwn renaming never->bN
open PySem.F renaming plainAttrs_list->cm,slot_list_append->da,type_list_append->dc,plainAttrs_dict->n',slot_dict_clear->oa,type_dict_clear->sy,slot_dict_get->xo,slot_dict_getitem->DG,slot_list_extend->DH,type_list_extend->DI,args_dict_get_3->DJ,entry_dict_get->DK,args_dict_clear_1->NZ,slot_list_reverse->N0,type_list_reverse->N1,entry_dict_clear->N2,args_tuple_lt_2->N3,entry_tuple_lt->N4,slot_tuple_lt->N5,type_dict_get->N6,slot_list_pop->N7,type_list_pop->N8
open Bool renaming and_eq_true->ev,false_ne_true->cc,true_eq_false->c',false_eq_true->fX,or_eq_true->hj,eq_false_or_eq_true->su,and_false->n0,true_and->n_,eq_iff_iff->sv,not_eq_true->xl,false_and->xm,and_eq_true_iff->DE,and_true->xn,false_or->DF
open Nat renaming le_refl->tz,zero_le->f4,lt_of_lt_of_le->c_,ne_of_lt->cb,le_trans->dz,le_of_lt->ed,lt_irrefl->hh,min_eq_left->km,lt_succ_of_lt->lZ,le_succ->ie,lt_trans->jb,lt_of_lt_of_eq->nZ,le_of_eq->kn,le_of_succ_le->sm,lt_succ_self->so,add_sub_cancel->xh,lt_of_le_of_lt->xi,zero_add->sq,ne_of_gt->sr,not_lt_zero->xj,lt_trichotomy->DB,min_eq_right->DC,succ_le_succ->DD,le_zero->xk
open Sg45 renaming does->Ev,within->u8,instances->v4,Table->t1,before->ci,arrivals->aE,says->bM,asked->b1,follow->be,numbers->bS,Call->c9,empty->eb,stopOk->eV,Trip->bu,rides->eC,weekday->fU,callsOf->fV,callsOk->eW,told->bn,many->aJ,Right->bw,dropSame->gv,rounds->ec,earliest->ja,search->eD,fewest->gw,roomy->lV,Place->lW,latest->lX,Leg->nX,Round->kl,going->sl,next_->nY,leavings->xb,At->xc,go->xf,walked->xg,best->lY,Ans->DA
open PySem.W renaming Frag->wf,keepIn->cV,mg_none_of->hc,findIn->fS,emptyDict->ib,fnOf->fT,instObj->i_,mg_of->ic,nsIn->i',codeIn->lU,plainGet->nU,hasDictIn->sj,inst->bf,plainGet_of->w6,isFn->nV,reach->ea,lookIn->sk,callWith_K->w7,methodObj->w8,plainOver->w9,cellsFrom_some->Dw,takerIn->w_,makesIn->w',methodCall_KW->Dx,callWith_K0->Dy,handedIn->Dz,rangeSize_downNat->Np,krv_sliceRange->Nq,hideAll_size->Nr,hideAll_none->Nu,looks_findIn->Nv,hideAll_get->Nw,findObj_own->Nx,looks_clsIn->Ny,of_hideAll->Nz,codeRec_of->NA,ki_setBack->NC,small_down->ND,krv_bounds->NF,get_value->NG,method_fn->NH,set_plain->NI,make_core->NK,WellAll->xa,kHook->nW,eq_bytes->NL,ne_bytes->NM,osa_open->NN,any_some->NO,InitBack->NQ,makes_of->NR,ki_setAt->NS,hideAll->NU,bind_fn->NV,InstAt->NW,typeIn->NX,kIn_of->NY
open PySem.Heap renaming get?_push_of_some->ln,get?_push_size->bc,lt_size->cr,size_push->cU,get?_update_other->ia,get?_update_self->kk,SameBut->lT,size_update->w4,get?_push_ne->Du,IsList->w5
open PySem renaming wpAny_bind->IR,Addr->WF,sizeLine->Gc,Value->Tk,wpAny_pure->t3,Shared->Go,model->AT,boot_len->b0,mem_of_lookup->eA,starEach->al,Program->fr,mainGlobals->cS,Stmt->v2,cellsFrom->cJ,Expr->s5,Heap->s2,World->g2,wpAny_truthy_bool->i2,sliceBounds->fR,compareOp->dR,sysModules->eS,wpAny_mono->eT,wpAny_call_entry->i3,Around->bJ,wpAny_typeNameOfWhole_keyiter->rS,wpAny_seqItems->h6,NameKind->d8,wpAny_passesOwn->kf,wpAny_holding->i4,wpAny_typeNameOf_keyiter->rT,wpAny_callSpecial?_slot->rV,sizeLine_eq->h7,wpAny_Call_Name_kw->nI,wpAny_setField_rec->nJ,compEnvC->ff,behindInMarks->kg,wpAny_pyIter_list->nL,wpAny_newObj_type->nM,wpAny_field->i5,wpAny_letGo->i6,DictEntry->g_,wpAny_updateSeq->nN,argBest->fg,backTo->d9,tupleKind_room_in1->rW,bootBuiltins->lL,foldedSetIterable->rX,binaryOp->ha,cLine->cT,wpAny_dictEntries->rY,wpAny_nextOf_list_item->wA,pyNext->eU,call_meets->kh,pushCells->i7,attributeBase->nO,wpAny_execs_nil->rZ,letOwnedTupleGo->r0,pushCells_keeps->r1,Scope->d_,assignEach->lM,wpAny_tryCatch->r2,Builtin->h8,slot_list_getitem->wB,valueAt->h9,IsZip->eB,wpAny_getItem_list_slice->CI,wpAny_attempt->r3,wpAny_onRaise->r4,plainId_quiet->r5,tupleKind->lN,swapsWith->lO,rawInt->hb,wpAny_pyNext_range_end->CJ,wpAny_pyIter_rangeiter->CK,codeAny_mono->r6,sliceRange->nP,wpAny_dictEpoch->wC,codeAny_builtin->wD,wpAny_isTrue_Compare1->CM,wpAny_notOrdered_dict->CO,wpAny_isOneOf_keyiter->CQ,wpAny_loadName_local->CT,IsRangeIter->r7,FuncData->lP,keywordEach->r8,subscripted->r9,holding->ki,wpAny_loadName_cell->CU,wpAny_standAt->wF,wpAny_pyIter_range->CV,runs_reach->r_,Within->wG,wpAny_assign_Name->CW,getItem->lQ,notedBy->lR,wpAny_pyIter_slot->CY,callerA->lS,wpAny_eqBool_int->CZ,wpAny_execs_cons->C0,assign->kj,getMethod->r',slicePick->sb,wpAny_getItem_of->C1,wpAny_Dict_empty->C2,wpAny_isInstance->C3,wpAny_pyIter_zip->C4,richCompare->wH,seqIndex_of->wI,atKey->h_,BindsTo->nQ,builtinsNs->wJ,wpAny_Name->wK,recursionLimit->C5,backToKw->sd,bindL->i8,bindC->i9,typeIs_int->wL,newFunctionEnv->C6,wpAny_fieldsOf->C7,wpAny_setField->C8,firstArgMember->C9,isSubtype_stop->C_,wpAny_newTuple->C',rule->wM,intBits_le_64->Dc,evalPart_none->Dd,call_list_seq->De,comprehension->Df,intKind->Dg,wpAny_newList->Dh,storeName->wN,inplaceOp->wO,updateSeq->wQ,seqItems?->wR,standAt->se,Keyword->sg,call_meetsIn->Di,Params->nR,interactive->Dj,Operator->wU,bindArgs->wV,wpAny_Slice->Dk,compPost->wW,wpAny_of_eq->Dl,pyIter->sh,wpAny_load->Dm,wpAny_call->Dn,typeLookup->Dp,PlainAttrs->Dq,closureFor->Ds,wpAny_rule->Dt,hashInt->wX,Model->nS,CmpOp->nT,setItem->wY,getAttr->wZ,operate->w0,IsPart->w1,cellOf->w2,stored->w3,field->si
open List renaming length_map->FM,getD_eq_getElem?_getD->np,mem_of_getElem?->pi,mem_singleton->sc,mem_cons_of_mem->o0,getElem?_eq_getElem->g1,getElem?_map->pr,length_append->ls,getElem?_eq_some_iff->aD,mem_cons_self->kw,mem_cons->rs,range->s4,map_cons->m0,mem_append->cs,mem_map->mo,replicate->f8,length_singleton->bK,size_toArray->aU,length_take->aP,length_cons->bt,map_map->ax,map_append->bL,take_add_one->cB,mem_range->bR,append_assoc->dv,map_congr_left->eE,take_length->dy,mem_zipIdx_iff_getElem?->ig,mem_iff_getElem?->fW,mem_append_right->fY,foldl_cons->dS,length_reverse->fh,mem_append_left->gx,length->cC,getElem_mem->eX,getElem?_range->gy,sum_cons->dV,mem_flatMap->fk,length_range->fZ,getElem?_eq_none->ik,filterMap_cons->hn,append_nil->fm,flatMap_cons->gA,pairwise_iff_getElem->kr,mem_filter->f5,all_eq_true->hq,replicate_succ->jh,nodup_append->il,not_mem_nil->ip,pairwise_map->ji,getElem?_append_right->oq,nodup_cons->iq,getElem?_append_left->ot,length_filter_le->l7,filter_append->ku,length_drop->jj,lookup_cons->jk,getElem?_replicate->ou,getElem?_cons_zero->ow,flatten_cons->kv,mem_map_of_mem->l8,map_nil->hr,zipIdx_cons->kx,getElem?_eq_none_iff->sS,length_nil->ky,find?_cons->kz,mem_of_mem_take->ox,findSome?_cons->oy,flatMap_append->oz,cons_append->l9,pairwise_cons->oA,mem_filterMap->oB,zip_cons_cons->oC,nil_append->l_,pairwise_flatMap->sT,foldl_append->oD,getElem?_set_ne->sU,lookup->jl,filter_cons->oE,drop_eq_getElem_cons->xY,filterMap_map->sV,range'->kA,getElem?_cons_succ->xZ,findIdx?_eq_some_iff_getElem->Ey,mem_range'_1->sW,getElem?_set_self->v_,reverse_cons->rK,forIn_nil->nG,take_of_length_le->v',drop_of_length_le->wa,ext_getElem->rL,getElem_inj->rM,map_flatMap->rN,map_take->nH,pairwise_append->wb,forIn_cons->rO,length_flatMap->wc,getElem_range->we,nodup_nil->rP,zipIdx_append->wg,length_mapIdx->wh,mem_of_find?_eq_some->Cc,ext_getElem?->wi,getElem?_take_of_lt->Cd,any_cons->rQ,length_filterMap_le->Ce,pairwise_mergeSort->Cf,mem_reverse->wj,getElem_map->wm,length_eq_zero_iff->Cg,pairwise_lt_range->Ci,range_succ->wo,of_mem_zip->wq,findSome?_append->Cj,getElem?_reverse->Ck,take_append_drop->Cm,mem_iff_getElem->Cn,map_id->rR,getElem?_mapIdx->Co,drop_drop->wu,getElem_zipIdx->Cp,length_flatten->Cq,map_drop->wx,mem_mergeSort->Cr,find?_eq_none->Cs,length_zipIdx->Ct,getElem?_set->Cu,toArray->wy,any_eq_true->Cv,map_reverse->Cw,drop_length->Cy,mem_mapIdx->Cz,length_set->CA,zipIdx_nil->CB,find?_some->CC,foldl->wz,drop_zero->CF,sum_nil->CH
def sn:=@decide_eq_false
def sK:=@decide_eq_true
def Ps:=@if_neg
def No:=@if_pos
def dL:=@decide_eq_true_eq
def aK:=@if_false
def gB:=@of_decide_eq_true
def a9:=@if_true
def cM:=@congrArg
def ir:=@decide_eq_decide
def lK:=@beq_eq_false_iff_ne
def gu:=@beq_iff_eq
def wt:=@decide_eq_false_iff_not
def g9:=@or_false
def CD:=@bne_self_eq_false
def O{a:Sort _}{x:a}:x=x:=rfl
theorem B {P Z:A->Prop}{a} (i:P a) (x:Z a):∃a,P a/\Z a:=⟨a,i,x⟩
theorem Ix {P Z:A->Prop}(a) (i:P a) (x:Z a):∃a,P a/\Z a:=⟨a,i,x⟩
theorem zn {P Q Z:A->Prop}(a) (i:P a) (j:Q a) (x:Z a):∃a,P a/\Q a/\Z a:=⟨a,i,j,x⟩
theorem io {P Z:A->Wp->Prop}(a b) (i:P a b) (x:Z a b):∃a b,P a b/\Z a b:=⟨a,b,i,x⟩
theorem IN {P Q Z:A->Wp->Prop}(a b) (i:P a b) (j:Q a b) (x:Z a b):∃a b,P a b/\Q a b/\Z a b:=⟨a,b,i,j,x⟩
theorem he {P Q R Z:A->Wp->Prop}(a b) (i:P a b) (j:Q a b) (k:R a b) (x:Z a b):∃a b,P a b/\Q a b/\R a b/\Z a b:=⟨a,b,i,j,k,x⟩
theorem b_ {Z:A->Wp->C->Prop}(a b c) (x:Z a b c):∃a b c,Z a b c:=⟨a,b,c,x⟩
theorem nw {P Q R Z:A->Wp->C->Prop}(a b c) (i:P a b c) (j:Q a b c) (k:R a b c) (x:Z a b c):∃a b c,P a b c/\Q a b c/\R a b c/\Z a b c:=⟨a,b,c,i,j,k,x⟩
theorem bb {P Q R S Z:A->Wp->C->Prop}(a b c) (i:P a b c) (j:Q a b c) (k:R a b c) (l:S a b c) (x:Z a b c):∃a b c,P a b c/\Q a b c/\R a b c/\S a b c/\Z a b c:=⟨a,b,c,i,j,k,l,x⟩
theorem dQ {Z:A->Wp->C->D->Prop}(a b c d) (x:Z a b c d):∃a b c d,Z a b c d:=⟨a,b,c,d,x⟩
theorem Db {P Q R S Z:A->Wp->C->D->Prop}(a b c d) (i:P a b c d) (j:Q a b c d) (k:R a b c d) (l:S a b c d) (x:Z a b c d):∃a b c d,P a b c d/\Q a b c d/\R a b c d/\S a b c d/\Z a b c d:=⟨a,b,c,d,i,j,k,l,x⟩
theorem bi {P Q R S T Z:A->Wp->C->D->Prop}(a b c d) (i:P a b c d) (j:Q a b c d) (k:R a b c d) (l:S a b c d) (m:T a b c d) (x:Z a b c d):∃a b c d,P a b c d/\Q a b c d/\R a b c d/\S a b c d/\T a b c d/\Z a b c d:=⟨a,b,c,d,i,j,k,l,m,x⟩
theorem bZ {Z:A->Wp->C->D->E->Prop}(a b c d e) (x:Z a b c d e):∃a b c d e,Z a b c d e:=⟨a,b,c,d,e,x⟩
theorem wv {P Q R S T Z:A->Wp->C->D->E->Prop}(a b c d e) (i:P a b c d e) (j:Q a b c d e) (k:R a b c d e) (l:S a b c d e) (m:T a b c d e) (x:Z a b c d e):∃a b c d e,P a b c d e/\Q a b c d e/\R a b c d e/\S a b c d e/\T a b c d e/\Z a b c d e:=⟨a,b,c,d,e,i,j,k,l,m,x⟩
theorem b' {P Q R S T U Z:A->Wp->C->D->E->Prop}(a b c d e) (i:P a b c d e) (j:Q a b c d e) (k:R a b c d e) (l:S a b c d e) (m:T a b c d e) (n:U a b c d e) (x:Z a b c d e):∃a b c d e,P a b c d e/\Q a b c d e/\R a b c d e/\S a b c d e/\T a b c d e/\U a b c d e/\Z a b c d e:=⟨a,b,c,d,e,i,j,k,l,m,n,x⟩
theorem i1 {Z:A->Wp->C->D->E->F->Prop}(a b c d e f) (x:Z a b c d e f):∃a b c d e f,Z a b c d e f:=⟨a,b,c,d,e,f,x⟩
theorem g8 {Z:A->Wp->C->D->E->F->G->Prop}(a b c d e f g) (x:Z a b c d e f g):∃a b c d e f g,Z a b c d e f g:=⟨a,b,c,d,e,f,g,x⟩
theorem fc {Z:A->Wp->C->D->E->F->G->H->Prop}(a b c d e f g h) (x:Z a b c d e f g h):∃a b c d e f g h,Z a b c d e f g h:=⟨a,b,c,d,e,f,g,h,x⟩
theorem iS {Z:A->Wp->Prop}{W:Prop}(x:∃a b,Z a b) (y:∀a b,Z a b->W):W:=by obtain⟨a,b,z⟩:=x;exact y a b z
theorem m7 {Z:A->Wp->C->Prop}{W:Prop}(x:∃a b c,Z a b c) (y:∀a b c,Z a b c->W):W:=by obtain⟨a,b,c,z⟩:=x;exact y a b c z
theorem Kh {Z:A->Wp->C->D->Prop}{W:Prop}(x:∃a b c d,Z a b c d) (y:∀a b c d,Z a b c d->W):W:=by obtain⟨a,b,c,d,z⟩:=x;exact y a b c d z
theorem uL {Z:A->Wp->C->D->E->Prop}{W:Prop}(x:∃a b c d e,Z a b c d e) (y:∀a b c d e,Z a b c d e->W):W:=by obtain⟨a,b,c,d,e,z⟩:=x;exact y a b c d e z
theorem k_ {Z:A->Wp->C->D->E->F->Prop}{W:Prop}(x:∃a b c d e f,Z a b c d e f) (y:∀a b c d e f,Z a b c d e f->W):W:=by obtain⟨a,b,c,d,e,f,z⟩:=x;exact y a b c d e f z
theorem pS {Z:A->Wp->C->D->E->F->G->Prop}{W:Prop}(x:∃a b c d e f g,Z a b c d e f g) (y:∀a b c d e f g,Z a b c d e f g->W):W:=by obtain⟨a,b,c,d,e,f,g,z⟩:=x;exact y a b c d e f g z
theorem pU {Z:A->Wp->C->D->E->F->G->H->Prop}{W:Prop}(x:∃a b c d e f g h,Z a b c d e f g h) (y:∀a b c d e f g h,Z a b c d e f g h->W):W:=by obtain⟨a,b,c,d,e,f,g,h,z⟩:=x;exact y a b c d e f g h z
theorem pV {Z:A->Wp->C->D->E->F->G->H->XV->Prop}{W:Prop}(x:∃a b c d e f g h i,Z a b c d e f g h i) (y:∀a b c d e f g h i,Z a b c d e f g h i->W):W:=by obtain⟨a,b,c,d,e,f,g,h,i,z⟩:=x;exact y a b c d e f g h i z
theorem pO {Z:A->Wp->C->D->E->F->G->H->XV->J->Prop}{W:Prop}(x:∃a b c d e f g h i j,Z a b c d e f g h i j) (y:∀a b c d e f g h i j,Z a b c d e f g h i j->W):W:=by obtain⟨a,b,c,d,e,f,g,h,i,j,z⟩:=x;exact y a b c d e f g h i j z
theorem pP {Z:A->Wp->C->D->E->F->G->H->XV->J->K->Prop}{W:Prop}(x:∃a b c d e f g h i j k,Z a b c d e f g h i j k) (y:∀a b c d e f g h i j k,Z a b c d e f g h i j k->W):W:=by obtain⟨a,b,c,d,e,f,g,h,i,j,k,z⟩:=x;exact y a b c d e f g h i j k z
theorem Ao {Z:A->Wp->C->D->E->F->G->H->XV->J->K->L->Prop}{W:Prop}(x:∃a b c d e f g h i j k l,Z a b c d e f g h i j k l) (y:∀a b c d e f g h i j k l,Z a b c d e f g h i j k l->W):W:=by obtain⟨a,b,c,d,e,f,g,h,i,j,k,l,z⟩:=x;exact y a b c d e f g h i j k l z
theorem jV {TW Z:A->Prop}{W:Prop}(x:∃a,TW a/\Z a) (y:∀a,TW a->Z a->W):W:=by obtain⟨a,m,z⟩:=x;exact y a m z
theorem uK {TW Z:A->Wp->Prop}{W:Prop}(x:∃a b,TW a b/\Z a b) (y:∀a b,TW a b->Z a b->W):W:=by obtain⟨a,b,m,z⟩:=x;exact y a b m z
theorem Do {TW N Z:A->Wp->Prop}{W:Prop}(x:∃a b,TW a b/\N a b/\Z a b) (y:∀a b,TW a b->N a b->Z a b->W):W:=by obtain⟨a,b,m,n,z⟩:=x;exact y a b m n z
theorem gl {TW N gt Z:A->Wp->Prop}{W:Prop}(x:∃a b,TW a b/\N a b/\gt a b/\Z a b) (y:∀a b,TW a b->N a b->gt a b->Z a b->W):W:=by obtain⟨a,b,m,n,o,z⟩:=x;exact y a b m n o z
theorem pQ {TW Z:A->Wp->C->Prop}{W:Prop}(x:∃a b c,TW a b c/\Z a b c) (y:∀a b c,TW a b c->Z a b c->W):W:=by obtain⟨a,b,c,m,z⟩:=x;exact y a b c m z
theorem k9 {TW N gt Z:A->Wp->C->Prop}{W:Prop}(x:∃a b c,TW a b c/\N a b c/\gt a b c/\Z a b c) (y:∀a b c,TW a b c->N a b c->gt a b c->Z a b c->W):W:=by obtain⟨a,b,c,m,n,o,z⟩:=x;exact y a b c m n o z
theorem jW {TW N gt P Q R S Z:A->Wp->C->Prop}{W:Prop}(x:∃a b c,TW a b c/\N a b c/\gt a b c/\P a b c/\Q a b c/\R a b c/\S a b c/\Z a b c) (y:∀a b c,TW a b c->N a b c->gt a b c->P a b c->Q a b c->R a b c->S a b c->Z a b c->W):W:=by obtain⟨a,b,c,m,n,o,p,q,r,s,z⟩:=x;exact y a b c m n o p q r s z
theorem jX {TW Z:A->Wp->C->D->Prop}{W:Prop}(x:∃a b c d,TW a b c d/\Z a b c d) (y:∀a b c d,TW a b c d->Z a b c d->W):W:=by obtain⟨a,b,c,d,m,z⟩:=x;exact y a b c d m z
theorem gQ {TW N gt P Z:A->Wp->C->D->Prop}{W:Prop}(x:∃a b c d,TW a b c d/\N a b c d/\gt a b c d/\P a b c d/\Z a b c d) (y:∀a b c d,TW a b c d->N a b c d->gt a b c d->P a b c d->Z a b c d->W):W:=by obtain⟨a,b,c,d,m,n,o,p,z⟩:=x;exact y a b c d m n o p z
theorem pR {TW N gt P Q Z:A->Wp->C->D->Prop}{W:Prop}(x:∃a b c d,TW a b c d/\N a b c d/\gt a b c d/\P a b c d/\Q a b c d/\Z a b c d) (y:∀a b c d,TW a b c d->N a b c d->gt a b c d->P a b c d->Q a b c d->Z a b c d->W):W:=by obtain⟨a,b,c,d,m,n,o,p,q,z⟩:=x;exact y a b c d m n o p q z
theorem hL {TW Z:A->Wp->C->D->E->Prop}{W:Prop}(x:∃a b c d e,TW a b c d e/\Z a b c d e) (y:∀a b c d e,TW a b c d e->Z a b c d e->W):W:=by obtain⟨a,b,c,d,e,m,z⟩:=x;exact y a b c d e m z
theorem gR {TW N Z:A->Wp->C->D->E->Prop}{W:Prop}(x:∃a b c d e,TW a b c d e/\N a b c d e/\Z a b c d e) (y:∀a b c d e,TW a b c d e->N a b c d e->Z a b c d e->W):W:=by obtain⟨a,b,c,d,e,m,n,z⟩:=x;exact y a b c d e m n z
theorem hM {TW N gt P Z:A->Wp->C->D->E->Prop}{W:Prop}(x:∃a b c d e,TW a b c d e/\N a b c d e/\gt a b c d e/\P a b c d e/\Z a b c d e) (y:∀a b c d e,TW a b c d e->N a b c d e->gt a b c d e->P a b c d e->Z a b c d e->W):W:=by obtain⟨a,b,c,d,e,m,n,o,p,z⟩:=x;exact y a b c d e m n o p z
theorem gS {TW N gt P Q R Z:A->Wp->C->D->E->Prop}{W:Prop}(x:∃a b c d e,TW a b c d e/\N a b c d e/\gt a b c d e/\P a b c d e/\Q a b c d e/\R a b c d e/\Z a b c d e) (y:∀a b c d e,TW a b c d e->N a b c d e->gt a b c d e->P a b c d e->Q a b c d e->R a b c d e->Z a b c d e->W):W:=by obtain⟨a,b,c,d,e,m,n,o,p,q,r,z⟩:=x;exact y a b c d e m n o p q r z
theorem pT {TW Z:A->Wp->C->D->E->F->G->Prop}{W:Prop}(x:∃a b c d e f g,TW a b c d e f g/\Z a b c d e f g) (y:∀a b c d e f g,TW a b c d e f g->Z a b c d e f g->W):W:=by obtain⟨a,b,c,d,e,f,g,m,z⟩:=x;exact y a b c d e f g m z
theorem pW {TW Z:A->Wp->C->D->E->F->G->H->XV->Prop}{W:Prop}(x:∃a b c d e f g h i,TW a b c d e f g h i/\Z a b c d e f g h i) (y:∀a b c d e f g h i,TW a b c d e f g h i->Z a b c d e f g h i->W):W:=by obtain⟨a,b,c,d,e,f,g,h,i,m,z⟩:=x;exact y a b c d e f g h i m z
theorem et {TW N gt P Q R S T U Z:A->Wp->C->D->E->F->G->H->XV->J->Prop}{W:Prop}(x:∃a b c d e f g h i j,TW a b c d e f g h i j/\N a b c d e f g h i j/\gt a b c d e f g h i j/\P a b c d e f g h i j/\Q a b c d e f g h i j/\R a b c d e f g h i j/\S a b c d e f g h i j/\T a b c d e f g h i j/\U a b c d e f g h i j/\Z a b c d e f g h i j) (y:∀a b c d e f g h i j,TW a b c d e f g h i j->N a b c d e f g h i j->gt a b c d e f g h i j->P a b c d e f g h i j->Q a b c d e f g h i j->R a b c d e f g h i j->S a b c d e f g h i j->T a b c d e f g h i j->U a b c d e f g h i j->Z a b c d e f g h i j->W):W:=by obtain⟨a,b,c,d,e,f,g,h,i,j,m,n,o,p,q,r,s,t,u,z⟩:=x;exact y a b c d e f g h i j m n o p q r s t u z
theorem mU(h:l.length=n+1):∃a t,l=a::t/\t.length=n:=by(
cases l with
|nil=>cases h
|cons a t=>exact⟨a,t,O,Nat.succ.inj h⟩)
theorem k3(h:l.length=1):∃a,l=[a]:=List.length_eq_one_iff.mp h
theorem Ir(h:l.length=2):∃a b,l=[a,b]:=by obtain⟨a,t,rfl,k⟩:=mU h;obtain⟨b,rfl⟩:=k3 k;exact⟨a,b,O⟩
theorem pz(h:l.length=3):∃a b c,l=[a,b,c]:=by obtain⟨a,t,rfl,k⟩:=mU h;obtain⟨b,c,rfl⟩:=Ir k;exact⟨a,b,c,O⟩
theorem d0(h:l.length=4):∃a b c d,l=[a,b,c,d]:=by obtain⟨a,t,rfl,k⟩:=mU h;obtain⟨b,c,d,rfl⟩:=pz k;exact⟨a,b,c,d,O⟩
theorem jN(h:l.length=5):∃a b c d e,l=[a,b,c,d,e]:=by obtain⟨a,t,rfl,k⟩:=mU h;obtain⟨b,c,d,e,rfl⟩:=d0 k;exact⟨a,b,c,d,e,O⟩
theorem uw(h:l.length=6):∃a b c d e f,l=[a,b,c,d,e,f]:=by obtain⟨a,t,rfl,k⟩:=mU h;obtain⟨b,c,d,e,f,rfl⟩:=jN k;exact⟨a,b,c,d,e,f,O⟩
namespace Tw
open Sg45
inductive Jn (T:t1) (M:Nat) (x0:Place):Nat->Place->Prop
 |nil:Jn T M x0 0 x0
 |walk {n:Nat}{y z:Place}{w:Nat}:Jn T M x0 n y->go T M y (.walk w)=some z->Jn T M x0 n z
 |ride {n:Nat}{y z:Place}{p:Nat}{k:Int}{i j:Nat}:Jn T M x0 n y->go T M y (.ride p k i j)=some z->Jn T M x0 (n+1) z
theorem kQ:∀(l m:List Leg) (x:Place),be T M x (l++m)=(be T M x l).bind λy=>be T M y m
 |[],m,x=>rfl
 |a::l,m,x=>by
  show(match go T M x a with|some y=>be T M y (l++m)|none=>none)=_;show _=(match go T M x a with|some y=>be T M y l|none=>none).bind _;cases go T M x a with
  |none=>rfl
  |some y=>exact kQ l m y
theorem lq (l m:List Leg):rides (l++m)=rides l+rides m:=by
 simp[rides,ku]
theorem iV (w:Nat) (l:List Leg):rides (.walk w::l)=rides l:=by simp[rides]
theorem gp (p:Nat) (k:Int) (i j:Nat) (l:List Leg):rides (.ride p k i j::l)=rides l+1:=by simp[rides]
theorem LB:rides []=0:=rfl
theorem iM(x:Place) (a:Leg):be T M x [a]=go T M x a:=by
 show(match go T M x a with|some y=>be T M y []|none=>none)=_;cases go T M x a<;>rfl
theorem dj(h:be T M x (a::l)=some z):∃y,go T M x a=some y/\be T M y l=some z:=by(
have h':(match go T M x a with|some y=>be T M y l|none=>none)=some z:=h;cases e:go T M x a with
|none=>rw[e]at h';cases h'
|some y=>rw[e]at h';exact⟨y,O,h'⟩)
theorem gK(h:go T M x a=some y):be T M x (a::l)=be T M y l:=by
 show(match go T M x a with|some y=>be T M y l|none=>none)=_;rw[h]
theorem Hu(h:Jn T M x0 n y):∃l,be T M x0 l=some y/\rides l=n:=by(
induction h with
|nil=>exact⟨[],O,O⟩
|@walk n y z w _ g a=>
 obtain⟨l,h1,h2⟩:=a;refine⟨l++[.walk w],?_,?_⟩
 ·rw[kQ,h1];show be T M y [_]=_;rw[iM,g]
 ·rw[lq,h2];rfl
|@ride n y z p k i j _ g a=>
 obtain⟨l,h1,h2⟩:=a;refine⟨l++[.ride p k i j],?_,?_⟩
 ·rw[kQ,h1];show be T M y [_]=_;rw[iM,g]
 ·rw[lq,h2];rfl)
theorem uu:∀(l:List Leg) {x y:Place}{n:Nat},Jn T M x0 n x->be T M x l=some y->Jn T M x0 (n+rides l) y
 |[],x,y,n,h,f=>by cases f;exact h
 |.walk w::l,x,y,n,h,f=>by
  obtain⟨z,g,a⟩:=dj f;rw[iV];exact uu l (Jn.walk h g) a
 |.ride p k i j::l,x,y,n,h,f=>by
  obtain⟨z,g,a⟩:=dj f;rw[gp,show n+(rides l+1)=(n+1)+rides l by lia];exact uu l (Jn.ride h g) a
theorem Ip(f:be T M x0 l=some y):Jn T M x0 (rides l) y:=by(
have:=uu l (Jn.nil (T:=T) (M:=M) (x0:=x0)) f
rwa [sq]at this)
theorem aM:go T M x (.walk w)=some z↔∃y,T.walks[w]?=some y/\y.from_=x.halt/\x.way≠2/\z=⟨y.to,x.time+(y.minutes:Int),2⟩:=by(
simp only[go];cases T.walks[w]? with
|none=>simp
|some y=>
 simp only[hk];constructor
 ·intro h;split at h
  ·rename_i c;exact⟨y,O,c.1,c.2,(b2 h).symm⟩
  ·cases h
 ·rintro⟨a,rfl,h1,h2,rfl⟩;rw[No ⟨h1,h2⟩])
noncomputable def chg (T:t1) (x:Place):Int:=if x.way=1 then((T.stops.getD x.halt 0:Nat):Int)else 0
theorem bP:go T M x (.ride n k i j)=some z↔
  ∃p,T.trips[n]?=some p/\(-1<=k/\k<=1)/\p.runs M k=true/\i<j/\j<p.calls.length/\p.stopAt i=x.halt/\x.time+chg T x<=p.goes M k i/\z=⟨p.stopAt j,p.comes M k j,1⟩:=by(
simp only[go,chg];cases T.trips[n]? with
|none=>simp
|some p=>
 simp only[hk,within,ev,dL];constructor
 ·intro h;generalize e:(x.time+if x.way=1 then((T.stops.getD x.halt 0:Nat):Int)else 0)=d at h⊢;split at h
  ·rename_i c;obtain⟨⟨c1,c2,c3,c4,a⟩,b⟩:=c;exact⟨p,O,c1,c2,c3,c4,a,b,(b2 h).symm⟩
  ·cases h
 ·rintro⟨f,rfl,c1,c2,c3,c4,a,b,rfl⟩;rw[No ⟨⟨c1,c2,c3,c4,a⟩,b⟩])
theorem dr:(n,k,p)∈v4 T M↔T.trips[n]?=some p/\(-1<=k/\k<=1)/\p.runs M k=true:=by(
simp only[v4,fk,mo,f5];constructor
·rintro⟨⟨q,m⟩,g,i,⟨f,h⟩,e⟩;have a:=cM Prod.fst e;have b:=cM (λz=>z.2.1) e;have c:=cM (λz=>z.2.2) e;simp only at a b c;subst a b c;have:=ig.mp g;refine⟨this,?_,h⟩;simp at f;lia
·rintro⟨h1,h2,d⟩;refine⟨(p,n),ig.mpr h1,k,⟨?_,d⟩,O⟩;have:k= -1\/k=0\/k=1:=by lia
 rcases this with rfl|rfl|rfl<;>simp)
def ce (P:Int->Prop):Option Int->Prop
 |some x=>P x/\∀y,P y->x<=y
 |none=>∀y,¬P y
theorem ce.congr(h:ce P o) (e:∀x,P x↔Q x):ce Q o:=by(
have:P=Q:=funext λx=>propext (e x)
rwa [<- this])
theorem ce.uniq(h:ce P o) (h':ce P u):o=u:=by(
cases o with
|none=>cases u with
 |none=>rfl
 |some y=>exact absurd h'.1 (h y)
|some x=>cases u with
 |none=>exact absurd h.1 (h' x)
 |some y=>
  have h1:=h.2 y h'.1;have h2:=h'.2 x h.1;rw[show x=y by lia])
theorem ce.mkNone(h:∀x,¬P x):ce P none:=h
theorem ce.less {P Q:Int->Prop}{o u:Option Int}(h:ce P o) (h':ce Q u):ce (λx=>P x\/Q x) (less o u):=by(
cases o with
|none=>cases u with
 |none=>exact λy a=>a.elim (h y) (h' y)
 |some y=>exact⟨.inr h'.1,λz hz=>hz.elim (λq=>absurd q (h z)) (h'.2 z)⟩
|some x=>cases u with
 |none=>exact⟨.inl h.1,λz hz=>hz.elim (h.2 z) (λq=>absurd q (h' z))⟩
 |some y=>
  show(P (min x y)\/Q (min x y))/\∀z,P z\/Q z->min x y<=z;refine⟨?_,λz hz=>?_⟩
  ·by_cases e:x<=y
   ·rw[Int.min_eq_left e];exact .inl h.1
   ·rw[Int.min_eq_right (by lia)];exact .inr h'.1
  ·rcases hz with q|q
   ·have:=h.2 z q;lia
   ·have:=h'.2 z q;lia)
theorem ce.add(m:Int) (h:ce P (some x)):ce (λz=>∃y,P y/\z=y+m) (some (x+m)):=
 ⟨⟨x,h.1,O⟩,λz ⟨y,a,e⟩=>by have:=h.2 y a;lia⟩
theorem ce.yf(h:ce P o) (c g:Int):(o.any λy=>decide (y+c<=g))=true↔∃y,P y/\y+c<=g:=by(
cases o with
|none=>simp only[DR,fX,false_iff];rintro⟨y,a,_⟩;exact h y a
|some x=>
 simp only[DS,dL];constructor
 ·intro e;exact⟨x,h.1,e⟩
 ·rintro⟨y,a,e⟩;have:=h.2 y a;lia)
theorem ce.Fb(h:ce P o) (g:Int):(o.any λy=>decide (y<=g))=true↔∃y,P y/\y<=g:=by
 have:=h.yf 0 g;simp only[D3]at this;exact this
def an (N:Nat) (r:Row) (P:Nat->Int->Prop):Prop:=r.length=N/\∀s,s<N->ce (P s) (r.getD s none)
theorem an.congr(h:an N r P) (e:∀s,s<N->∀x,P s x↔Q s x):an N r Q:=
 ⟨h.1,λs a=>(h.2 s a).congr (e s a)⟩
theorem an.mkNone{b:Type}{l:List b}(a:l.length=N) (h:∀s x,¬P s x):an N (l.map λ_=>none) P:=by(
refine⟨by rw[FM,a],λs c=>?_⟩;have:((l.map λ_=>(none:Option Int)).getD s none)=none:=by
 rw[np,pr];cases l[s]?<;>rfl
rw[this];exact ce.mkNone (h s))
theorem K_ (r:Row) (s:Nat) (x:Int):(put r s x).length=r.length:=by simp[put]
theorem K9(a:s<r.length) (u:Nat):(put r s x).getD u none=if u=s then less (r.getD s none) (some x)else r.getD u none:=by(
simp only[put,np,Cu];by_cases e:u=s
·subst e;simp[a]
·simp[e,Ne.symm e])
theorem an.put {N:Nat}{r:Row}{P:Nat->Int->Prop}{s:Nat}{x:Int}{Q:Int->Prop}(h:an N r P) (b:s<N) (a:ce Q (some x)):an N (put r s x) (λu y=>P u y\/(u=s/\Q y)):=by(
refine⟨by rw[K_,h.1],λu hu=>?_⟩;rw[K9 (by rw[h.1];exact b)];by_cases e:u=s
·rw[No e];subst e;exact((h.2 u hu).less a).congr λy=>by simp
·rw[Ps e];exact(h.2 u hu).congr λy=>by simp[e])
def mu (W:List Walk) (P:Nat->Int->Prop) (s:Nat) (x:Int):Prop:=∃w,w∈W/\w.to=s/\∃y,P w.from_ y/\x=y+(w.minutes:Int)
theorem v5(hf:an N d P):∀(W:List Walk) (foot:Row) (Q:Nat->Int->Prop),(∀w,w∈W->w.from_<N/\w.to<N)->an N foot Q->
  an N (W.foldl (λ(r:Row) (w:Walk)=>match d.getD w.from_ none with
   |some x=>put r w.to (x+((w.minutes:Nat):Int))
   |none=>r) foot) (λs x=>Q s x\/mu W P s x)
 |[],foot,Q,_,h=>h.congr λs _ x=>by simp[mu]
 |w::W,foot,Q,hw,h=>by
  rw[dS];have f:=hw w (kw ..);have m:=hf.2 w.from_ f.1;cases e:d.getD w.from_ none with
  |none=>
   rw[e]at m;refine(v5 hf W foot Q (λu hu=>hw u (o0 _ hu)) h).congr λs _ x=>?_;constructor
   ·rintro(q|⟨u,hu,r⟩)
    ·exact .inl q
    ·exact .inr ⟨u,o0 _ hu,r⟩
   ·rintro(q|⟨u,hu,b,y,a,c⟩)
    ·exact .inl q
    ·rcases rs.mp hu with rfl|hu
     ·exact absurd a (m y)
     ·exact .inr ⟨u,hu,b,y,a,c⟩
  |some x0=>
   rw[e]at m;refine(v5 hf W _ _ (λu hu=>hw u (o0 _ hu)) (h.put f.2 (m.add (w.minutes:Int)))).congr λs _ x=>?_;constructor
   ·rintro((q|⟨b,y,a,c⟩)|⟨u,hu,r⟩)
    ·exact .inl q
    ·exact .inr ⟨w,kw ..,b.symm,y,a,c⟩
    ·exact .inr ⟨u,o0 _ hu,r⟩
   ·rintro(q|⟨u,hu,b,y,a,c⟩)
    ·exact .inl (.inl q)
    ·rcases rs.mp hu with rfl|hu
     ·exact .inl (.inr ⟨b.symm,y,a,c⟩)
     ·exact .inr ⟨u,hu,b,y,a,c⟩
def Bd (T:t1) (M:Nat) (F R:Nat->Int->Prop) (p:bu) (k:Int) (i:Nat):Prop:=
 (∃y,F (p.stopAt i) y/\y<=p.goes M k i)\/(∃y,R (p.stopAt i) y/\y+((T.stops.getD (p.stopAt i) 0:Nat):Int)<=p.goes M k i)
noncomputable def yF (T:t1) (M:Nat) (q:kl) (x:Nat×Int×bu) (s:Bool×Row) (i:Nat):Bool×Row:=
 let p:=x.2.2
 let at_:=p.stopAt i
 let b:=if s.1=true then put s.2 at_ (p.comes M x.2.1 i)else s.2
 let g:=p.goes M x.2.1 i
 let a:=s.1||((q.foot.getD at_ none).any λy=>decide (y<=g))||((q.train.getD at_ none).any λy=>decide (y+(((T.stops.getD at_ 0):Nat):Int)<=g))
 (a,b)
noncomputable def mL (T:t1) (M:Nat) (q:kl) (r:Row) (x:Nat×Int×bu):Row:=
 ((s4 x.2.2.calls.length).foldl (yF T M q x) (false,r)).2
theorem I0 (T:t1) (M:Nat) (bf:List (Nat×Int×bu)) (q:kl):
  nY T M bf q=⟨bf.foldl (mL T M q) (T.stops.map λ_=>none),xg T (bf.foldl (mL T M q) (T.stops.map λ_=>none)) (T.stops.map λ_=>none)⟩:=rfl
def f_ (T:t1) (M:Nat) (F R:Nat->Int->Prop) (x:Nat×Int×bu) (m:Nat) (s:Nat) (y:Int):Prop:=
 ∃i j,i<j/\j<m/\Bd T M F R x.2.2 x.2.1 i/\s=x.2.2.stopAt j/\y=x.2.2.comes M x.2.1 j
def tf (N:Nat) (p:bu):Prop:=∀i,i<p.calls.length->p.stopAt i<N
theorem yG(o:an T.stops.length q.foot F) (p:an T.stops.length q.train R) (u:tf T.stops.length x.2.2)
  (t:an T.stops.length r Q):∀m,m<=x.2.2.calls.length->
  ∃f g,(s4 m).foldl (yF T M q x) (false,r)=(f,g)/\(f=true↔∃i,i<m/\Bd T M F R x.2.2 x.2.1 i)/\an T.stops.length g (λs y=>Q s y\/f_ T M F R x m s y)
 |0,_=>⟨false,r,O,by simp,t.congr λs _ y=>by simp[f_]⟩
 |m+1,hm=>by
  obtain⟨f,g,e,h1,h2⟩:=yG o p u t m (by lia);rw[wo,oD,e,dS,List.foldl_nil];have n:=u m (by lia);refine⟨_,_,O,?_,?_⟩
  ·have a1:=(o.2 _ n).Fb (x.2.2.goes M x.2.1 m);have a2:=(p.2 _ n).yf ((T.stops.getD (x.2.2.stopAt m) 0:Nat):Int) (x.2.2.goes M x.2.1 m);show(f||_||_)=true↔_;rw[hj,hj,h1,a1,a2];constructor
   ·rintro((⟨i,hi,b⟩|b)|b)
    ·exact⟨i,by lia,b⟩
    ·exact⟨m,by lia,.inl b⟩
    ·exact⟨m,by lia,.inr b⟩
   ·rintro⟨i,hi,b⟩;by_cases w:i=m
    ·subst w;rcases b with b|b
     ·exact .inl (.inr b)
     ·exact .inr b
    ·exact .inl (.inl ⟨i,by lia,b⟩)
  ·show an _ (if f=true then put g (x.2.2.stopAt m) (x.2.2.comes M x.2.1 m)else g) _;by_cases h:f=true
   ·rw[No h];have A:ce (λy=>y=x.2.2.comes M x.2.1 m) (some (x.2.2.comes M x.2.1 m)):=⟨O,λy C=>by lia⟩;refine(h2.put n A).congr λs _ y=>?_;constructor
    ·rintro((a|⟨i,j,a⟩)|⟨c,d⟩)
     ·exact .inl a
     ·exact .inr ⟨i,j,a.1,by lia,a.2.2⟩
     ·obtain⟨i,hi,b⟩:=h1.mp h;exact .inr ⟨i,m,hi,by lia,b,c,d⟩
    ·rintro(a|⟨i,j,k,z,b,c,d⟩)
     ·exact .inl (.inl a)
     ·by_cases l:j=m
      ·subst l;exact .inr ⟨c,d⟩
      ·exact .inl (.inr ⟨i,j,k,by lia,b,c,d⟩)
   ·rw[Ps h];refine h2.congr λs _ y=>?_;constructor
    ·rintro(a|⟨i,j,a⟩)
     ·exact .inl a
     ·exact .inr ⟨i,j,a.1,by lia,a.2.2⟩
    ·rintro(a|⟨i,j,k,z,b,c,d⟩)
     ·exact .inl a
     ·by_cases l:j=m
      ·subst l;exact absurd (h1.mpr ⟨i,k,b⟩) h
      ·exact .inr ⟨i,j,k,by lia,b,c,d⟩
theorem zq(b:an T.stops.length q.foot F) (c:an T.stops.length q.train R):∀(bf:List (Nat×Int×bu)) (r:Row) (Q:Nat->Int->Prop),(∀x,x∈bf->tf T.stops.length x.2.2)->an T.stops.length r Q->
  an T.stops.length (bf.foldl (mL T M q) r) (λs y=>Q s y\/∃x,x∈bf/\f_ T M F R x x.2.2.calls.length s y)
 |[],r,Q,_,h=>h.congr λs _ y=>by simp
 |x::bf,r,Q,d,h=>by
  rw[dS];obtain⟨i,f,e,_,h2⟩:=yG b c (d x (kw ..)) h x.2.2.calls.length (tz _);have g:mL T M q r x=f:=by unfold mL;rw[e]
  rw[g];refine(zq b c bf f _ (λz hz=>d z (o0 _ hz)) h2).congr λs _ y=>?_;constructor
  ·rintro((a|a)|⟨z,hz,a⟩)
   ·exact .inl a
   ·exact .inr ⟨x,kw ..,a⟩
   ·exact .inr ⟨z,o0 _ hz,a⟩
  ·rintro(a|⟨z,hz,a⟩)
   ·exact .inl (.inl a)
   ·rcases rs.mp hz with rfl|hz
    ·exact .inl (.inr a)
    ·exact .inr ⟨z,hz,a⟩
theorem B2(hT:bw T) (hf:an T.stops.length a P) (h:an T.stops.length foot Q):an T.stops.length (xg T a foot) (λs x=>Q s x\/mu T.walks P s x):=
 v5 hf T.walks foot Q hT.2 h
theorem u5(hT:bw T) (a:p∈T.trips):tf T.stops.length p:=by
 intro i hi;have h:=hT.1 p a;simp only[eW,ev,hq,dL]at h;unfold Es;rw[np,g1 hi];exact(h.1 _ (eX hi)).1
theorem Hj(h:x∈v4 T M):x.2.2∈T.trips:=by
 obtain⟨n,k,p⟩:=x;exact pi (dr.mp h).1
theorem I4(hT:bw T) (a:an T.stops.length q.foot F) (b:an T.stops.length q.train R):
  an T.stops.length (nY T M (v4 T M) q).train (λs y=>∃x,x∈v4 T M/\f_ T M F R x x.2.2.calls.length s y)/\
  an T.stops.length (nY T M (v4 T M) q).foot (mu T.walks λs y=>∃x,x∈v4 T M/\f_ T M F R x x.2.2.calls.length s y):=by(
rw[I0];have h0:an T.stops.length (T.stops.map λ_=>none) (λ_ _=>False):=an.mkNone rfl (λ_ _ h=>h);have h1:=(zq (M:=M) a b (v4 T M) _ _ (λx c=>u5 hT (Hj c)) h0).congr (Q:=λs y=>∃x,x∈v4 T M/\f_ T M F R x x.2.2.calls.length s y) λs _ y=>by simp
exact⟨h1,(B2 hT h1 h0).congr λs _ x=>by simp⟩)
def hB (T:t1) (M:Nat) (x0:Place) (n:Nat) (q:kl):Prop:=
 an T.stops.length q.train (λs y=>Jn T M x0 n ⟨s,y,1⟩)/\an T.stops.length q.foot (λs y=>Jn T M x0 n ⟨s,y,0⟩\/Jn T M x0 n ⟨s,y,2⟩)
theorem pb(h:Jn T M x0 n y):(n=0/\y=x0)\/y.way=1\/y.way=2:=by(
cases h with
|nil=>exact .inl ⟨O,O⟩
|walk _ g=>obtain⟨_,_,_,_,rfl⟩:=aM.mp g;exact .inr (.inr rfl)
|ride _ g=>obtain⟨_,_,_,_,_,_,_,_,rfl⟩:=bP.mp g;exact .inr (.inl rfl))
section
variable {T:t1}{M a:Nat}{t:Int}
theorem zJ:¬Jn T M ⟨a,t,0⟩ 0 ⟨s,y,1⟩:=by(
intro h;cases h with
|walk _ g=>obtain⟨_,_,_,_,e⟩:=aM.mp g;cases e)
theorem Hx:Jn T M ⟨a,t,0⟩ 0 ⟨s,y,0⟩↔s=a/\y=t:=by(
constructor
·intro h;cases h with
 |nil=>exact⟨O,O⟩
 |walk _ g=>obtain⟨_,_,_,_,e⟩:=aM.mp g;cases e
·rintro⟨rfl,rfl⟩;exact .nil)
theorem zD:¬Jn T M ⟨a,t,0⟩ (n+1) ⟨s,y,0⟩:=by(
intro h;rcases pb h with⟨e,_⟩|e|e
·cases e
·cases e
·cases e)
theorem zH:Jn T M ⟨a,t,0⟩ n ⟨s,y,2⟩↔mu T.walks (λu z=>Jn T M ⟨a,t,0⟩ n ⟨u,z,0⟩\/Jn T M ⟨a,t,0⟩ n ⟨u,z,1⟩) s y:=by(
constructor
·intro h;cases h with
 |@walk _ z _ w h g=>
  obtain⟨wk,c,b,d,j⟩:=aM.mp g;injection j with k f _;refine⟨wk,pi c,k.symm,z.time,?_,f⟩;obtain⟨l,zt,m⟩:=z;simp only at b d f⊢;subst b;rcases pb h with⟨_,e⟩|e|e
  ·cases e;exact .inl h
  ·simp only at e;subst e;exact .inr h
  ·exact absurd e d
 |ride _ g=>obtain⟨_,_,_,_,_,_,_,_,e⟩:=bP.mp g;cases e
·rintro⟨w,hw,c,z,hz,b⟩;obtain⟨i,hi⟩:=fW.mp hw;rcases hz with hz|hz
 ·exact Jn.walk hz (aM.mpr ⟨w,hi,O,by simp,by rw[c,b]⟩)
 ·exact Jn.walk hz (aM.mpr ⟨w,hi,O,by simp,by rw[c,b]⟩))
theorem um:Jn T M ⟨a,t,0⟩ (n+1) ⟨s,y,1⟩↔∃x,x∈v4 T M/\f_ T M (λs y=>Jn T M ⟨a,t,0⟩ n ⟨s,y,0⟩\/Jn T M ⟨a,t,0⟩ n ⟨s,y,2⟩) (λs y=>Jn T M ⟨a,t,0⟩ n ⟨s,y,1⟩) x x.2.2.calls.length s y:=by(
constructor
·intro h;cases h with
 |walk _ g=>obtain⟨_,_,_,_,e⟩:=aM.mp g;cases e
 |@ride _ z _ p k i j h g=>
  obtain⟨tr,c,d,u,w,A,q,f,C⟩:=bP.mp g;injection C with D r _;refine⟨(p,k,tr),dr.mpr ⟨c,d,u⟩,i,j,w,A,?_,D,r⟩;obtain⟨H,zt,J⟩:=z;simp only[chg]at q f;subst q;unfold Bd;simp only;rcases pb h with⟨_,e⟩|e|e
  ·cases e;exact .inl ⟨_,.inl h,by simpa using f⟩
  ·simp only at e;subst e;exact .inr ⟨_,h,by simpa using f⟩
  ·simp only at e;subst e;exact .inl ⟨_,.inr h,by simpa using f⟩
·rintro⟨⟨p,k,tr⟩,E,i,j,h1,h2,b,c,d⟩;obtain⟨m,o,g3⟩:=dr.mp E;simp only at h2 b c d;rcases b with⟨z,hz|hz,l⟩|⟨z,hz,l⟩
 ·exact Jn.ride hz (bP.mpr ⟨tr,m,o,g3,h1,h2,O,by simpa [chg]using l,by rw[c,d]⟩)
 ·exact Jn.ride hz (bP.mpr ⟨tr,m,o,g3,h1,h2,O,by simpa [chg]using l,by rw[c,d]⟩)
 ·exact Jn.ride hz (bP.mpr ⟨tr,m,o,g3,h1,h2,O,by simpa [chg]using l,by rw[c,d]⟩))
theorem Mu (hT:bw T) (b:a<T.stops.length):hB T M ⟨a,t,0⟩ 0 (start T a t):=by(
have h0:∀P:Nat->Int->Prop,(∀s x,¬P s x)->an T.stops.length (T.stops.map λ_=>none) P:=λP h=>an.mkNone rfl h;have h1:an T.stops.length (put (T.stops.map λ_=>none) a t) (λs y=>Jn T M ⟨a,t,0⟩ 0 ⟨s,y,0⟩):=
 ((h0 (λ_ _=>False) (λ_ _ h=>h)).put (Q:=λy=>y=t) b ⟨O,λy c=>by lia⟩).congr λs _ x=>by rw[Hx];simp
refine⟨h0 _ λs x=>zJ,?_⟩;show an _ (xg T _ _) _;refine(B2 hT h1 h1).congr λs _ x=>?_;rw[zH];have:(λu z=>Jn T M ⟨a,t,0⟩ 0 ⟨u,z,0⟩\/Jn T M ⟨a,t,0⟩ 0 ⟨u,z,1⟩)=(λu z=>Jn T M ⟨a,t,0⟩ 0 ⟨u,z,0⟩):=by
 funext u z;exact propext ⟨λh=>h.elim id (λh=>absurd h zJ),.inl⟩
rw[this])
theorem I3(hT:bw T) (h:hB T M ⟨a,t,0⟩ n q):hB T M ⟨a,t,0⟩ (n+1) (nY T M (v4 T M) q):=by(
obtain⟨h1,h2⟩:=I4 (M:=M) hT h.2 h.1;refine⟨h1.congr λs _ y=>um.symm,h2.congr λs _ y=>?_⟩;have:(λu z=>Jn T M ⟨a,t,0⟩ (n+1) ⟨u,z,0⟩\/Jn T M ⟨a,t,0⟩ (n+1) ⟨u,z,1⟩)=(λs y=>∃x,x∈v4 T M/\f_ T M (λs y=>Jn T M ⟨a,t,0⟩ n ⟨s,y,0⟩\/Jn T M ⟨a,t,0⟩ n ⟨s,y,2⟩) (λs y=>Jn T M ⟨a,t,0⟩ n ⟨s,y,1⟩) x x.2.2.calls.length s y):=by
 funext u z;exact propext ⟨λh=>h.elim (λh=>absurd h zD) um.mp,λh=>.inr (um.mpr h)⟩
rw[zH,this];constructor
·exact .inr
·rintro(h|h)
 ·exact absurd h zD
 ·exact h)
theorem Ht(hT:bw T) (b:a<T.stops.length) (h:Jn T M ⟨a,t,0⟩ n y):y.halt<T.stops.length:=by(
cases h with
|nil=>exact b
|walk _ g=>obtain⟨w,e,_,_,rfl⟩:=aM.mp g;exact(hT.2 w (pi e)).2
|ride _ g=>obtain⟨p,e,_,_,_,c,_,_,rfl⟩:=bP.mp g;exact u5 hT (pi e) _ c)
theorem Hv(h:Jn T M ⟨a,t,0⟩ n y):∀m,m<=n->∃z,Jn T M ⟨a,t,0⟩ m z:=by(
induction h with
|nil=>intro m hm;rw[show m=0 by lia];exact⟨_,.nil⟩
|walk _ _ b=>exact b
|@ride n _ _ _ _ _ _ h g b=>
 intro m hm;by_cases e:m=n+1
 ·subst e;exact⟨_,Jn.ride h g⟩
 ·exact b m (by lia))
def ap (T:t1) (M a:Nat) (t:Int) (n s:Nat) (y:Int):Prop:=∃w,Jn T M ⟨a,t,0⟩ n ⟨s,y,w⟩
theorem BI:ap T M a t n s y↔Jn T M ⟨a,t,0⟩ n ⟨s,y,1⟩\/(Jn T M ⟨a,t,0⟩ n ⟨s,y,0⟩\/Jn T M ⟨a,t,0⟩ n ⟨s,y,2⟩):=by(
constructor
·rintro⟨w,h⟩;rcases pb h with⟨e,b⟩|e|e
 ·injection b with d f c;subst c;exact .inr (.inl h)
 ·simp only at e;subst e;exact .inl h
 ·simp only at e;subst e;exact .inr (.inr h)
·rintro(h|h|h)<;>exact⟨_,h⟩)
def rowOf (q:kl):Row:=(q.train.zip q.foot).map λx=>less x.1 x.2
theorem hB.row(h:hB T M ⟨a,t,0⟩ n q):an T.stops.length (rowOf q) (ap T M a t n):=by(
refine⟨by simp[rowOf,h.1.1,h.2.1],λs b=>?_⟩;have e:(rowOf q).getD s none=less (q.train.getD s none) (q.foot.getD s none):=by
 have c:s<q.train.length:=by rw[h.1.1];exact b
 have d:s<q.foot.length:=by rw[h.2.1];exact b
 simp[rowOf,np,pr,List.getElem?_zip_eq_some,g1 c,g1 d,List.getElem?_zipWith,List.zip]
rw[e];exact((h.1.2 s b).less (h.2.2 s b)).congr λy=>BI.symm)
theorem hB.empty(hT:bw T) (i:a<T.stops.length) (h:hB T M ⟨a,t,0⟩ n q) (e:(q.train++q.foot).all (λx=>x.isNone)=true):∀m y,n<=m->¬Jn T M ⟨a,t,0⟩ m y:=by(
have h0:∀y,¬Jn T M ⟨a,t,0⟩ n y:=by
 rintro⟨s,y,w⟩ b;have c:=Ht hT i b;simp only at c;rw[hq]at e;have nn:∀r:Row,r.length=T.stops.length->(∀x,x∈r->x∈q.train++q.foot)->r.getD s none=none:=by
  intro r j hm;have g:s<r.length:=by rw[j];exact c
  rw[np,g1 g];have:=e _ (hm _ (eX g));simpa using this
 have m1:=h.1.2 s c;have m2:=h.2.2 s c;rw[nn q.train h.1.1 λx f=>gx _ f]at m1;rw[nn q.foot h.2.1 λx f=>fY _ f]at m2;rcases BI.mp ⟨w,b⟩with d|d
 ·exact m1 y d
 ·exact m2 y d
intro m y hm b;obtain⟨z,hz⟩:=Hv b n hm;exact h0 z hz)
theorem AZ (hT:bw T) (b:a<T.stops.length):∀(most n:Nat) (q:kl),hB T M ⟨a,t,0⟩ n q->0<(ec T M (v4 T M) most q).length/\(ec T M (v4 T M) most q).length<=most+1/\
  (∀i r,(ec T M (v4 T M) most q)[i]?=some r->hB T M ⟨a,t,0⟩ (n+i) r)/\
  ((ec T M (v4 T M) most q).length<=most->∀m y,n+(ec T M (v4 T M) most q).length<=m->¬Jn T M ⟨a,t,0⟩ m y)
 |0,n,q,h=>by
  refine⟨by simp[ec],by simp[ec],?_,by simp[ec]⟩;intro i r hi;cases i with
  |zero=>simp[ec]at hi;subst hi;exact h
  |succ i=>simp[ec]at hi
 |most+1,n,q,h=>by
  unfold ec;split
  ·rename_i e;refine⟨by simp,by simp,?_,?_⟩
   ·intro i r hi;cases i with
    |zero=>simp at hi;subst hi;exact h
    |succ i=>simp at hi
   ·intro _ m y hm;exact h.empty hT b e m y (by lia)
  ·obtain⟨h1,h2,c,d⟩:=AZ hT b most (n+1) _ (I3 hT h);refine⟨by simp,by simp only[bt];lia,?_,?_⟩
   ·intro i r hi;cases i with
    |zero=>simp at hi;subst hi;exact h
    |succ i=>
     have:=c i r (by simpa using hi)
     rwa [show n+1+i=n+(i+1) by lia]at this
   ·simp only[bt];intro f m y hm;exact d (by lia) m y (by lia)
theorem oR (hT:bw T) (c:a<T.stops.length) (most:Nat):
  (aE T M a t most).length<=most+1/\
  (∀n r,(aE T M a t most)[n]?=some r->an T.stops.length r (ap T M a t n))/\
  (∀n s y,n<=most->(aE T M a t most).length<=n->¬ap T M a t n s y):=by(
obtain⟨_,h2,d,f⟩:=AZ (T:=T) (M:=M) (a:=a) (t:=t) hT c most 0 _ (Mu hT c);have h:(aE T M a t most).length=(ec T M (v4 T M) most (start T a t)).length:=by simp[aE]
refine⟨by lia,?_,?_⟩
·intro n r b;unfold aE at b;rw[pr]at b;cases e:(ec T M (v4 T M) most (start T a t))[n]? with
 |none=>rw[e]at b;cases b
 |some q=>
  rw[e]at b;have:=d n q e;rw[sq]at this;cases b;exact this.row
·rintro n s y j i ⟨w,g⟩;exact f (by lia) n _ (by lia) g)
end
theorem AD {c:Type}(D:c->Nat->Prop) (b:∀z i j,D z i->D z j->i=j):∀(n:Nat) (A:List c),(∀i,1<=i->i<=n->∃z,z∈A/\D z i)->n<=A.length
 |0,_,_=>f4 _
 |n+1,A,h=>by
  classical
  obtain⟨z,hz,d⟩:=h (n+1) (by lia) (tz _);have h1:(A.filter λy=>decide (¬D y (n+1))).length<A.length:=
   List.length_filter_lt_length_iff_exists.mpr ⟨z,hz,by simpa using d⟩
  have h2:=AD D b n (A.filter λy=>decide (¬D y (n+1))) λi hi f=>by
   obtain⟨y,e,a⟩:=h i hi (by lia);refine⟨y,f5.mpr ⟨e,?_⟩,a⟩;simp only[dL];intro q;have:=b y _ _ a q;lia
  lia
noncomputable def m5 (T:t1) (M:Nat):List Place:=(v4 T M).flatMap λx=>(s4 x.2.2.calls.length).map λj=>⟨x.2.2.stopAt j,x.2.2.comes M x.2.1 j,1⟩
theorem Jg (T:t1) (M:Nat):(m5 T M).length+1=aJ T M:=by
 unfold m5 aJ;rw[wc];simp
theorem GL {P:Nat->Prop}:∀n,P n->∃m,m<=n/\P m/\∀i,i<m->¬P i:=by(
intro n
induction n using Nat.strongRecOn with
|_ n b=>
 intro h;by_cases e:∃i,i<n/\P i
 ·obtain⟨i,hi,a⟩:=e;obtain⟨m,hm,h1,h2⟩:=b i hi a;exact⟨m,by lia,h1,h2⟩
 ·exact⟨n,tz _,h,λi hi a=>e ⟨i,hi,a⟩⟩)
section
variable {T:t1}{M:Nat}{x0:Place}
theorem Lx(g:go T M y (.ride p k i j)=some z):z∈m5 T M:=by
 obtain⟨tr,a,b,c,e,d,f,h,rfl⟩:=bP.mp g;exact fk.mpr ⟨(p,k,tr),dr.mpr ⟨a,b,c⟩,mo.mpr ⟨j,bR.mpr d,O⟩⟩
theorem Hs(h:Jn T M x0 n y):(∀m,m<n->¬Jn T M x0 m y)->∀i,1<=i->i<=n->∃z,z∈m5 T M/\Jn T M x0 i z/\∀m,m<i->¬Jn T M x0 m z:=by(
induction h with
|nil=>intro _ i h1 h2;lia
|@walk n y z w h g c=>intro hm i h1 h2;exact c (λm d q=>hm m d (Jn.walk q g)) i h1 h2
|@ride n y z p k a b h g c=>
 intro hm i h1 h2;by_cases e:i=n+1
 ·subst e;exact⟨z,Lx g,Jn.ride h g,hm⟩
 ·exact c (λm d q=>hm (m+1) (by lia) (Jn.ride q g)) i h1 (by lia))
theorem Hw(h:Jn T M x0 n y):∃m,m<=n/\m<aJ T M/\Jn T M x0 m y:=by(
obtain⟨m,hm,h1,h2⟩:=GL (P:=λm=>Jn T M x0 m y) n h;refine⟨m,hm,?_,h1⟩;have:=AD (λ(z:Place) i=>Jn T M x0 i z/\∀m,m<i->¬Jn T M x0 m z) (λz i j hi a=>by
 rcases DB i j with q|q|q
 ·exact absurd hi.1 (a.2 i q)
 ·exact q
 ·exact absurd a.1 (hi.2 j q)) m (m5 T M) (Hs h1 h2)
have:=Jg T M;lia)
end
section
variable {T:t1}{M a:Nat}{t:Int}
theorem BK(h:ap T M a t n s y):∃m,m<=n/\m<aJ T M/\ap T M a t m s y:=by
 obtain⟨w,h⟩:=h;obtain⟨m,h1,h2,b⟩:=Hw h;exact⟨m,h1,h2,w,b⟩
noncomputable def arr (l:List Row) (s n:Nat):Option Int:=(l[n]?.getD []).getD s none
theorem yh(hT:bw T) (c:a<T.stops.length) (d:n<=most) (f:s<T.stops.length):ce (ap T M a t n s) (arr (aE T M a t most) s n):=by(
obtain⟨h1,h2,b⟩:=oR (T:=T) (M:=M) (a:=a) (t:=t) hT c most;unfold arr;cases e:(aE T M a t most)[n]? with
|none=>exact ce.mkNone λy=>b n s y d (sS.mp e)
|some r=>exact(h2 n r e).2 s f)
theorem yt:∀(l:List Row) (m:Option Int) (P:Int->Prop) (Q:Nat->Int->Prop),ce P m->(∀n,n<l.length->ce (Q n) (arr l s n))->ce (λx=>P x\/∃n,n<l.length/\Q n x) (l.foldl (λm r=>less m (r.getD s none)) m)
 |[],m,P,Q,h,_=>h.congr λx=>by simp
 |r::l,m,P,Q,h,c=>by
  rw[dS];have h0:ce (Q 0) (r.getD s none):=c 0 (by simp);refine(yt l _ _ (λn=>Q (n+1)) (h.less h0) (λn b=>c (n+1) (by simp;lia))).congr λx=>?_;constructor
  ·rintro((q|q)|⟨n,b,q⟩)
   ·exact .inl q
   ·exact .inr ⟨0,by simp,q⟩
   ·exact .inr ⟨n+1,by simp;lia,q⟩
  ·rintro(q|⟨n,b,q⟩)
   ·exact .inl (.inl q)
   ·cases n with
    |zero=>exact .inl (.inr q)
    |succ n=>exact .inr ⟨n,by simp at b;lia,q⟩
theorem oV(hT:bw T) (b:a<T.stops.length) (f:s<T.stops.length):ce (λx=>∃n,ap T M a t n s x) (lY (aE T M a t (aJ T M)) s):=by(
obtain⟨h1,h2,d⟩:=oR (T:=T) (M:=M) (a:=a) (t:=t) hT b (aJ T M);refine(yt (s:=s) (aE T M a t (aJ T M)) none (λ_=>False) (λn=>ap T M a t n s) (λy h=>h) (λn g=>yh hT b (by lia) f)).congr λx=>?_;constructor
·rintro(q|⟨n,_,q⟩)
 ·exact q.elim
 ·exact⟨n,q⟩
·rintro⟨n,q⟩;obtain⟨m,_,hm,c⟩:=BK q;refine .inr ⟨m,?_,c⟩;by_cases e:m<(aE T M a t (aJ T M)).length
 ·exact e
 ·exact absurd c (d m s x (by lia) (by lia)))
def eg (P:Nat->Prop):Option Nat->Prop
 |some n=>P n/\∀i,i<n->¬P i
 |none=>∀n,¬P n
theorem eg.uniq(h:eg P o) (h':eg P u):o=u:=by(
cases o with
|none=>cases u with
 |none=>rfl
 |some y=>exact absurd h'.1 (h y)
|some x=>cases u with
 |none=>exact absurd h.1 (h' x)
 |some y=>
  rcases DB x y with q|q|q
  ·exact absurd h.1 (h'.2 x q)
  ·rw[q]
  ·exact absurd h'.1 (h.2 y q))
theorem eg.congr(h:eg P o) (e:∀x,P x↔Q x):eg Q o:=by(
have:P=Q:=funext λx=>propext (e x)
rwa [<- this])
theorem GG (l:List Row) (s:Nat) (ok:Int->Bool):eg (λn=>(arr l s n).any ok=true) (gw l s ok):=by(
unfold gw;cases e:l.findIdx? (λr=>(r.getD s none).any ok)with
|none=>
 rw[List.findIdx?_eq_none_iff]at e;intro n b;unfold arr at b;cases c:l[n]? with
 |none=>rw[c]at b;simp at b
 |some r=>
  rw[c]at b;have:=e r (pi c);rw[show(Option.getD (some r) [])=r from rfl]at b;rw[b]at this;cases this
|some n=>
 rw[Ey]at e;obtain⟨b,h1,h2⟩:=e;refine⟨?_,?_⟩
 ·show((l[n]?.getD []).getD s none).any ok=true;rw[g1 b];exact h1
 ·intro i hi h;have d:=h2 i hi;unfold arr at h;rw[g1 (by lia)]at h;exact d h)
theorem y7(hT:bw T) (d:a<T.stops.length) (k:s<T.stops.length) (ag:∀n x y,ap T M a t n s x->ap T M a t n s y->y<=x->ok x=true->ok y=true):
  eg (λn=>∃x,ap T M a t n s x/\ok x=true) (gw (aE T M a t (aJ T M)) s ok):=by(
obtain⟨h1,h2,p⟩:=oR (T:=T) (M:=M) (a:=a) (t:=t) hT d (aJ T M);have key:∀n,n<=aJ T M->((arr (aE T M a t (aJ T M)) s n).any ok=true↔∃x,ap T M a t n s x/\ok x=true):=by
 intro n j;have m:=yh (M:=M) (t:=t) hT d j k;cases e:arr (aE T M a t (aJ T M)) s n with
 |none=>rw[e]at m;simp only[DR,fX,false_iff];rintro⟨x,b,_⟩;exact m x b
 |some x=>
  rw[e]at m;simp only[DS];exact⟨λo=>⟨x,m.1,o⟩,λ⟨y,g,o⟩=>ag n y x g m.1 (m.2 y g) o⟩
have lt:∀n,(arr (aE T M a t (aJ T M)) s n).any ok=true->n<=aJ T M:=by
 intro n h;unfold arr at h;cases c:(aE T M a t (aJ T M))[n]? with
 |none=>rw[c]at h;simp at h
 |some r=>
  have:=(aD.mp c).1;lia
have f:=GG (aE T M a t (aJ T M)) s ok;cases e:gw (aE T M a t (aJ T M)) s ok with
|none=>
 rw[e]at f;rintro n ⟨x,b,o⟩;obtain⟨m,_,hm,l⟩:=BK b;exact f m ((key m (by lia)).mpr ⟨x,l,o⟩)
|some n=>
 rw[e]at f;refine⟨(key n (lt n f.1)).mp f.1,λi hi q=>f.2 i hi ((key i ?_).mpr q)⟩;have:=lt n f.1;lia)
theorem F5(hT:bw T) (c:a<T.stops.length) (d:b<T.stops.length) (h1:ce (λx=>∃n,ap T M a t n b x) (some x)) (h2:eg (λn=>ap T M a t n b x) (some r)):ja T M a b t=some (x,r):=by(
have e:=(oV (M:=M) (t:=t) hT c d).uniq h1;have f:gw (aE T M a t (aJ T M)) b (λy=>y==x)=some r:=by
 refine eg.uniq ((y7 (M:=M) (t:=t) hT c d ?_).congr λn=>?_) h2
 ·intro n y z _ hz g o;simp only[gu]at o⊢;have:=h1.2 z ⟨n,hz⟩;lia
 ·simp
unfold ja;simp only[e,sA,f,ih])
theorem F4(hT:bw T) (d:a<T.stops.length) (e:b<T.stops.length) (h1:ce (λx=>∃n,ap T M a t n b x) none):ja T M a b t=none:=by
 have c:=(oV (M:=M) (t:=t) hT d e).uniq h1;unfold ja;simp only[c,Option.bind_none]
end
theorem Nn {a:Type}(l:List a) (i:Nat) (h:i+1<l.length):(l[i],l[i+1])∈l.zip l.tail:=by
 rw[Cn];refine⟨i,by simp;lia,by simp⟩
section
variable {T:t1}
theorem tP(hT:bw T) (a:p∈T.trips):∀d i,i+d+1<p.calls.length->(p.calls.getD i ⟨0,0,0⟩).goes<=(p.calls.getD (i+d+1) ⟨0,0,0⟩).comes
 |0,i,h=>by
  have h1:=hT.1 p a;simp only[eW,ev,hq,dL]at h1;have:=h1.2 _ (Nn p.calls i h);simpa [np,g1 h,g1 (show i<p.calls.length by lia)]using this
 |d+1,i,h=>by
  have a1:=tP hT a d i (by lia);have a2:=tP hT a 0 (i+d+1) (by lia);have h1:=hT.1 p a;simp only[eW,ev,hq,dL]at h1;have a3:=(h1.1 _ (eX (show i+d+1<p.calls.length by lia))).2.1;have e:p.calls.getD (i+d+1) ⟨0,0,0⟩=p.calls[i+d+1]'(by lia):=by
   rw[np,g1 (by lia)];rfl
  rw[show i+(d+1)+1=i+d+1+0+1 by lia];rw[e]at a1 a2;lia
theorem uc(hT:bw T) (a:p∈T.trips) (M:Nat) (k:Int) (h:i<j) (b:j<p.calls.length):p.goes M k i<=p.comes M k j:=by
 have:=tP hT a (j-i-1) i (by lia);rw[show i+(j-i-1)+1=j by lia]at this;unfold xW xV;split<;>split<;>lia
theorem yP (T:t1) (x:Place):0<=chg T x:=by unfold chg;split<;>lia
theorem G5(hT:bw T) (h:go T M x a=some y):x.time<=y.time:=by(
cases a with
|walk w=>obtain⟨wk,_,_,_,rfl⟩:=aM.mp h;show x.time<=x.time+_;lia
|ride n k i j=>
 obtain⟨p,b,_,_,c,d,_,e,rfl⟩:=bP.mp h;have:=uc hT (pi b) M k c d;have:=yP T x;show x.time<=p.comes M k j;lia)
theorem kR(hT:bw T) :∀(l:List Leg) {x y:Place},be T M x l=some y->x.time<=y.time
 |[],x,y,h=>by cases h;exact fj _
 |a::l,x,y,h=>by
  obtain⟨z,g,f⟩:=dj h;have:=G5 hT g;have:=kR hT l f;lia
theorem iY:ap T M a t n s y↔∃l w,be T M ⟨a,t,0⟩ l=some ⟨s,y,w⟩/\rides l=n:=by(
constructor
·rintro⟨w,h⟩;obtain⟨l,h1,h2⟩:=Hu h;exact⟨l,w,h1,h2⟩
·rintro⟨l,w,h1,rfl⟩;exact⟨w,Ip h1⟩)
theorem pA:u∈xb T M a b g↔u<=g/\((a=b/\u=g)\/(∃w,w∈T.walks/\w.from_=a/\w.to=b/\u=g-(w.minutes:Int))\/
  ∃x,x∈v4 T M/\∃i,i<x.2.2.calls.length/\((x.2.2.stopAt i=a/\u=x.2.2.goes M x.2.1 i)\/∃w,w∈T.walks/\w.from_=a/\w.to=x.2.2.stopAt i/\u=x.2.2.goes M x.2.1 i-(w.minutes:Int))):=by(
unfold xb;simp only[f5,dL,cs,mo,fk,bR,ev,gu,rs];constructor
·rintro⟨h,hu⟩;refine⟨hu,?_⟩;rcases h with(h|⟨w,⟨h1,h2,c⟩,d⟩)|⟨x,f,i,hi,z,⟨hz,k⟩,e⟩
 ·split at h
  ·rename_i e;simp at h;exact .inl ⟨e,h⟩
  ·simp at h
 ·exact .inr (.inl ⟨w,h1,h2,c,d.symm⟩)
 ·refine .inr (.inr ⟨x,f,i,hi,?_⟩);rcases hz with rfl|⟨w,⟨hw,j⟩,rfl⟩
  ·exact .inl ⟨k.symm,by simp at e;lia⟩
  ·exact .inr ⟨w,hw,j,k,e.symm⟩
·rintro⟨hu,h⟩;refine⟨?_,hu⟩;rcases h with⟨e,h⟩|⟨w,h1,h2,c,d⟩|⟨x,f,i,hi,⟨j,l⟩|⟨w,h1,h2,c,d⟩⟩
 ·rw[No e];exact .inl (.inl (by simp[h]))
 ·exact .inl (.inr ⟨w,⟨h1,h2,c⟩,d.symm⟩)
 ·exact .inr ⟨x,f,i,hi,(a,0),⟨.inl rfl,j.symm⟩,by simp[l]⟩
 ·exact .inr ⟨x,f,i,hi,(w.to,(w.minutes:Int)),⟨.inr ⟨w,⟨h1,h2⟩,O⟩,c⟩,d.symm⟩)
theorem leaving(hT:bw T) (h:ap T M a u n b x) (E:x<=o):∃H L,H∈xb T M a b o/\u<=H/\ap T M a H n b L/\L<=o:=by(
obtain⟨l,w,f,c⟩:=iY.mp h
match l,f,c with
|[],f,c=>
 cases f;refine⟨o,o,pA.mpr ⟨fj _,.inl ⟨O,O⟩⟩,E,iY.mpr ⟨[],0,O,c⟩,fj _⟩
|[.walk v],f,c=>
 rw[iM]at f;obtain⟨wk,D,m,N,Q⟩:=aM.mp f;injection Q with J U Y;simp only at m U;refine⟨o-(wk.minutes:Int),o,pA.mpr ⟨by lia,.inr (.inl ⟨wk,pi D,m,J.symm,O⟩)⟩,by lia,iY.mpr ⟨[.walk v],2,?_,c⟩,fj _⟩;rw[iM];refine aM.mpr ⟨wk,D,m,by simp,?_⟩;rw[J];simp
|.walk v:: .walk OH::l,f,c=>
 obtain⟨y,g,f⟩:=dj f;obtain⟨z,g',f⟩:=dj f;obtain⟨_,_,_,_,rfl⟩:=aM.mp g;obtain⟨_,_,_,q,_⟩:=aM.mp g';exact absurd rfl q
|.walk v:: .ride p k i j::l,f,c=>
 obtain⟨y,g,f⟩:=dj f;obtain⟨z,g',f⟩:=dj f;obtain⟨wk,D,m,N,rfl⟩:=aM.mp g;obtain⟨tr,d,s,t,A,C,e,r,rfl⟩:=bP.mp g';simp only[chg]at m e r;simp at r;have m1:=uc hT (pi d) M k A C;have m2:=kR hT l f;simp only at m2;refine⟨tr.goes M k i-(wk.minutes:Int),x,pA.mpr ⟨by lia,.inr (.inr ⟨(p,k,tr),dr.mpr ⟨d,s,t⟩,i,by simp;lia,.inr ⟨wk,pi D,m,e.symm,O⟩⟩)⟩,by lia,iY.mpr ⟨.walk v:: .ride p k i j::l,w,?_,c⟩,E⟩;rw[gK (aM.mpr ⟨wk,D,m,by simp,O⟩)];rw[gK (bP.mpr ⟨tr,d,s,t,A,C,e,by simp[chg],O⟩)];exact f
|.ride p k i j::l,f,c=>
 obtain⟨z,g',f⟩:=dj f;obtain⟨tr,d,s,t,A,C,e,r,rfl⟩:=bP.mp g';simp only[chg]at e r;simp at r;have m1:=uc hT (pi d) M k A C;have m2:=kR hT l f;simp only at m2;refine⟨tr.goes M k i,x,pA.mpr ⟨by lia,.inr (.inr ⟨(p,k,tr),dr.mpr ⟨d,s,t⟩,i,by simp;lia,.inl ⟨e,O⟩⟩)⟩,r,iY.mpr ⟨.ride p k i j::l,w,?_,c⟩,E⟩;rw[gK (bP.mpr ⟨tr,d,s,t,A,C,e,by simp[chg],O⟩)];exact f)
theorem y_{b:Type}{f:Int->Option b}{y:b}(hu:f u=some y) (hm:∀v,u<v->f v=none):∀l:List Int,l.Pairwise (λx y=>y<=x)->u∈l->l.findSome? f=some y
 |[],_,h=>by simp at h
 |x::l,a,h=>by
  rw[oA]at a;rw[oy];cases e:f x with
  |none=>
   rcases rs.mp h with rfl|h
   ·rw[hu]at e;cases e
   ·exact y_ hu hm l a.2 h
  |some z=>
   have:x=u:=by
    rcases rs.mp h with rfl|h
    ·rfl
    ·have:=a.1 u h;by_cases q:u<x
     ·rw[hm x q]at e;cases e
     ·lia
   subst this;rw[hu]at e;exact e.symm
theorem GK {a d:Type}{f:a->Option d}(l:List a) (h:∀x,x∈l->f x=none):l.findSome? f=none:=by(
induction l with
|nil=>rfl
|cons x l c=>rw[oy,h x (kw ..)];exact c λy b=>h y (o0 _ b))
theorem Mr (l:List Int):(l.mergeSort λx y=>decide (y<=x)).Pairwise (λx y=>y<=x):=by
 have:=Cf (le:=λx y:Int=>decide (y<=x)) (λa b c=>by simp;lia) (λa b=>by simp;lia) l;exact this.imp λh=>by simpa using h
theorem tW(hT:bw T) (d:a<T.stops.length) (e:b<T.stops.length) (u c:Int):
  eg (λn=>∃x,ap T M a u n b x/\x<=c) (gw (aE T M a u (aJ T M)) b λx=>decide (x<=c)):=
 (y7 (M:=M) (t:=u) hT d e (ok:=λx=>decide (x<=c)) (λn x y _ _ f o=>by simp at o ⊢;lia)).congr λn=>by simp
theorem Ih(hT:bw T) (g:a<T.stops.length) (h:b<T.stops.length) (h1:eg (λn=>∃x,ap T M a u n b x/\x<=c) (some r)) (h2:∀v n x,u<v->ap T M a v n b x->c<x):lX T M a b c=some (u,r):=by(
have hf:(gw (aE T M a u (aJ T M)) b λx=>decide (x<=c))=some r:=(tW hT g h u c).uniq h1;have j:∀v,u<v->(gw (aE T M a v (aJ T M)) b λx=>decide (x<=c))=none:=λv hv=>
 (tW hT g h v c).uniq (u:=none) λn ⟨x,d,i⟩=>by have:=h2 v n x hv d;lia
obtain⟨x,d,i⟩:=h1.1;obtain⟨e,l,hm,hu,k,m⟩:=leaving hT d i;have:e=u:=by
 by_cases q:u<e
 ·have:=h2 e r l q k;lia
 ·lia
subst this;unfold lX;exact y_ (f:=λv=>(gw (aE T M a v (aJ T M)) b λx=>decide (x<=c)).map λr=>(v,r)) (by rw[hf];rfl) (λv hv=>by rw[j v hv];rfl) _ (Mr _) (Cr.mpr hm))
theorem Ig(hT:bw T) (d:a<T.stops.length) (e:b<T.stops.length) (h2:∀v n x,ap T M a v n b x->c<x):lX T M a b c=none:=by(
unfold lX;refine GK _ λv _=>?_;have:(gw (aE T M a v (aJ T M)) b λx=>decide (x<=c))=none:=
 (tW hT d e v c).uniq (u:=none) λn ⟨x,f,g⟩=>by have:=h2 v n x f;lia
rw[this];rfl)
end
theorem oT:∀l,ci l l=false
 |[]=>rfl
 |x::l=>by simp[ci,oT l]
theorem tD:∀ {a b c:List Int},ci a b=true->ci b c=true->ci a c=true
 |[],_,[],h1,h2=>by
  rename_i b;cases b<;>simp[ci]at h1 h2
 |[],_,_::_,_,_=>rfl
 |_::_,[],_,h1,_=>by simp[ci]at h1
 |_::_,_::_,[],_,h2=>by simp[ci]at h2
 |x::a,y::b,z::c,h1,h2=>by
  simp only[ci,hj,ev,dL]at h1 h2⊢;rcases h1 with h1|⟨d,h1⟩<;>rcases h2 with h2|⟨e,h2⟩
  ·left;lia
  ·left;lia
  ·left;lia
  ·exact .inr ⟨by lia,tD h1 h2⟩
theorem tw:∀(a b:List Int),ci a b=true\/a=b\/ci b a=true
 |[],[]=>.inr (.inl rfl)
 |[],_::_=>.inl rfl
 |_::_,[]=>.inr (.inr rfl)
 |x::a,y::b=>by
  simp only[ci,hj,ev,dL,kq];rcases Int.lt_trichotomy x y with h|h|h
  ·exact .inl (.inl h)
  ·rcases tw a b with q|q|q
   ·exact .inl (.inr ⟨h,q⟩)
   ·exact .inr (.inl ⟨h,q⟩)
   ·exact .inr (.inr (.inr ⟨h.symm,q⟩))
  ·exact .inr (.inr (.inl h))
theorem yq(h:ci a b=true):ci b a=false:=by(
cases e:ci b a with
|false=>rfl
|true=>have:=tD h e;rw[oT]at this;cases this)
theorem tu:∀(p l m:List Int),ci (p++l) (p++m)=ci l m
 |[],_,_=>rfl
 |x::p,l,m=>by simp[ci,tu p l m]
def c6 (a b:List Int):Prop:=a=b\/ci a b=true
theorem A1(h:c6 a b) (h':c6 b a):a=b:=by(
rcases h with h|h
·exact h
·rcases h' with h'|h'
 ·exact h'.symm
 ·rw[yq h]at h';cases h')
theorem A2(h:c6 l m):c6 (p++l) (p++m):=by(
rcases h with rfl|h
·exact .inl rfl
·exact .inr (by rw[tu];exact h))
theorem jQ:(!ci b a)=true↔c6 a b:=by(
constructor
·intro h;rcases tw a b with q|q|q
 ·exact .inr q
 ·exact .inl q
 ·rw[q]at h;cases h
·rintro(rfl|h)
 ·rw[oT];rfl
 ·rw[yq h];rfl)
theorem LD(h:c6 a b) (h':c6 b c):c6 a c:=by(
rcases h with rfl|h
·exact h'
·rcases h' with rfl|h'
 ·exact .inr h
 ·exact .inr (tD h h'))
theorem LC (a b:List Int):c6 a b\/c6 b a:=by(
rcases tw a b with q|q|q
·exact .inl (.inr q)
·exact .inl (.inl q)
·exact .inr (.inr q))
theorem Ms (l:List (List Int)):(l.mergeSort λa b=>!ci b a).Pairwise c6:=by(
have:=Cf (le:=λa b:List Int=>!ci b a) (λa b c h1 h2=>jQ.mpr (LD (jQ.mp h1) (jQ.mp h2)))
 (λa b=>by rw[hj,jQ,jQ];exact LC a b) l
exact this.imp λh=>jQ.mp h)
theorem Bo {d:Type}{R:d->d->Prop}(f:∀a b,R a b->R b a->a=b):∀ {l m:List d},l.Perm m->l.Pairwise R->m.Pairwise R->l=m
 |[],m,p,_,_=>(List.nil_perm.mp p).symm
 |x::l,[],p,_,_=>absurd p.length_eq (by simp)
 |x::l,y::m,p,c,hm=>by
  rw[oA]at c hm;have e:x=y:=by
   have h1:x∈y::m:=p.mem_iff.mp (kw ..);have h2:y∈x::l:=p.mem_iff.mpr (kw ..);rcases rs.mp h1 with h1|h1
   ·exact h1
   ·rcases rs.mp h2 with h2|h2
    ·exact h2.symm
    ·exact f x y (c.1 y h2) (hm.1 x h1)
  subst e;rw[Bo f (List.perm_cons x |>.mp p) c.2 hm.2]
noncomputable def ud (T:t1) (halt M:Nat) (t:Int):List (List Int):=T.trips.zipIdx.flatMap λ(x:bu×Nat)=>([-1,0,1]:List Int).flatMap λ(k:Int)=>if x.1.runs M k=false then []else
 (s4 (x.1.calls.length-1)).filterMap λ(i:Nat)=>if x.1.stopAt i=halt/\t<=x.1.goes M k i then some [x.1.goes M k i,((x.2:Nat):Int),k,((x.1.stopAt (x.1.calls.length-1):Nat):Int)]else none
theorem G7(c:l.Perm (ud T halt M t)) (d:l.Pairwise c6):sl T halt M t=l:=
 Bo (λa b=>A1) ((List.mergeSort_perm _ _).trans c.symm) (Ms _) d
def Ok (T:t1) (M b:Nat) (a:Int) (left:Nat) (x:Place) (m:List Leg):Prop:=(∃w,be T M x m=some ⟨b,a,w⟩)/\rides m=left
def mR:Leg->Leg->Prop
 |.walk w,.walk e=>w<e
 |.walk _,.ride _ _ _ _=>True
 |.ride n k i j,.ride c b a d=>n<c\/(n=c/\(k<b\/(k=b/\(i<a\/(i=a/\j<d)))))
 |.ride _ _ _ _,.walk _=>False
def b8 (left:Nat):Leg->Nat
 |.walk _=>left
 |.ride _ _ _ _=>left-1
noncomputable def hO (x:Place) (bf:List (Nat×Int×bu)):List Leg:=bf.flatMap λz=>(s4 z.2.2.calls.length).flatMap λi=>if z.2.2.stopAt i≠x.halt then []else
 (s4 z.2.2.calls.length).flatMap λj=>if j<=i then []else [Leg.ride z.1 z.2.1 i j]
noncomputable def cands (T:t1) (x:Place) (left:Nat) (bf:List (Nat×Int×bu)):List Leg:=(s4 T.walks.length).map Leg.walk++(if left=0 then []else hO x bf)
theorem o5 {a b c:Type}(f:b->Option c) (g:a->List b):∀l:List a,(l.flatMap g).findSome? f=l.findSome? λx=>(g x).findSome? f
 |[]=>rfl
 |x::l=>by
  rw[gA,Cj,o5 f g l,oy];cases(g x).findSome? f<;>rfl
section
variable {T:t1}{M:Nat}
theorem Me (b:Nat) (a:Int) (bf:List (Nat×Int×bu)) (fuel left:Nat) (x:Place):eD T M b a bf (fuel+1) left x=
  if x.halt=b/\x.time=a/\left=0 then some []else if a<x.time then none else(cands T x left bf).findSome? λl=>(go T M x l).bind λy=>(eD T M b a bf fuel (b8 left l) y).map λm=>l::m:=by(
conv=>lhs;unfold eD
split
·rfl
split
·rfl
unfold cands;rw[Cj,List.findSome?_map];have c:((λl=>(go T M x l).bind λy=>(eD T M b a bf fuel (b8 left l) y).map λm=>l::m)∘Leg.walk)=λw=>(go T M x (.walk w)).bind λy=>(eD T M b a bf fuel left y).map λm=>.walk w::m:=rfl;rw[c];dsimp only;cases(s4 T.walks.length).findSome? (λw=>(go T M x (.walk w)).bind λy=>(eD T M b a bf fuel left y).map λm=>Leg.walk w::m)with
|some l=>rfl
|none=>
 dsimp only;rw[Option.none_or];split
 ·rfl
 ·unfold hO;rw[o5]
  congr 1
  funext z;rw[o5]
  congr 1
  funext i;split
  ·rfl
  ·rw[o5]
   congr 1
   funext j;split
   ·rfl
   ·simp only[oy,List.findSome?_nil,b8];cases(go T M x (.ride z.1 z.2.1 i j)).bind λy=>(eD T M b a bf fuel (left-1) y).map λm=>Leg.ride z.1 z.2.1 i j::m<;>rfl)
theorem uj:(v4 T M).Pairwise λx y=>x.1<y.1\/(x.1=y.1/\x.2.1<y.2.1):=by(
unfold v4;rw[sT];refine⟨?_,?_⟩
·intro x _;rw[ji];have h0:List.Pairwise (λa b:Int=>a<b) [-1,0,1]:=by decide
 exact(h0.filter _).imp λh=>.inr ⟨O,h⟩
·have h1:T.trips.zipIdx.Pairwise λ(x y:bu×Nat)=>x.2<y.2:=by
  rw[kr];intro i j hi c h;simp[Cp];exact h
 refine h1.imp λ{x y} h=>?_;intro u hu v hv;rw[mo]at hu hv;obtain⟨k,_,rfl⟩:=hu;obtain⟨d,_,rfl⟩:=hv;exact .inl h)
theorem uZ (n:Nat):(s4 n).Pairwise λa b=>a<b:=Ci
theorem pB{bf:List (Nat×Int×bu)}:c∈hO x bf↔∃z,z∈bf/\∃i j,i<j/\j<z.2.2.calls.length/\z.2.2.stopAt i=x.halt/\c=.ride z.1 z.2.1 i j:=by(
unfold hO;simp only[fk,bR];constructor
·rintro⟨z,hz,i,hi,h⟩;split at h
 ·simp at h
 ·rename_i q;simp only[fk,bR]at h;obtain⟨j,b,h⟩:=h;split at h
  ·simp at h
  ·simp at h;exact⟨z,hz,i,j,by lia,b,Decidable.not_not.mp q,h⟩
·rintro⟨z,hz,i,j,h1,h2,a,rfl⟩;refine⟨z,hz,i,by lia,?_⟩;rw[Ps (λq=>q a)];simp only[fk,bR];exact⟨j,h2,by rw[Ps (by lia)];simp⟩)
theorem FC (x:Place) (left:Nat):(cands T x left (v4 T M)).Pairwise mR:=by(
unfold cands;rw[wb];refine⟨?_,?_,?_⟩
·rw[ji];exact(uZ _).imp λh=>h
·split
 ·exact .nil
 ·unfold hO;rw[sT];refine⟨λz _=>?_,?_⟩
  ·rw[sT];refine⟨λi _=>?_,?_⟩
   ·split
    ·exact .nil
    ·rw[sT];refine⟨λj _=>by split<;>simp,?_⟩;refine(uZ _).imp λ{j b} h u hu v hv=>?_;split at hu<;>simp at hu;split at hv<;>simp at hv;subst hu hv;exact .inr ⟨O,.inr ⟨O,.inr ⟨O,h⟩⟩⟩
   ·refine(uZ _).imp λ{i e} h u hu v hv=>?_;split at hu
    ·simp at hu
    split at hv
    ·simp at hv
    simp only[fk,bR]at hu hv;obtain⟨j,_,hu⟩:=hu;obtain⟨b,_,hv⟩:=hv;split at hu<;>simp at hu;split at hv<;>simp at hv;subst hu hv;exact .inr ⟨O,.inr ⟨O,.inl h⟩⟩
  ·refine(uj (T:=T) (M:=M)).imp λ{z f} h u hu v hv=>?_;have c:u∈hO x [z]:=by unfold hO;rw[gA];simpa using hu
   have d:v∈hO x [f]:=by unfold hO;rw[gA];simpa using hv
   obtain⟨_,hz,i,j,_,_,_,rfl⟩:=pB.mp c;obtain⟨_,a,e,b,_,_,_,rfl⟩:=pB.mp d;simp at hz a;subst hz a;rcases h with h|⟨h1,h2⟩
   ·exact .inl h
   ·exact .inr ⟨h1,.inl h2⟩
·intro u hu v hv;rw[mo]at hu;obtain⟨w,_,rfl⟩:=hu;split at hv
 ·simp at hv
 ·obtain⟨z,_,i,j,_,_,_,rfl⟩:=pB.mp hv;trivial)
theorem Af(h:mR c b) (g:go T M x c=some y) (g':go T M x b=some u) (l m:List Int):ci (bS T M x c++l) (bS T M x b++m)=true:=by(
cases c with
|walk w=>cases b with
 |walk o=>
  obtain⟨k,e,_⟩:=aM.mp g;obtain⟨d,a,_⟩:=aM.mp g';have h:w<o:=h;simp[bS,e,a,ci];lia
 |ride n k i j=>
  obtain⟨q,e,_⟩:=aM.mp g;obtain⟨f,a,_⟩:=bP.mp g';simp[bS,e,a,ci];lia
|ride n k i j=>cases b with
 |walk w=>exact h.elim
 |ride t d r s=>
  obtain⟨q,e,_⟩:=bP.mp g;obtain⟨f,a,_⟩:=bP.mp g';simp only[bS,e,a,ci,l9,l_,hj,ev,dL];rcases h with h|⟨h1,h|⟨h2,h|⟨p,h⟩⟩⟩
  ·left;lia
  ·right;exact⟨by lia,.inl h⟩
  ·right;exact⟨by lia,.inr ⟨h2,.inl (by lia)⟩⟩
  ·right;exact⟨by lia,.inr ⟨h2,.inr ⟨by lia,.inl (by lia)⟩⟩⟩)
theorem y' {d j:Type}{R:d->d->Prop}{f:d->Option j}{y:j}:∀ {l:List d},l.Pairwise R->l.findSome? f=some y->∃c,c∈l/\f c=some y/\∀a,a∈l->f a≠none->a=c\/R c a
 |[],_,h=>by simp at h
 |x::l,g,h=>by
  rw[oA]at g;rw[oy]at h;cases e:f x with
  |some z=>
   rw[e]at h;refine⟨x,kw ..,h▸e,λa b _=>?_⟩;rcases rs.mp b with rfl|b
   ·exact .inl rfl
   ·exact .inr (g.1 a b)
  |none=>
   rw[e]at h;obtain⟨c,h1,h2,k⟩:=y' g.2 h;refine⟨c,o0 _ h1,h2,λa b i=>?_⟩;rcases rs.mp b with rfl|b
   ·exact absurd e i
   ·exact k a b i
theorem iZ(g:go T M x c=some y) (l:List Leg):bn T M x (c::l)=bS T M x c++bn T M y l:=by
 show bS T M x c++(match go T M x c with|some y=>bn T M y l|none=>[])=_;rw[g]
theorem uF(h:Ok T M b a left x (c::m)):∃y,go T M x c=some y/\Ok T M b a (b8 left c) y m/\c∈cands T x left (v4 T M):=by(
obtain⟨⟨w,f⟩,d⟩:=h;obtain⟨y,g,f⟩:=dj f;refine⟨y,g,⟨⟨w,f⟩,?_⟩,?_⟩
·cases c with
 |walk v=>rw[iV]at d;exact d
 |ride n k i j=>rw[gp]at d;show _=left-1;lia
·unfold cands;rw[cs];cases c with
 |walk v=>
  obtain⟨k,e,_⟩:=aM.mp g;exact .inl (mo.mpr ⟨v,bR.mpr (aD.mp e).1,O⟩)
 |ride n k i j=>
  rw[gp]at d;rw[Ps (by lia)];obtain⟨p,l,o,q,r,s,t,_,_⟩:=bP.mp g;exact .inr (pB.mpr ⟨(n,k,p),dr.mpr ⟨l,o,q⟩,i,j,r,s,t,O⟩))
theorem FH(g:go T M x c=some y) (h:Ok T M b a (b8 left c) y m) (d:c∈cands T x left (v4 T M)):Ok T M b a left x (c::m):=by(
obtain⟨⟨w,f⟩,l⟩:=h;refine⟨⟨w,by rw[gK g];exact f⟩,?_⟩;cases c with
|walk v=>rw[iV];exact l
|ride n k i j=>
 rw[gp,l];show left-1+1=left;unfold cands at d;rw[cs]at d;rcases d with d|d
 ·rw[mo]at d;obtain⟨_,_,e⟩:=d;cases e
 ·split at d
  ·simp at d
  ·lia)
theorem Bi (hT:bw T) (b:Nat) (a:Int):∀(fuel left:Nat) (x:Place),
  (∀l,eD T M b a (v4 T M) fuel left x=some l->Ok T M b a left x l/\∀m,Ok T M b a left x m->m.length<fuel->c6 (bn T M x l) (bn T M x m))/\
  (eD T M b a (v4 T M) fuel left x=none->∀m,Ok T M b a left x m->¬m.length<fuel)
 |0,left,x=>⟨λl h=>by simp[eD]at h,λ_ m _ h=>by lia⟩
 |fuel+1,left,x=>by
  have p:=λleft x=>Bi hT b a fuel left x;rw[Me];by_cases c1:x.halt=b/\x.time=a/\left=0
  ·rw[No c1];refine⟨λl h=>?_,λh=>by cases h⟩;cases h;refine⟨⟨⟨x.way,?_⟩,c1.2.2.symm⟩,λm _ _=>?_⟩
   ·obtain⟨H,J,L⟩:=x;simp only at c1;obtain⟨rfl,rfl,_⟩:=c1;rfl
   ·cases e:bn T M x m with
    |nil=>exact .inl rfl
    |cons=>exact .inr rfl
  ·rw[Ps c1];have s:∀m,Ok T M b a left x m->∃c d,m=c::d:=by
    rintro m ⟨⟨w,f⟩,A⟩;cases m with
    |nil=>cases f;exact absurd ⟨O,O,A.symm⟩ c1
    |cons c d=>exact⟨c,d,O⟩
   by_cases c2:a<x.time
   ·rw[No c2];refine⟨λl h=>(by cases h),λ_ m hm _=>?_⟩;obtain⟨⟨w,f⟩,_⟩:=hm;have:=kR hT m f;simp only at this;lia
   ·rw[Ps c2];refine⟨λl h=>?_,λh m hm o=>?_⟩
    ·obtain⟨c,u,hf,t⟩:=y' (FC (T:=T) (M:=M) x left) h;cases g:go T M x c with
     |none=>rw[g]at hf;cases hf
     |some y=>
      rw[g,sA]at hf;cases e:eD T M b a (v4 T M) fuel (b8 left c) y with
      |none=>rw[e]at hf;cases hf
      |some E=>
       rw[e]at hf;cases hf;obtain⟨C,D⟩:=(p (b8 left c) y).1 E e;refine⟨FH g C u,λm hm o=>?_⟩;obtain⟨i,d,rfl⟩:=s m hm;obtain⟨r,g',k,n⟩:=uF hm;have j:d.length<fuel:=by simp at o;lia
       have ne:(go T M x i).bind (λy=>(eD T M b a (v4 T M) fuel (b8 left i) y).map λm=>i::m)≠none:=by
        rw[g',sA];intro q;rw[DM]at q;exact(p (b8 left i) r).2 q d k j
       rw[iZ g,iZ g'];rcases t i n ne with rfl|z
       ·rw[g]at g';cases g';exact A2 (D d k j)
       ·exact .inr (Af z g g' _ _)
    ·obtain⟨i,d,rfl⟩:=s m hm;obtain⟨r,g',k,n⟩:=uF hm;have j:d.length<fuel:=by simp at o;lia
     rw[List.findSome?_eq_none_iff]at h;have:=h i n;rw[g',sA,DM]at this;exact(p (b8 left i) r).2 this d k j
theorem Aj:∀(m:List Leg) {left:Nat}{x:Place},Ok T M b a left x m->m.length<=2*left+(if x.way=2 then 0 else 1)
 |[],_,_,_=>by simp
 |c::m,left,x,h=>by
  obtain⟨y,g,h',_⟩:=uF h;have d:=Aj m h';have f:=h.2;cases c with
  |walk w=>
   obtain⟨_,_,_,e,rfl⟩:=aM.mp g;rw[Ps e];simp[b8]at d;simp;lia
  |ride n k i j=>
   obtain⟨_,_,_,_,_,_,_,_,rfl⟩:=bP.mp g;rw[gp]at f;simp[b8]at d;simp;lia
theorem vT:∀(m:List Leg) {x y:Place},be T M x m=some y->(bn T M x m).length=5*m.length
 |[],_,_,_=>rfl
 |c::m,x,z,h=>by
  obtain⟨y,g,f⟩:=dj h;rw[iZ g,ls,vT m f];have:(bS T M x c).length=5:=by
   cases c with
   |walk w=>obtain⟨k,e,_⟩:=aM.mp g;simp[bS,e]
   |ride n k i j=>obtain⟨k,e,_⟩:=bP.mp g;simp[bS,e]
  simp[this];lia
theorem Mf(hT:bw T) (h:Ok T M b a left x l) (hm:∀m,Ok T M b a left x m->c6 (bn T M x l) (bn T M x m)) (hf:2*left+2<=fuel):
  ∃l',eD T M b a (v4 T M) fuel left x=some l'/\bn T M x l'=bn T M x l/\l'.length=l.length:=by(
have len:∀m,Ok T M b a left x m->m.length<fuel:=λm hm=>by
 have:=Aj m hm;split at this<;>lia
obtain⟨i,j⟩:=Bi hT b a (M:=M) fuel left x;cases e:eD T M b a (v4 T M) fuel left x with
|none=>exact absurd (len l h) (j e l h)
|some l'=>
 obtain⟨o,g⟩:=i l' e;have c:bn T M x l'=bn T M x l:=A1 (g l h (len l h)) (hm l' o);refine⟨l',O,c,?_⟩;obtain⟨⟨w,f⟩,_⟩:=h;obtain⟨⟨k,d⟩,_⟩:=o;have h1:=vT l f;have h2:=vT l' d;rw[c]at h2;lia)
end
noncomputable def dO:Option Int->Nat->List (Option Int)->List (List Int)
 |_,_,[]=>[]
 |m,k,c::l=>(match c with
  |some y=>if c=m then []else [[((k:Nat):Int),y]]
  |none=>[])++dO c (k+1) l
noncomputable def eK:Option Int->List (Option Int)->List (Option Int)
 |_,[]=>[]
 |m,x::l=>less m x::eK (less m x) l
theorem y1:∀(l:List (Option Int)) (m:Option Int) (k:Nat),gv m ((l.zipIdx k).map λx=>(x.2,x.1))=dO m k (eK m l)
 |[],_,_=>rfl
 |x::l,m,k=>by
  rw[kx,m0];have a:=λm=>y1 l m (k+1);cases x with
  |none=>
   have e:∀L,gv m ((k,none)::L)=gv m L:=λL=>by cases m<;>rfl
   rw[e,a m];cases m<;>simp[eK,dO,less]
  |some y=>cases m with
   |none=>
    show [((k:Nat):Int),y]::gv (some y) _=_;rw[a];simp[eK,dO,less]
   |some z=>
    show(if y<z then [((k:Nat):Int),y]::gv (some y) _ else gv (some z) _)=_;rw[a,a];by_cases h:y<z
    ·rw[No h];simp[eK,dO,less,show min z y=y by lia,show ¬y=z by lia]
    ·rw[Ps h];simp[eK,dO,less,show min z y=z by lia]
end Tw
namespace Tw
abbrev on:=Int×Nat×Nat
structure Nt where
 chg:List Int
 runs:List (List Nat×List Int)
 af:List (List on)
 foot:List (List (Nat×Int×Nat))
 aZ:List (Nat×Int)
noncomputable def Nt.ft (N:Nt) (s:Nat):List (Nat×Int):=(N.foot.getD s []).map λw=>(w.1,w.2.1)
def Nt.n (N:Nt):Nat:=N.chg.length
noncomputable def Nt.len (N:Nt) (r:Nat):Nat:=(N.runs.getD r ([],[])).1.length
noncomputable def Nt.stop (N:Nt) (r i:Nat):Nat:=(N.runs.getD r ([],[])).1.getD i 0
noncomputable def Nt.comes (N:Nt) (r i:Nat):Int:=(N.runs.getD r ([],[])).2.getD i 0
def FS:Int:=1000000
structure bz (N:Nt) (goes:Nat->Nat->Int):Prop where
 hG:N.af.length=N.n
 mI:N.foot.length=N.n
 sorted:∀s,s<N.n->(N.af.getD s []).Pairwise (λa b=>a.1<=b.1)
 af:∀s,s<N.n->∀g r i,(g,r,i)∈N.af.getD s []↔r<N.runs.length/\i+1<N.len r/\N.stop r i=s/\g=goes r i
 eO:∀r i,r<N.runs.length->i<N.len r->N.stop r i<N.n
 iJ:∀r i,r<N.runs.length->i<N.len r->N.comes r i+240<FS
 k0:∀r i,r<N.runs.length->i<N.len r->goes r i<FS
 mS:∀r,r<N.runs.length->0<N.len r
 chg:∀s,s<N.n->0<=N.chg.getD s 0/\N.chg.getD s 0<=240
 foot:∀s g m,s<N.n->(g,m)∈N.ft s->g<N.n/\0<=m/\m<=240
inductive NJ (N:Nt) (goes:Nat->Nat->Int) (s0:Nat) (t0:Int):Nat->Nat->Nat->Int->Prop
 |start:NJ N goes s0 t0 0 0 s0 t0
 |walk {n w s g:Nat}{x m:Int}:NJ N goes s0 t0 n w s x->w≠2->(g,m)∈N.ft s->NJ N goes s0 t0 n 2 g (x+m)
 |ride {n w s r i j:Nat}{x:Int}:NJ N goes s0 t0 n w s x->r<N.runs.length->i<j->j<N.len r->N.stop r i=s->x+(if w=1 then N.chg.getD s 0 else 0)<=goes r i->NJ N goes s0 t0 (n+1) 1 (N.stop r j) (N.comes r j)
section
variable {N:Nt}{goes:Nat->Nat->Int}{s0:Nat}{t0:Int}
def Rk (N:Nt) (goes:Nat->Nat->Int) (s0:Nat) (t0:Int) (k s:Nat) (x:Int):Prop:=∃n,n<=k/\NJ N goes s0 t0 n 1 s x
def Fk (N:Nt) (goes:Nat->Nat->Int) (s0:Nat) (t0:Int) (k s:Nat) (x:Int):Prop:=∃n w,n<=k/\w≠1/\NJ N goes s0 t0 n w s x
def Ak (N:Nt) (goes:Nat->Nat->Int) (s0:Nat) (t0:Int) (k s:Nat) (x:Int):Prop:=∃n w,n<=k/\NJ N goes s0 t0 n w s x
def Gk (N:Nt) (goes:Nat->Nat->Int) (s0:Nat) (t0:Int) (k s:Nat) (x:Int):Prop:=Fk N goes s0 t0 k s x\/∃y,Rk N goes s0 t0 k s y/\x=y+N.chg.getD s 0
def bd (N:Nt) (goes:Nat->Nat->Int) (s0:Nat) (t0:Int) (k r i:Nat):Prop:=∃x,Gk N goes s0 t0 k (N.stop r i) x/\x<=goes r i
theorem uB(h:NJ N goes s0 t0 n w s x):(n=0/\w=0/\s=s0/\x=t0)\/w=1\/w=2:=by(
cases h with
|start=>exact .inl ⟨O,O,O,O⟩
|walk _ _ _=>exact .inr (.inr rfl)
|ride _ _ _ _ _ _=>exact .inr (.inl rfl))
theorem mX:¬NJ N goes s0 t0 0 1 s x:=by
 intro h;cases h
theorem gE:Ak N goes s0 t0 k s x↔Fk N goes s0 t0 k s x\/Rk N goes s0 t0 k s x:=by(
constructor
·rintro⟨n,w,a,h⟩;by_cases e:w=1
 ·subst e;exact .inr ⟨n,a,h⟩
 ·exact .inl ⟨n,w,a,e,h⟩
·rintro(⟨n,w,a,_,h⟩|⟨n,a,h⟩)
 ·exact⟨n,w,a,h⟩
 ·exact⟨n,1,a,h⟩)
theorem lr:¬Rk N goes s0 t0 0 s x:=by
 rintro⟨n,a,h⟩;rw[show n=0 by lia]at h;exact mX h
theorem yp:bd N goes s0 t0 k r i↔∃n w x,n<=k/\NJ N goes s0 t0 n w (N.stop r i) x/\x+(if w=1 then N.chg.getD (N.stop r i) 0 else 0)<=goes r i:=by(
constructor
·rintro⟨x,⟨n,w,a,hw,h⟩|⟨y,⟨n,a,h⟩,rfl⟩,b⟩
 ·exact⟨n,w,x,a,h,by rw[Ps hw];lia⟩
 ·exact⟨n,1,y,a,h,by rw[No rfl];exact b⟩
·rintro⟨n,w,x,a,h,b⟩;by_cases e:w=1
 ·subst e;rw[No rfl]at b;exact⟨_,.inr ⟨x,⟨n,a,h⟩,O⟩,b⟩
 ·rw[Ps e]at b;exact⟨x,.inl ⟨n,w,a,e,h⟩,by lia⟩)
theorem hP:Rk N goes s0 t0 (k+1) s x↔∃r i j,r<N.runs.length/\i<j/\j<N.len r/\bd N goes s0 t0 k r i/\s=N.stop r j/\x=N.comes r j:=by(
constructor
·rintro⟨n,f,h⟩;cases h with
 |@ride n w s r i j y h h1 h2 a b c=>
  subst b;exact⟨r,i,j,h1,h2,a,yp.mpr ⟨n,w,y,by lia,h,c⟩,O,O⟩
·rintro⟨r,i,j,h1,h2,a,d,rfl,rfl⟩;obtain⟨n,w,y,f,h,e⟩:=yp.mp d;exact⟨n+1,by lia,NJ.ride h h1 h2 a rfl e⟩)
theorem tY:Fk N goes s0 t0 0 s x↔(s=s0/\x=t0)\/∃m,(s,m)∈N.ft s0/\x=t0+m:=by(
constructor
·rintro⟨n,w,a,hw,h⟩;cases h with
 |start=>exact .inl ⟨O,O⟩
 |@walk n w s g y m h h1 h2=>
  rcases uB h with⟨_,_,rfl,rfl⟩|e|e
  ·exact .inr ⟨m,h2,O⟩
  ·subst e;rw[show n=0 by lia]at h;exact absurd h mX
  ·exact absurd e h1
 |ride=>exact absurd rfl hw
·rintro(⟨rfl,rfl⟩|⟨m,h,rfl⟩)
 ·exact⟨0,0,tz _,by decide,.start⟩
 ·exact⟨0,2,tz _,by decide,.walk .start (by decide) h⟩)
theorem jG:Fk N goes s0 t0 (k+1) s x↔Fk N goes s0 t0 k s x\/∃u y m,Rk N goes s0 t0 (k+1) u y/\(s,m)∈N.ft u/\x=y+m:=by(
constructor
·rintro⟨n,w,b,hw,h⟩;by_cases e:n<=k
 ·exact .inl ⟨n,w,e,hw,h⟩
 ·cases h with
  |start=>lia
  |@walk n w s g y m h h1 h2=>
   rcases uB h with⟨a,_⟩|a|a
   ·lia
   ·subst a;exact .inr ⟨s,y,m,⟨n,b,h⟩,h2,O⟩
   ·exact absurd a h1
  |ride=>exact absurd rfl hw
·rintro(⟨n,w,b,hw,h⟩|⟨u,y,m,⟨n,b,h⟩,h2,rfl⟩)
 ·exact⟨n,w,by lia,hw,h⟩
 ·exact⟨n,2,b,by decide,.walk h (by decide) h2⟩)
theorem u6(a:k<=l) (h:Rk N goes s0 t0 k s x):Rk N goes s0 t0 l s x:=by
 obtain⟨n,b,h⟩:=h;exact⟨n,by lia,h⟩
theorem tm(a:k<=l) (h:Ak N goes s0 t0 k s x):Ak N goes s0 t0 l s x:=by
 obtain⟨n,w,b,h⟩:=h;exact⟨n,w,by lia,h⟩
theorem za(a:k<=l) (h:Fk N goes s0 t0 k s x):Fk N goes s0 t0 l s x:=by
 obtain⟨n,w,b,hw,h⟩:=h;exact⟨n,w,by lia,hw,h⟩
theorem zo(a:k<=l) (h:Gk N goes s0 t0 k s x):Gk N goes s0 t0 l s x:=by(
rcases h with h|⟨y,h,e⟩
·exact .inl (za a h)
·exact .inr ⟨y,u6 a h,e⟩)
theorem Fi(a:k<=l) (h:bd N goes s0 t0 k r i):bd N goes s0 t0 l r i:=by
 obtain⟨x,h,e⟩:=h;exact⟨x,zo a h,e⟩
theorem yo(h:∀r i,r<N.runs.length->i+1<N.len r->bd N goes s0 t0 k r i->0<k/\bd N goes s0 t0 (k-1) r i):∀m,(∀s x,Rk N goes s0 t0 (k+m) s x↔Rk N goes s0 t0 k s x)/\(∀s x,Fk N goes s0 t0 (k+m) s x↔Fk N goes s0 t0 k s x)
 |0=>⟨λ_ _=>Iff.rfl,λ_ _=>Iff.rfl⟩
 |m+1=>by
  obtain⟨w,d⟩:=yo h m;have f:∀s x,Rk N goes s0 t0 (k+m+1) s x↔Rk N goes s0 t0 k s x:=by
   intro s x;refine⟨λa=>?_,u6 (by lia)⟩;obtain⟨r,i,j,h1,h2,b,o,l,n⟩:=hP.mp a;have p:bd N goes s0 t0 k r i:=by
    obtain⟨z,hz,e⟩:=o;refine⟨z,?_,e⟩;rcases hz with hz|⟨y,hz,g⟩
    ·exact .inl ((d _ _).mp hz)
    ·exact .inr ⟨y,(w _ _).mp hz,g⟩
   obtain⟨A,t⟩:=h r i h1 (by lia) p;have:=hP.mpr ⟨r,i,j,h1,h2,b,t,l,n⟩
   rwa [show k-1+1=k by lia]at this
  refine⟨f,λs x=>⟨λa=>?_,za (by lia)⟩⟩;rcases jG.mp a with a|⟨u,y,q,h1,h2,b⟩
  ·exact(d s x).mp a
  ·have c:=(f u y).mp h1;by_cases e:k=0
   ·subst e;exact absurd c lr
   ·have:=jG (N:=N) (goes:=goes) (s0:=s0) (t0:=t0) (k:=k-1) (s:=s) (x:=x);rw[show k-1+1=k by lia]at this;exact this.mpr (.inr ⟨u,y,q,c,h2,b⟩)
end
def lw (P:Int->Prop) (x:Int):Prop:=(P x\/x=FS)/\∀y,P y->x<=y
theorem lw.congr(h:lw P x) (e:∀y,P y↔Q y):lw Q x:=by(
have:P=Q:=funext λy=>propext (e y)
rwa [<- this])
theorem lw.never(h:∀y,¬P y):lw P FS:=⟨.inr rfl,λy q=>absurd q (h y)⟩
theorem lw.put(h:lw P x):lw (λz=>P z\/z=y) (if y<x then y else x)\/¬y<FS:=by(
by_cases a:y<FS
·left;by_cases e:y<x
 ·rw[No e];refine⟨.inl (.inr rfl),λz hz=>?_⟩;rcases hz with hz|hz
  ·have:=h.2 z hz;lia
  ·lia
 ·rw[Ps e];refine⟨?_,λz hz=>?_⟩
  ·rcases h.1 with q|q
   ·exact .inl (.inl q)
   ·subst q;lia
  ·rcases hz with hz|hz
   ·exact h.2 z hz
   ·lia
·exact .inr a)
theorem lw.widen(h:lw P x) (h1:∀y,P y->Q y) (h2:∀y,Q y->∃z,P z/\z<=y):lw Q x:=by
 refine⟨h.1.imp (h1 x) id,λy a=>?_⟩;obtain⟨z,hz,b⟩:=h2 y a;have:=h.2 z hz;lia
theorem lw.minOf(h:lw P x) (b:∀y,P y->y<FS):ce P (if x=FS then none else some x):=by(
by_cases e:x=FS
·rw[No e];intro y a;have h1:=h.2 y a;have h2:=b y a;lia
·rw[Ps e];rcases h.1 with q|q
 ·exact⟨q,h.2⟩
 ·exact absurd q e)
end Tw
namespace Tw
structure SS where
 taken:Nat
 arr:List Int
 rides:List Nat
 ab:List Int
 ready:List Int
 ah:List Nat
 aa:List Nat
 ae:List on
noncomputable def dB:on:=(0,0,0)
noncomputable def aR (d:List on) (ready:Int):Nat->List on->Nat×List on
 |0,b=>(0,b)
 |p+1,b=>if ready<=(d.getD p dB).1 then aR d ready p (b++[d.getD p dB])else(p+1,b)
noncomputable def board (N:Nt) (S:SS) (stop:Nat) (ready:Int):SS:=
 {S with ah:=S.ah.set stop (aR (N.af.getD stop []) ready (S.ah.getD stop 0) S.ae).1,ae:=(aR (N.af.getD stop []) ready (S.ah.getD stop 0) S.ae).2}
noncomputable def az (S:SS) (stop:Nat) (Is:Int):SS:=if Is<S.arr.getD stop 0 then {S with arr:=S.arr.set stop Is,rides:=S.rides.set stop S.taken}else S
noncomputable def e1 (N:Nt) (S:SS) (stop:Nat) (ready:Int):SS:=if ready<S.ready.getD stop 0 then board N {S with ready:=S.ready.set stop ready} stop ready else S
def av (N:Nt) (S:SS) (stop:Nat) (Is ready:Int):SS:=e1 N (az S stop Is) stop ready
noncomputable def bI (N:Nt) (S:SS) (stop:Nat) (Is:Int):SS:=(N.ft stop).foldl (λS w=>av N S w.1 (Is+w.2) (Is+w.2)) S
noncomputable def f1 (N:Nt):SS:=⟨0,f8 N.n FS,f8 N.n 0,f8 N.n FS,f8 N.n FS,N.af.map cC,N.runs.map λr=>r.1.length-1,[]⟩
def cp (N:Nt) (start:Nat) (Is:Int):SS:=bI N (av N (f1 N) start Is Is) start Is
structure Off where
 aa:List Nat
 ab:List Int
 ai:List Nat
noncomputable def cP (N:Nt) (run:Nat) (o:Off) (cu:Nat):Off:=
 if N.comes run cu<o.ab.getD (N.stop run cu) 0 then {o with ab:=o.ab.set (N.stop run cu) (N.comes run cu),ai:=if N.stop run cu∈o.ai then o.ai else o.ai++[N.stop run cu]}else o
noncomputable def er (N:Nt) (o:Off) (e:on):Off:=
 if e.2.2<o.aa.getD e.2.1 0 then(kA (e.2.2+1) (o.aa.getD e.2.1 0-e.2.2)).foldl (cP N e.2.1) {o with aa:=o.aa.set e.2.1 e.2.2}else o
noncomputable def bF (N:Nt) (S:SS):Off:=S.ae.foldl (er N) ⟨S.aa,S.ab,[]⟩
noncomputable def ba (N:Nt) (S:SS) (stop:Nat):SS:=bI N (av N S stop (S.ab.getD stop 0) (S.ab.getD stop 0+N.chg.getD stop 0)) stop (S.ab.getD stop 0)
noncomputable def cA (N:Nt) (S:SS):SS:=
 (bF N S).ai.foldl (ba N) {S with taken:=S.taken+1,aa:=(bF N S).aa,ab:=(bF N S).ab,ae:=[]}
theorem gW{a:Type}{l:List a}{x:a}(b:s<l.length) (u:Nat) (d:a):(l.set s x).getD u d=if u=s then x else l.getD u d:=by(
simp only[np,Cu];by_cases e:u=s
·subst e;simp[b]
·simp[e,Ne.symm e])
theorem getD_mem{b:Type}{l:List b}(a:p<l.length) (d:b):l.getD p d∈l:=by
 rw[np,g1 a];exact eX a
theorem mem_getD {a:Type}{l:List a}{x:a}(h:x∈l) (d:a):∃p,p<l.length/\l.getD p d=x:=by
 obtain⟨p,b,e⟩:=Cn.mp h;refine⟨p,b,?_⟩;rw[np,g1 b];exact e
theorem KA{a:Type}{R:a->a->Prop}{l:List a}(h:l.Pairwise R) (c:p<q) (b:q<l.length) (d:a):R (l.getD p d) (l.getD q d):=by
 rw[np,np,g1 (by lia),g1 b];exact kr.mp h p q (by lia) b c
theorem yA(j:d.Pairwise (λa b=>a.1<=b.1)):∀(p:Nat) (b:List on),p<=d.length->
  (aR d ready p b).1<=p/\(∀q,q<(aR d ready p b).1->(d.getD q dB).1<ready)/\(∀q,(aR d ready p b).1<=q->q<p->ready<=(d.getD q dB).1/\d.getD q dB∈(aR d ready p b).2)/\
  (∀e,e∈(aR d ready p b).2->e∈b\/(e∈d/\ready<=e.1))/\(∀e,e∈b->e∈(aR d ready p b).2)/\(aR d ready p b).2.length+(aR d ready p b).1=b.length+p
 |0,b,_=>⟨tz _,λq h=>absurd h (xj _),λq _ h=>absurd h (xj _),λe h=>.inl h,λe h=>h,O⟩
 |p+1,b,o=>by
  unfold aR;by_cases c:ready<=(d.getD p dB).1
  ·rw[No c];obtain⟨h1,h2,k,l,i,m⟩:=yA j p (b++[d.getD p dB]) (by lia);refine⟨by lia,h2,λq f n=>?_,λe g=>?_,λe g=>i e (gx _ g),by rw[ls,bK]at m;lia⟩
   ·by_cases e:q=p
    ·subst e;exact⟨c,i _ (by simp)⟩
    ·exact k q f (by lia)
   ·rcases l e g with h|h
    ·rcases cs.mp h with h|h
     ·exact .inl h
     ·simp at h;subst h;exact .inr ⟨getD_mem (by lia) _,c⟩
    ·exact .inr h
  ·rw[Ps c];refine⟨tz _,λq f=>?_,λq f n=>by dsimp only at f;lia,λe h=>.inl h,λe h=>h,O⟩;dsimp only at f;by_cases e:q=p
   ·subst e;lia
   ·have:=KA j (show q<p by lia) (by lia) dB;lia
structure aL (N:Nt) (b5:Nat->Int->Prop) (FR:Nat->Int->Nat->Prop) (ext aG:on->Prop) (A G:Nat->Int->Prop) (S:SS):Prop where
 dn:S.arr.length=N.n
 dq:S.rides.length=N.n
 dG:S.ready.length=N.n
 dH:S.ah.length=N.n
 arr:∀s,s<N.n->lw (A s) (S.arr.getD s 0)
 sub:∀s x,s<N.n->b5 s x->A s x
 rides:∀s,s<N.n->S.arr.getD s 0<FS->(b5 s (S.arr.getD s 0)/\FR s (S.arr.getD s 0) (S.rides.getD s 0))\/(¬b5 s (S.arr.getD s 0)/\S.rides.getD s 0=S.taken)
 ready:∀s,s<N.n->lw (G s) (S.ready.getD s 0)
 bH:∀s,s<N.n->S.ah.getD s 0<=(N.af.getD s []).length
 d6:∀s,s<N.n->∀p,p<S.ah.getD s 0->((N.af.getD s []).getD p dB).1<S.ready.getD s 0
 du:∀s,s<N.n->∀p,S.ah.getD s 0<=p->p<(N.af.getD s []).length->S.ready.getD s 0<=((N.af.getD s []).getD p dB).1
 dX:∀e,e∈S.ae->ext e\/∃s,s<N.n/\e∈N.af.getD s []/\S.ready.getD s 0<=e.1
 cX:∀s,s<N.n->∀e,e∈N.af.getD s []->S.ready.getD s 0<=e.1->aG e\/e∈S.ae
section
variable {N:Nt}{goes:Nat->Nat->Int}{b5:Nat->Int->Prop}{FR:Nat->Int->Nat->Prop}{ext aG:on->Prop}
theorem aL.congr(h:aL N b5 FR ext aG A G S) (b:∀s,s<N.n->∀x,A s x↔c s x) (hg:∀s,s<N.n->∀x,G s x↔G' s x):aL N b5 FR ext aG c G' S:=
 {h with
  arr:=λs a=>(h.arr s a).congr (b s a)
  sub:=λs x a o=>(b s a x).mp (h.sub s x a o)
  ready:=λs a=>(h.ready s a).congr (hg s a)}
theorem aL.widen(h:aL N b5 FR ext aG A G S) (c:∀s,s<N.n->∀x,A s x->b s x) (d:∀s,s<N.n->∀x,b s x->∃z,A s z/\z<=x) (hg:∀s,s<N.n->∀x,G s x->G' s x) (e:∀s,s<N.n->∀x,G' s x->∃z,G s z/\z<=x):aL N b5 FR ext aG b G' S:=
 {h with
  arr:=λs a=>(h.arr s a).widen (c s a) (d s a)
  sub:=λs x a o=>c s a x (h.sub s x a o)
  ready:=λs a=>(h.ready s a).widen (hg s a) (e s a)}
theorem aL.az {A G:Nat->Int->Prop}{S:SS}(h:aL N b5 FR ext aG A G S) {stop:Nat}{Is:Int}(d:stop<N.n) (hm:Is<FS):aL N b5 FR ext aG (λs x=>A s x\/(s=stop/\x=Is)) G (az S stop Is):=by(
unfold Tw.az;have put:=λs d=>((h.arr s d).put (y:=Is)).resolve_right (λq=>q hm);have same:∀s,s<N.n->s≠stop->∀x,(A s x\/(s=stop/\x=Is))↔A s x:=λs _ i x=>⟨λq=>q.elim id (λq=>absurd q.1 i),.inl⟩;have at_:∀x,(A stop x\/x=Is)↔(A stop x\/(stop=stop/\x=Is)):=λx=>by simp
by_cases c:Is<S.arr.getD stop 0
·rw[No c];have f:∀s,(S.arr.set stop Is).getD s 0=if s=stop then Is else S.arr.getD s 0:=λs=>gW (by rw[h.dn];exact d) s 0;have g:∀s,(S.rides.set stop S.taken).getD s 0=if s=stop then S.taken else S.rides.getD s 0:=λs=>gW (by rw[h.dq];exact d) s 0;refine {dn:=by simp[h.dn],dq:=by simp[h.dq],dG:=h.dG,dH:=h.dH,arr:=λs a=>?_,sub:=λs x a o=>.inl (h.sub s x a o),rides:=λs a b=>?_,ready:=h.ready,bH:=h.bH,d6:=h.d6,du:=h.du,dX:=h.dX,cX:=h.cX}
 ·show lw _ ((S.arr.set stop Is).getD s 0);rw[f];by_cases e:s=stop
  ·rw[No e];subst e;have:=put s a;rw[No c]at this;exact this.congr at_
  ·rw[Ps e];exact(h.arr s a).congr λx=>(same s a e x).symm
 ·have b:(S.arr.set stop Is).getD s 0<FS:=b;show(b5 s ((S.arr.set stop Is).getD s 0)/\FR s ((S.arr.set stop Is).getD s 0) ((S.rides.set stop S.taken).getD s 0))\/(¬b5 s ((S.arr.set stop Is).getD s 0)/\(S.rides.set stop S.taken).getD s 0=S.taken);rw[f]at b⊢;rw[g];by_cases e:s=stop
  ·simp only[No e]at b⊢;subst e;refine .inr ⟨λo=>?_,trivial⟩;have:=(h.arr s a).2 Is (h.sub s Is a o);lia
  ·simp only[Ps e]at b⊢;exact h.rides s a b
·rw[Ps c];refine {h with arr:=λs a=>?_,sub:=λs x a o=>.inl (h.sub s x a o)};by_cases e:s=stop
 ·subst e;have:=put s a;rw[Ps c]at this;exact this.congr at_
 ·exact(h.arr s a).congr λx=>(same s a e x).symm)
theorem aL.e1 (ok:bz N goes) {A G:Nat->Int->Prop}{S:SS}(h:aL N b5 FR ext aG A G S) {stop:Nat}{ready:Int}(i:stop<N.n) (hm:ready<FS):aL N b5 FR ext aG A (λs x=>G s x\/(s=stop/\x=ready)) (e1 N S stop ready):=by(
unfold Tw.e1;have put:=λs i=>((h.ready s i).put (y:=ready)).resolve_right (λq=>q hm);have same:∀s,s<N.n->s≠stop->∀x,(G s x\/(s=stop/\x=ready))↔G s x:=λs _ E x=>⟨λq=>q.elim id (λq=>absurd q.1 E),.inl⟩;have at_:∀x,(G stop x\/x=ready)↔(G stop x\/(stop=stop/\x=ready)):=λx=>by simp
by_cases c:ready<S.ready.getD stop 0
·rw[No c];have d:∀s,(S.ready.set stop ready).getD s 0=if s=stop then ready else S.ready.getD s 0:=λs=>gW (by rw[h.dG];exact i) s 0;obtain⟨u,k,l,t,m,w⟩:=yA (ready:=ready) (ok.sorted stop i) (S.ah.getD stop 0) S.ae (h.bH stop i);generalize D:aR (N.af.getD stop []) ready (S.ah.getD stop 0) S.ae=L at u k l t m w;have z:board N {S with ready:=S.ready.set stop ready} stop ready= {S with ready:=S.ready.set stop ready,ah:=S.ah.set stop L.1,ae:=L.2}:=by
  unfold board;simp only[D]
 rw[z];have r:∀s,(S.ah.set stop L.1).getD s 0=if s=stop then L.1 else S.ah.getD s 0:=λs=>gW (by rw[h.dH];exact i) s 0;have le:∀s,(S.ready.set stop ready).getD s 0<=S.ready.getD s 0:=λs=>by
  rw[d];by_cases e:s=stop
  ·rw[No e];subst e;lia
  ·rw[Ps e];lia
 refine {dn:=h.dn,dq:=h.dq,dG:=by simp[h.dG],dH:=by simp[h.dH],arr:=h.arr,sub:=h.sub,rides:=h.rides,ready:=λs a=>?_,bH:=λs a=>?_,d6:=λs a p g=>?_,du:=λs a p g f=>?_,dX:=λe j=>?_,cX:=λs a e j f=>?_}
 ·show lw _ ((S.ready.set stop ready).getD s 0);rw[d];by_cases e:s=stop
  ·rw[No e];subst e;have:=put s a;rw[No c]at this;exact this.congr at_
  ·rw[Ps e];exact(h.ready s a).congr λx=>(same s a e x).symm
 ·show(S.ah.set stop L.1).getD s 0<=_;rw[r];by_cases e:s=stop
  ·rw[No e];subst e;have:=h.bH s a;lia
  ·rw[Ps e];exact h.bH s a
 ·have b:p<(S.ah.set stop L.1).getD s 0:=g;clear g;show _<(S.ready.set stop ready).getD s 0;rw[r]at b;rw[d];by_cases e:s=stop
  ·rw[No e]at b ⊢;subst e;exact k p b
  ·rw[Ps e]at b ⊢;exact h.d6 s a p b
 ·have b:(S.ah.set stop L.1).getD s 0<=p:=g;clear g;show(S.ready.set stop ready).getD s 0<=_;rw[r]at b;by_cases e:s=stop
  ·rw[No e]at b;rw[d,No e];subst e;by_cases q:p<S.ah.getD s 0
   ·exact(l p b q).1
   ·have:=h.du s a p (by lia) f;lia
  ·rw[Ps e]at b;rw[d,Ps e];exact h.du s a p b f
 ·rcases t e j with q|⟨J,Q⟩
  ·rcases h.dX e q with h0|⟨s,h1,h2,C⟩
   ·exact .inl h0
   ·exact .inr ⟨s,h1,h2,xr (le s) C⟩
  ·refine .inr ⟨stop,i,J,?_⟩;show(S.ready.set stop ready).getD stop 0<=_;rw[d,No rfl];exact Q
 ·have f:(S.ready.set stop ready).getD s 0<=e.1:=f;show aG e\/e∈L.2;by_cases es:s=stop
  ·rw[d,No es]at f;subst es;obtain⟨p,g,rfl⟩:=mem_getD j dB;by_cases q:p<S.ah.getD s 0
   ·by_cases H:L.1<=p
    ·exact .inr (l p H q).2
    ·have:=k p (by lia);lia
   ·have:=h.du s a p (by lia) g;rcases h.cX s a _ j this with o|o
    ·exact .inl o
    ·exact .inr (m _ o)
  ·rw[d,Ps es]at f;rcases h.cX s a e j f with o|o
   ·exact .inl o
   ·exact .inr (m _ o)
·rw[Ps c];refine {h with ready:=λs a=>?_};by_cases e:s=stop
 ·subst e;have:=put s a;rw[Ps c]at this;exact this.congr at_
 ·exact(h.ready s a).congr λx=>(same s a e x).symm)
theorem aL.av (ok:bz N goes) {A G:Nat->Int->Prop}{S:SS}(h:aL N b5 FR ext aG A G S) {stop:Nat}{Is ready:Int}(a:stop<N.n) (hm:Is<FS) (b:ready<FS):
  aL N b5 FR ext aG (λs x=>A s x\/(s=stop/\x=Is)) (λs x=>G s x\/(s=stop/\x=ready)) (av N S stop Is ready):=
 (h.az a hm).e1 ok a b
theorem BZ(ok:bz N goes) :∀(W:List (Nat×Int)) {A G:Nat->Int->Prop}{S:SS},(∀g m,(g,m)∈W->g<N.n/\Is+m<FS)->aL N b5 FR ext aG A G S->
  aL N b5 FR ext aG (λs x=>A s x\/∃m,(s,m)∈W/\x=Is+m) (λs x=>G s x\/∃m,(s,m)∈W/\x=Is+m) (W.foldl (λS w=>Tw.av N S w.1 (Is+w.2) (Is+w.2)) S)
 |[],A,G,S,_,h=>h.congr (λs _ x=>by simp) (λs _ x=>by simp)
 |(g,m)::W,A,G,S,hw,h=>by
  rw[dS];obtain⟨h1,h2⟩:=hw g m (kw ..);have e:∀(P:Nat->Int->Prop) (s:Nat) (x:Int),((P s x\/(s=g/\x=Is+m))\/∃a,(s,a)∈W/\x=Is+a)↔(P s x\/∃a,(s,a)∈(g,m)::W/\x=Is+a):=by
   intro P s x;constructor
   ·rintro((q|⟨rfl,q⟩)|⟨a,b,c⟩)
    ·exact .inl q
    ·exact .inr ⟨m,kw ..,q⟩
    ·exact .inr ⟨a,o0 _ b,c⟩
   ·rintro(q|⟨a,b,c⟩)
    ·exact .inl (.inl q)
    ·rcases rs.mp b with b|b
     ·injection b with d f;subst d f;exact .inl (.inr ⟨O,c⟩)
     ·exact .inr ⟨a,b,c⟩
  exact(BZ ok W (λg' a h'=>hw g' a (o0 _ h')) (h.av ok h1 h2 h2)).congr (λs _ x=>e A s x) (λs _ x=>e G s x)
theorem aL.bI (ok:bz N goes) {A G:Nat->Int->Prop}{S:SS}(h:aL N b5 FR ext aG A G S) {stop:Nat}{Is:Int}(b:stop<N.n) (hm:Is+240<FS):
  aL N b5 FR ext aG (λs x=>A s x\/∃m,(s,m)∈N.ft stop/\x=Is+m) (λs x=>G s x\/∃m,(s,m)∈N.ft stop/\x=Is+m) (bI N S stop Is):=
 BZ ok _ (λg m a=>by obtain⟨h1,h2,c⟩:=ok.foot stop g m b a;exact⟨h1,by lia⟩) h
theorem tn (S:SS) (stop:Nat) (Is ready:Int):(av N S stop Is ready).taken=S.taken/\(av N S stop Is ready).ab=S.ab/\(av N S stop Is ready).aa=S.aa:=by
 unfold Tw.av Tw.e1 Tw.az board;split<;>split<;>exact⟨O,O,O⟩
theorem zf (Is:Int):∀(W:List (Nat×Int)) (S:SS),(W.foldl (λS w=>av N S w.1 (Is+w.2) (Is+w.2)) S).taken=S.taken/\(W.foldl (λS w=>av N S w.1 (Is+w.2) (Is+w.2)) S).ab=S.ab/\(W.foldl (λS w=>av N S w.1 (Is+w.2) (Is+w.2)) S).aa=S.aa
 |[],S=>⟨O,O,O⟩
 |w::W,S=>by
  rw[dS];obtain⟨h1,h2,a⟩:=zf Is W (av N S w.1 (Is+w.2) (Is+w.2));obtain⟨b,c,d⟩:=tn (N:=N) S w.1 (Is+w.2) (Is+w.2);exact⟨h1.trans b,h2.trans c,a.trans d⟩
theorem B0 (S:SS) (stop:Nat) (Is:Int):(bI N S stop Is).taken=S.taken/\(bI N S stop Is).ab=S.ab/\(bI N S stop Is).aa=S.aa:=zf Is _ S
theorem uH (S:SS) (stop:Nat):(ba N S stop).taken=S.taken/\(ba N S stop).ab=S.ab/\(ba N S stop).aa=S.aa:=by
 unfold ba;obtain⟨h1,h2,a⟩:=B0 (N:=N) (av N S stop (S.ab.getD stop 0) (S.ab.getD stop 0+N.chg.getD stop 0)) stop (S.ab.getD stop 0);obtain⟨b,c,d⟩:=tn (N:=N) S stop (S.ab.getD stop 0) (S.ab.getD stop 0+N.chg.getD stop 0);exact⟨h1.trans b,h2.trans c,a.trans d⟩
theorem uG (ok:bz N goes) (ab:List Int):∀(U:List Nat) {A G:Nat->Int->Prop}{S:SS},S.ab=ab->(∀u,u∈U->u<N.n/\ab.getD u 0+240<FS)->aL N b5 FR ext aG A G S->
  aL N b5 FR ext aG (λs x=>A s x\/(s∈U/\x=ab.getD s 0)\/∃u m,u∈U/\(s,m)∈N.ft u/\x=ab.getD u 0+m)
   (λs x=>G s x\/(s∈U/\x=ab.getD s 0+N.chg.getD s 0)\/∃u m,u∈U/\(s,m)∈N.ft u/\x=ab.getD u 0+m) (U.foldl (ba N) S)
 |[],A,G,S,_,_,h=>h.congr (λs _ x=>by simp) (λs _ x=>by simp)
 |u::U,A,G,S,c,hu,h=>by
  rw[dS];obtain⟨h1,h2⟩:=hu u (kw ..);have e:=ok.chg u h1;have step:aL N b5 FR ext aG _ _ (ba N S u):=(h.av ok (Is:=S.ab.getD u 0) (ready:=S.ab.getD u 0+N.chg.getD u 0) h1 (by rw[c];lia) (by rw[c];lia)).bI ok h1 (by rw[c];exact h2);refine(uG ok ab U ((uH S u).2.1.trans c) (λv hv=>hu v (o0 _ hv)) step).congr (λs _ x=>?_) (λs _ x=>?_)
  all_goals
   rw[c];constructor
   ·rintro(((q|⟨rfl,q⟩)|⟨m,a,b⟩)|⟨a,b⟩|⟨v,m,a,b,d⟩)
    ·exact .inl q
    ·exact .inr (.inl ⟨kw ..,q⟩)
    ·exact .inr (.inr ⟨u,m,kw ..,a,b⟩)
    ·exact .inr (.inl ⟨o0 _ a,b⟩)
    ·exact .inr (.inr ⟨v,m,o0 _ a,b,d⟩)
   ·rintro(q|⟨a,b⟩|⟨v,m,a,b,d⟩)
    ·exact .inl (.inl (.inl q))
    ·rcases rs.mp a with rfl|a
     ·exact .inl (.inl (.inr ⟨O,b⟩))
     ·exact .inr (.inl ⟨a,b⟩)
    ·rcases rs.mp a with rfl|a
     ·exact .inl (.inr ⟨m,b,d⟩)
     ·exact .inr (.inr ⟨v,m,a,b,d⟩)
end
end Tw
namespace Tw
section
variable {N:Nt}{goes:Nat->Nat->Int}{s0:Nat}{t0:Int}
structure OffI (N:Nt) (a:List Int) (P:Nat->Int->Prop) (o:Off):Prop where
 len:o.ab.length=N.n
 min:∀s,s<N.n->lw (P s) (o.ab.getD s 0)
 le:∀s,s<N.n->o.ab.getD s 0<=a.getD s 0
 ai:∀s,s∈o.ai↔s<N.n/\o.ab.getD s 0<a.getD s 0
theorem OffI.congr(h:OffI N b P o) (e:∀s,s<N.n->∀x,P s x↔Q s x):OffI N b Q o:=
 {h with min:=λs a=>(h.min s a).congr (e s a)}
theorem OffI.step{run:Nat}(h:OffI N g P o) (b:N.stop run cu<N.n) (f:N.comes run cu<FS):
  OffI N g (λs x=>P s x\/(s=N.stop run cu/\x=N.comes run cu)) (cP N run o cu):=by(
unfold cP;generalize j:N.stop run cu=st at b⊢;generalize i:N.comes run cu=c at f⊢;have put:=λs b=>((h.min s b).put (y:=c)).resolve_right (λq=>q f);by_cases q:c<o.ab.getD st 0
·rw[No q];have d:∀s,(o.ab.set st c).getD s 0=if s=st then c else o.ab.getD s 0:=λs=>gW (by rw[h.len];exact b) s 0;refine {len:=by simp[h.len],min:=λs a=>?_,le:=λs a=>?_,ai:=λs=>?_}
 ·show lw _ ((o.ab.set st c).getD s 0);rw[d];by_cases e:s=st
  ·rw[No e];subst e;have:=put s a;rw[No q]at this;exact this.congr λx=>by simp
  ·rw[Ps e];exact(h.min s a).congr λx=>by simp[e]
 ·show(o.ab.set st c).getD s 0<=_;rw[d];by_cases e:s=st
  ·rw[No e];subst e;have:=h.le s a;lia
  ·rw[Ps e];exact h.le s a
 ·show s∈(if st∈o.ai then o.ai else o.ai++[st])↔s<N.n/\(o.ab.set st c).getD s 0<_;rw[d];by_cases e:s=st
  ·rw[No e];subst e;have:=h.le s b;refine⟨λ_=>⟨b,by lia⟩,λ_=>?_⟩;split
   ·assumption
   ·simp
  ·rw[Ps e,<-h.ai s];split
   ·exact Iff.rfl
   ·simp[e]
·rw[Ps q];refine {h with min:=λs a=>?_};by_cases e:s=st
 ·subst e;have:=put s a;rw[Ps q]at this;exact this.congr λx=>by simp
 ·exact(h.min s a).congr λx=>by simp[e])
theorem Jd (run:Nat) (o:Off) (cu:Nat):(cP N run o cu).aa=o.aa:=by
 unfold cP;split<;>rfl
theorem Ah(run:Nat):∀(L:List Nat) {P:Nat->Int->Prop}{o:Off},(∀j,j∈L->N.stop run j<N.n/\N.comes run j<FS)->OffI N f P o->
  OffI N f (λs x=>P s x\/∃j,j∈L/\s=N.stop run j/\x=N.comes run j) (L.foldl (cP N run) o)/\(L.foldl (cP N run) o).aa=o.aa
 |[],P,o,_,h=>⟨h.congr λs _ x=>by simp,O⟩
 |j::L,P,o,c,h=>by
  rw[dS];obtain⟨h1,h2⟩:=c j (kw ..);obtain⟨d,e⟩:=Ah run L (λi hi=>c i (o0 _ hi)) (h.step h1 h2);refine⟨d.congr λs _ x=>?_,e.trans (Jd run o j)⟩;constructor
  ·rintro((q|q)|⟨i,a,b⟩)
   ·exact .inl q
   ·exact .inr ⟨j,kw ..,q⟩
   ·exact .inr ⟨i,o0 _ a,b⟩
  ·rintro(q|⟨i,a,b⟩)
   ·exact .inl (.inl q)
   ·rcases rs.mp a with rfl|a
    ·exact .inl (.inr b)
    ·exact .inr ⟨i,a,b⟩
def Behind (N:Nt) (aa:List Nat) (s:Nat) (x:Int):Prop:=∃r j,r<N.runs.length/\aa.getD r 0<j/\j<N.len r/\s=N.stop r j/\x=N.comes r j
structure f' (N:Nt) (b:List Int) (a:List Nat) (Wp:List on) (o:Off):Prop where
 off:OffI N b (Behind N o.aa) o
 cY:o.aa.length=N.runs.length
 fE:∀r,r<N.runs.length->o.aa.getD r 0<=a.getD r 0
 leB:∀e,e∈Wp->o.aa.getD e.2.1 0<=e.2.2
 from_:∀r,r<N.runs.length->o.aa.getD r 0=a.getD r 0\/∃e,e∈Wp/\e.2.1=r/\e.2.2=o.aa.getD r 0
theorem f'.run(ok:bz N goes) (h:f' N w t Wp o) (h0:∀r,r<N.runs.length->t.getD r 0<N.len r) (f:e.2.1<N.runs.length):f' N w t (Wp++[e]) (er N o e):=by(
obtain⟨g,run,call⟩:=e;simp only at f;unfold er;simp only;by_cases c:call<o.aa.getD run 0
·rw[No c];have C:=h.fE run f;have zp:=h0 run f;have k:∀r,(o.aa.set run call).getD r 0=if r=run then call else o.aa.getD r 0:=λr=>gW (by rw[h.cY];exact f) r 0;have z:OffI N w (Behind N o.aa) {o with aa:=o.aa.set run call}:= {len:=h.off.len,min:=h.off.min,le:=h.off.le,ai:=h.off.ai};obtain⟨u,i⟩:=Ah (N:=N) run (kA (call+1) (o.aa.getD run 0-call)) (λj A=>by
  rw[sW]at A;have h1:=ok.eO run j f (by lia);have h2:=ok.iJ run j f (by lia);exact⟨h1,by lia⟩) z
 generalize (kA (call+1) (o.aa.getD run 0-call)).foldl (cP N run) {o with aa:=o.aa.set run call}=o' at u i;simp only at i;refine {off:=u.congr λs _ x=>?_,cY:=by rw[i];simp[h.cY],fE:=λr l=>?_,leB:=λe n=>?_,from_:=λr l=>?_}
 ·unfold Behind;rw[i];constructor
  ·rintro(⟨r,j,d,b,m⟩|⟨j,d,b⟩)
   ·refine⟨r,j,d,?_,m⟩;rw[k];by_cases a:r=run
    ·rw[No a];subst a;lia
    ·rw[Ps a];exact b
   ·rw[sW]at d;exact⟨run,j,f,by rw[k,No rfl];lia,by lia,b⟩
  ·rintro⟨r,j,d,b,m,p⟩;rw[k]at b;by_cases a:r=run
   ·rw[No a]at b;subst a;by_cases y:o.aa.getD r 0<j
    ·exact .inl ⟨r,j,d,y,m,p⟩
    ·exact .inr ⟨j,by rw[sW];lia,p⟩
   ·rw[Ps a]at b;exact .inl ⟨r,j,d,b,m,p⟩
 ·rw[i,k];by_cases a:r=run
  ·rw[No a];subst a;lia
  ·rw[Ps a];exact h.fE r l
 ·rw[i,k];rcases cs.mp n with q|q
  ·have:=h.leB e q;by_cases a:e.2.1=run
   ·rw[No a];rw[a]at this;lia
   ·rw[Ps a];exact this
  ·simp at q;subst q;simp
 ·rw[i,k];by_cases a:r=run
  ·rw[No a];exact .inr ⟨(g,run,call),by simp,a.symm,O⟩
  ·rw[Ps a];rcases h.from_ r l with q|⟨e,d,b⟩
   ·exact .inl q
   ·exact .inr ⟨e,gx _ d,b⟩
·rw[Ps c];refine {h with leB:=λe n=>?_,from_:=λr l=>?_}
 ·rcases cs.mp n with q|q
  ·exact h.leB e q
  ·simp at q;subst q;simp only;lia
 ·rcases h.from_ r l with q|⟨e,d,b⟩
  ·exact .inl q
  ·exact .inr ⟨e,gx _ d,b⟩)
theorem f'.fold(ok:bz N goes) (h0:∀r,r<N.runs.length->a.getD r 0<N.len r):∀(L Wp:List on) {o:Off},(∀e,e∈L->e.2.1<N.runs.length)->f' N f a Wp o->f' N f a (Wp++L) (L.foldl (er N) o)
 |[],Wp,o,_,h=>by simpa using h
 |e::L,Wp,o,b,h=>by
  have:=f'.fold ok h0 L (Wp++[e]) (λc d=>b c (o0 _ d)) (h.run ok h0 (b e (kw ..)));rw[dv]at this;exact this
def oF (N:Nt) (goes:Nat->Nat->Int) (s0:Nat) (t0:Int) (k s:Nat) (x:Int) (r:Nat):Prop:=r<=k/\Ak N goes s0 t0 r s x/\∀m,m<r->¬Ak N goes s0 t0 m s x
def jT (N:Nt) (goes:Nat->Nat->Int) (s0:Nat) (t0:Int) (k:Nat) (e:on):Prop:=0<k/\bd N goes s0 t0 (k-1) e.2.1 e.2.2
structure SInv (N:Nt) (goes:Nat->Nat->Int) (s0:Nat) (t0:Int) (k:Nat) (S:SS):Prop where
 taken:S.taken=k
 mid:aL N (λ_ _=>False) (λ_ _ _=>True) (λ_=>False) (jT N goes s0 t0 k) (Ak N goes s0 t0 k) (Gk N goes s0 t0 k) {S with rides:=f8 N.n k}
 dq:S.rides.length=N.n
 rides:∀s,s<N.n->S.arr.getD s 0<FS->oF N goes s0 t0 k s (S.arr.getD s 0) (S.rides.getD s 0)
 e8:S.ab.length=N.n
 ab:∀s,s<N.n->lw (Rk N goes s0 t0 k s) (S.ab.getD s 0)
 cY:S.aa.length=N.runs.length
 gH:∀r,r<N.runs.length->S.aa.getD r 0<N.len r
 gI:∀r,r<N.runs.length->S.aa.getD r 0+1=N.len r\/(0<k/\bd N goes s0 t0 (k-1) r (S.aa.getD r 0))
 mG:∀r i,r<N.runs.length->i+1<N.len r->0<k->bd N goes s0 t0 (k-1) r i->S.aa.getD r 0<=i
theorem SInv.Ag(a:S.taken=k) (h:aL N b5 FR (λ_=>False) (jT N goes s0 t0 k) (Ak N goes s0 t0 k) (Gk N goes s0 t0 k) S)
  (b:∀s,s<N.n->S.arr.getD s 0<FS->oF N goes s0 t0 k s (S.arr.getD s 0) (S.rides.getD s 0))
  (e8:S.ab.length=N.n) (ab:∀s,s<N.n->lw (Rk N goes s0 t0 k s) (S.ab.getD s 0)) (cY:S.aa.length=N.runs.length) (gH:∀r,r<N.runs.length->S.aa.getD r 0<N.len r)
  (gI:∀r,r<N.runs.length->S.aa.getD r 0+1=N.len r\/(0<k/\bd N goes s0 t0 (k-1) r (S.aa.getD r 0)))
  (mG:∀r i,r<N.runs.length->i+1<N.len r->0<k->bd N goes s0 t0 (k-1) r i->S.aa.getD r 0<=i):SInv N goes s0 t0 k S:=
 ⟨a,{dn:=h.dn,dq:=by simp,dG:=h.dG,dH:=h.dH,arr:=h.arr,sub:=λ_ _ _ q=>q.elim,rides:=λs c _=>.inr ⟨λq=>q,by rw[a];simp[np,ou,c]⟩,ready:=h.ready,bH:=h.bH,d6:=h.d6,du:=h.du,dX:=h.dX,cX:=h.cX},h.dq,b,e8,ab,cY,gH,gI,mG⟩
theorem kL (ok:bz N goes) (t:s0<N.n) (E:t0+240<FS):SInv N goes s0 t0 0 (cp N s0 t0):=by(
have rep:∀ {J:Type}(n s:Nat) (x d:J),s<n->(f8 n x).getD s d=x:=λn s x d a=>by simp[np,ou,a]
have k:∀s,s<N.n->(N.af.map cC).getD s 0=(N.af.getD s []).length:=λs a=>by
 simp only[np,pr];rw[g1 (by rw[ok.hG];exact a)];rfl
have l:∀s,s<N.n->∀e,e∈N.af.getD s []->e.1<FS:=λs a e f=>by
 obtain⟨g,r,i⟩:=e;obtain⟨h1,h2,_,L⟩:=(ok.af s a g r i).mp f;have:=ok.k0 r i h1 (by lia);simp only;lia
have H:aL N (λ_ _=>False) (λ_ _ _=>True) (λ_=>False) (jT N goes s0 t0 0) (λ_ _=>False) (λ_ _=>False) (f1 N):= {
 dn:=by simp[f1]
 dq:=by simp[f1]
 dG:=by simp[f1]
 dH:=by simp[f1,ok.hG]
 arr:=λs a=>by show lw _ ((f8 N.n FS).getD s 0);rw[rep _ _ _ _ a];exact lw.never λ_ q=>q
 sub:=λ_ _ _ q=>q
 rides:=λs a h=>by
  have h:(f8 N.n FS).getD s 0<FS:=h;rw[rep _ _ _ _ a]at h;lia
 ready:=λs a=>by show lw _ ((f8 N.n FS).getD s 0);rw[rep _ _ _ _ a];exact lw.never λ_ q=>q
 bH:=λs a=>kn (k s a)
 d6:=λs a p b=>by
  have b:p<(N.af.map cC).getD s 0:=b;rw[k s a]at b;show _<(f8 N.n FS).getD s 0;rw[rep _ _ _ _ a];exact l s a _ (getD_mem b _)
 du:=λs a p b j=>by
  have b:(N.af.map cC).getD s 0<=p:=b;rw[k s a]at b;lia
 dX:=λe f=>by simp[f1]at f
 cX:=λs a e f j=>by
  have j:(f8 N.n FS).getD s 0<=e.1:=j;rw[rep _ _ _ _ a]at j;have:=l s a e f;lia}
have m1:=(H.av ok t (Is:=t0) (ready:=t0) (by lia) (by lia)).bI ok t E;have key:∀s x,Fk N goes s0 t0 0 s x↔((False\/(s=s0/\x=t0))\/∃m,(s,m)∈N.ft s0/\x=t0+m):=λs x=>by rw[tY];simp
have m2:aL N _ _ (λ_=>False) (jT N goes s0 t0 0) (Ak N goes s0 t0 0) (Gk N goes s0 t0 0) (cp N s0 t0):=m1.congr
 (λs _ x=>by rw[gE,<-key];exact⟨.inl,λq=>q.elim id λq=>absurd q lr⟩)
 (λs _ x=>by rw[<- key];exact⟨.inl,λq=>q.elim id λ⟨y,q,_⟩=>absurd q lr⟩)
obtain⟨u,w,z⟩:=B0 (N:=N) (av N (f1 N) s0 t0 t0) s0 t0;obtain⟨A,C,D⟩:=tn (N:=N) (f1 N) s0 t0 t0;have o:∀r,r<N.runs.length->(cp N s0 t0).aa.getD r 0=N.len r-1:=λr c=>by
 show(bI N _ s0 t0).aa.getD r 0=_;rw[z,D];show(N.runs.map λr=>r.1.length-1).getD r 0=_;simp only[np,pr,Nt.len];rw[g1 c];rfl
refine SInv.Ag (show(bI N _ s0 t0).taken=0 from u.trans A) m2 (λs a h=>?_) ?_ (λs a=>?_) ?_ (λr c=>?_) (λr c=>?_) (λr i _ _ h0=>absurd h0 (by lia))
·rcases m2.rides s a h with⟨q,_⟩|⟨_,q⟩
 ·exact q.elim
 ·rw[q,show(cp N s0 t0).taken=0 from u.trans A];refine⟨tz _,?_,λm hm=>absurd hm (by lia)⟩;rcases(m2.arr s a).1 with q|q
  ·exact q
  ·lia
·show(bI N _ s0 t0).ab.length=_;rw[w,C];simp[f1]
·show lw _ ((bI N _ s0 t0).ab.getD s 0);rw[w,C];show lw _ ((f8 N.n FS).getD s 0);rw[rep _ _ _ _ a];exact lw.never λ_ q=>lr q
·show(bI N _ s0 t0).aa.length=_;rw[z,D];simp[f1]
·rw[o r c];have:=ok.mS r c;lia
·rw[o r c];have:=ok.mS r c;exact .inl (by lia))
theorem MO(ok:bz N goes) (h:SInv N goes s0 t0 k S):SInv N goes s0 t0 (k+1) (cA N S):=by(
have hm:=h.mid;have mA:∀s,s<N.n->lw (Ak N goes s0 t0 k s) (S.arr.getD s 0):=hm.arr;have OJ:∀s,s<N.n->lw (Gk N goes s0 t0 k s) (S.ready.getD s 0):=hm.ready;have OL:∀e,e∈S.ae->e.2.1<N.runs.length/\e.2.2+1<N.len e.2.1/\bd N goes s0 t0 k e.2.1 e.2.2:=by
 rintro⟨g,r,i⟩ w;obtain⟨s,b,h1,h2⟩:=(hm.dX _ w).resolve_left id;have h2:S.ready.getD s 0<=g:=h2;obtain⟨a,c,f,C⟩:=(ok.af s b g r i).mp h1;refine⟨a,c,S.ready.getD s 0,?_,by rw[<- C];exact h2⟩;have hg:=ok.k0 r i a (by lia);simp only;rw[f];rcases(OJ s b).1 with q|q
 ·exact q
 ·rw[q]at h2;lia
have OW:∀r i,r<N.runs.length->i+1<N.len r->bd N goes s0 t0 k r i->jT N goes s0 t0 k (goes r i,r,i)\/(goes r i,r,i)∈S.ae:=by
 rintro r i d hi ⟨x,T,A⟩;have b:=ok.eO r i d (by lia);refine hm.cX _ b _ ((ok.af _ b _ _ _).mpr ⟨d,hi,O,O⟩) ?_;have:=(OJ _ b).2 x T;show S.ready.getD (N.stop r i) 0<=goes r i;lia
have l:f' N S.ab S.aa ([]++S.ae) (bF N S):=by
 refine f'.fold ok h.gH S.ae [] (λe w=>(OL e w).1) ?_;refine {off:= {len:=h.e8,min:=λs b=>(h.ab s b).congr λx=>?_,le:=λs b=>fj _,ai:=λs=>?_},cY:=h.cY,fE:=λr d=>tz _,leB:=λe w=>by simp at w,from_:=λr d=>.inl rfl}
 ·constructor
  ·rintro T;by_cases OV:k=0
   ·subst OV;exact absurd T lr
   ·have:=hP (N:=N) (goes:=goes) (s0:=s0) (t0:=t0) (k:=k-1) (s:=s) (x:=x);rw[show k-1+1=k by lia]at this;obtain⟨r,i,j,h1,h2,t,D,L⟩:=this.mp T;have:=h.mG r i h1 (by lia) (by lia) D;exact⟨r,j,h1,by simp only;lia,t,L⟩
  ·rintro⟨r,j,h1,h2,t,D,L⟩;rcases h.gI r h1 with q|⟨a,c⟩
   ·simp only at h2;lia
   ·have:=hP (N:=N) (goes:=goes) (s0:=s0) (t0:=t0) (k:=k-1) (s:=s) (x:=x);rw[show k-1+1=k by lia]at this;exact this.mpr ⟨r,_,j,h1,h2,t,c,D,L⟩
 ·simp
rw[l_]at l;generalize OX:bF N S=o at l;have OM:∀r,r<N.runs.length->o.aa.getD r 0+1=N.len r\/(o.aa.getD r 0+1<N.len r/\bd N goes s0 t0 k r (o.aa.getD r 0)):=by
 intro r d;have h1:=l.fE r d;have h2:=h.gH r d;rcases l.from_ r d with q|⟨e,a,c,f⟩
 ·rcases h.gI r d with p|⟨O0,p2⟩
  ·exact .inl (by lia)
  ·by_cases e:o.aa.getD r 0+1=N.len r
   ·exact .inl e
   ·exact .inr ⟨by lia,by rw[q];exact Fi (by lia) p2⟩
 ·obtain⟨O0,p2,OO⟩:=OL e a;rw[c,f]at OO;rw[c,f]at p2;exact .inr ⟨p2,OO⟩
have ON:∀r i,r<N.runs.length->i+1<N.len r->bd N goes s0 t0 k r i->o.aa.getD r 0<=i:=by
 intro r i d hi OK;rcases OW r i d hi OK with⟨a,c⟩|q
 ·have:=h.mG r i d hi a c;have:=l.fE r d;lia
 ·exact l.leB _ q
have E:∀s,s<N.n->lw (Rk N goes s0 t0 (k+1) s) (o.ab.getD s 0):=λs b=>(l.off.min s b).congr λx=>by
 rw[hP];constructor
 ·rintro⟨r,j,h1,h2,t,D⟩;rcases OM r h1 with q|⟨_,q⟩
  ·lia
  ·exact⟨r,_,j,h1,h2,t,q,D⟩
 ·rintro⟨r,i,j,h1,h2,t,D,L⟩;have:=ON r i h1 (by lia) D;exact⟨r,j,h1,by lia,t,L⟩
have OZ:aL N (Ak N goes s0 t0 k) (oF N goes s0 t0 k) (λ_=>False) (jT N goes s0 t0 (k+1)) (Ak N goes s0 t0 k) (Gk N goes s0 t0 k) {S with taken:=S.taken+1,aa:=o.aa,ab:=o.ab,ae:=[]}:= {
 dn:=hm.dn,dq:=h.dq,dG:=hm.dG,dH:=hm.dH,arr:=mA,sub:=λ_ _ _ q=>q
 rides:=λs b Q=>by
  refine .inl ⟨?_,h.rides s b Q⟩;rcases(mA s b).1 with q|q
  ·exact q
  ·have Q:S.arr.getD s 0<FS:=Q;lia
 ready:=OJ,bH:=hm.bH,d6:=hm.d6,du:=hm.du
 dX:=λe w=>by simp at w
 cX:=λs b e w A=>by
  obtain⟨g,r,i⟩:=e;obtain⟨a,c,f,C⟩:=(ok.af s b g r i).mp w;have A:S.ready.getD s 0<=g:=A;have hg:=ok.k0 r i a (by lia);refine .inl ⟨by lia,S.ready.getD s 0,?_,by simp only;lia⟩;simp only[xh];rw[f];rcases(OJ s b).1 with q|q
  ·exact q
  ·rw[q]at A;lia}
have ea:∀u,u∈o.ai->u<N.n/\Rk N goes s0 t0 (k+1) u (o.ab.getD u 0)/\o.ab.getD u 0+240<FS:=by
 intro u hu;obtain⟨h1,h2⟩:=(l.off.ai u).mp hu;have t:Rk N goes s0 t0 (k+1) u (o.ab.getD u 0):=by
  rcases(E u h1).1 with q|q
  ·exact q
  ·rcases(h.ab u h1).1 with p|p
   ·obtain⟨r,i,j,a,c,f,_,_,C⟩:=hP.mp (u6 (ie _) p);have:=ok.iJ r j a f;lia
   ·lia
 refine⟨h1,t,?_⟩;obtain⟨r,i,j,a,c,f,_,_,C⟩:=hP.mp t;rw[C];exact ok.iJ r j a f
have m1:=uG ok o.ab o.ai (S:= {S with taken:=S.taken+1,aa:=o.aa,ab:=o.ab,ae:=[]}) rfl (λu hu=>⟨(ea u hu).1,(ea u hu).2.2⟩) OZ;have OU:cA N S=o.ai.foldl (ba N) {S with taken:=S.taken+1,aa:=o.aa,ab:=o.ab,ae:=[]}:=by
 unfold cA;rw[OX]
have keep:∀(U:List Nat) (Z:SS),(U.foldl (ba N) Z).taken=Z.taken/\(U.foldl (ba N) Z).ab=Z.ab/\(U.foldl (ba N) Z).aa=Z.aa:=by
 intro U
 induction U with
 |nil=>intro Z;exact⟨O,O,O⟩
 |cons u U OY=>
  intro Z;rw[dS];obtain⟨a1,a2,a3⟩:=OY (ba N Z u);obtain⟨OR,OS,OT⟩:=uH (N:=N) Z u;exact⟨a1.trans OR,a2.trans OS,a3.trans OT⟩
obtain⟨OI,OH,J⟩:=keep o.ai {S with taken:=S.taken+1,aa:=o.aa,ab:=o.ab,ae:=[]};rw[<- OU]at m1 OI OH J;simp only at OI OH J;have aG:∀u y,u<N.n->u∉o.ai->Rk N goes s0 t0 (k+1) u y->0<k/\∃z,Rk N goes s0 t0 k u z/\z<=y:=by
 intro u y hu d Y;have h1:=(E u hu).2 y Y;have h2:¬o.ab.getD u 0<S.ab.getD u 0:=λq=>d ((l.off.ai u).mpr ⟨hu,q⟩);obtain⟨r,i,j,a,c,f,_,_,C⟩:=hP.mp Y;have t:=ok.iJ r j a f;rcases(h.ab u hu).1 with q|q
 ·refine⟨?_,_,q,by lia⟩;cases k with
  |zero=>exact absurd q lr
  |succ k=>lia
 ·lia
have OQ:∀u s z m,0<k->Rk N goes s0 t0 k u z->(s,m)∈N.ft u->Fk N goes s0 t0 k s (z+m):=by
 intro u s z m H hz hf;have:=jG (N:=N) (goes:=goes) (s0:=s0) (t0:=t0) (k:=k-1) (s:=s) (x:=z+m);rw[show k-1+1=k by lia]at this;exact this.mpr (.inr ⟨u,z,m,hz,hf,O⟩)
have OP:∀u y,Rk N goes s0 t0 (k+1) u y->u<N.n:=by
 intro u y Y;obtain⟨r,i,j,a,c,f,_,C,_⟩:=hP.mp Y;rw[C];exact ok.eO r j a f
have m2:aL N (Ak N goes s0 t0 k) (oF N goes s0 t0 k) (λ_=>False) (jT N goes s0 t0 (k+1)) (Ak N goes s0 t0 (k+1)) (Gk N goes s0 t0 (k+1)) (cA N S):=by
 refine m1.widen (λs b x q=>?_) (λs b x q=>?_) (λs b x q=>?_) (λs b x q=>?_)
 ·rcases q with q|⟨a,c⟩|⟨u,m,a,c,f⟩
  ·exact tm (ie _) q
  ·rw[c];exact gE.mpr (.inr (ea s a).2.1)
  ·exact gE.mpr (.inl (jG.mpr (.inr ⟨u,_,m,(ea u a).2.1,c,f⟩)))
 ·rcases gE.mp q with q|q
  ·rcases jG.mp q with q|⟨u,y,m,a,c,f⟩
   ·exact⟨x,.inl (gE.mpr (.inl q)),fj _⟩
   ·have hu:=OP u y a;by_cases e:u∈o.ai
    ·have:=(E u hu).2 y a;exact⟨_,.inr (.inr ⟨u,m,e,c,O⟩),by lia⟩
    ·obtain⟨H,z,hz,A⟩:=aG u y hu e a;exact⟨z+m,.inl (gE.mpr (.inl (OQ u s z m H hz c))),by lia⟩
  ·by_cases e:s∈o.ai
   ·have:=(E s b).2 x q;exact⟨_,.inr (.inl ⟨e,O⟩),this⟩
   ·obtain⟨H,z,hz,A⟩:=aG s x b e q;exact⟨z,.inl (gE.mpr (.inr hz)),A⟩
 ·rcases q with q|⟨a,c⟩|⟨u,m,a,c,f⟩
  ·exact zo (ie _) q
  ·exact .inr ⟨_,(ea s a).2.1,c⟩
  ·exact .inl (jG.mpr (.inr ⟨u,_,m,(ea u a).2.1,c,f⟩))
 ·rcases q with q|⟨y,q,O1⟩
  ·rcases jG.mp q with q|⟨u,y,m,a,c,f⟩
   ·exact⟨x,.inl (.inl q),fj _⟩
   ·have hu:=OP u y a;by_cases e:u∈o.ai
    ·have:=(E u hu).2 y a;exact⟨_,.inr (.inr ⟨u,m,e,c,O⟩),by lia⟩
    ·obtain⟨H,z,hz,A⟩:=aG u y hu e a;exact⟨z+m,.inl (.inl (OQ u s z m H hz c)),by lia⟩
  ·by_cases e:s∈o.ai
   ·have:=(E s b).2 y q;exact⟨_,.inr (.inl ⟨e,O⟩),by lia⟩
   ·obtain⟨H,z,hz,A⟩:=aG s y b e q;exact⟨z+N.chg.getD s 0,.inl (.inr ⟨z,hz,O⟩),by lia⟩
refine SInv.Ag (by rw[OI,h.taken]) m2 (λs b Q=>?_) (by rw[OH];exact l.off.len) (λs b=>by rw[OH];exact E s b) (by rw[J];exact l.cY) (λr d=>?_) (λr d=>?_) (λr i d hi _ OK=>?_)
·rcases m2.rides s b Q with⟨_,q⟩|⟨a,c⟩
 ·exact⟨by have:=q.1;lia,q.2.1,q.2.2⟩
 ·rw[c,OI,h.taken];refine⟨tz _,?_,λm hm q=>a (tm (by lia) q)⟩;rcases(m2.arr s b).1 with q|q
  ·exact q
  ·lia
·rw[J];have:=l.fE r d;have:=h.gH r d;lia
·rw[J];rcases OM r d with q|⟨_,q⟩
 ·exact .inl q
 ·exact .inr ⟨by lia,by simpa using q⟩
·rw[J];exact ON r i d hi (by simpa using OK))
theorem vh(ok:bz N goes) (h:SInv N goes s0 t0 k S) (t:S.ae=[]) (g:s<N.n):
  lw (λx=>∃n w,NJ N goes s0 t0 n w s x) (S.arr.getD s 0)/\(S.arr.getD s 0<FS->eg (λn=>∃w,NJ N goes s0 t0 n w s (S.arr.getD s 0)) (some (S.rides.getD s 0))):=by(
have u:∀r i,r<N.runs.length->i+1<N.len r->bd N goes s0 t0 k r i->0<k/\bd N goes s0 t0 (k-1) r i:=by
 rintro r i f hi ⟨x,a,y⟩;have b:=ok.eO r i f (by lia);have:=(h.mid.ready _ b).2 x a;rcases h.mid.cX _ b _ ((ok.af _ b _ _ _).mpr ⟨f,hi,O,O⟩) (by show S.ready.getD (N.stop r i) 0<=goes r i;exact xr this y)with q|q
 ·exact q
 ·have q:(goes r i,r,i)∈S.ae:=q;rw[t]at q;simp at q
have p:∀n w x,NJ N goes s0 t0 n w s x->Ak N goes s0 t0 k s x:=by
 intro n w x a;by_cases e:n<=k
 ·exact⟨n,w,e,a⟩
 ·obtain⟨c,d⟩:=yo u (n-k);rw[show k+(n-k)=n by lia]at c d;rcases gE.mp (⟨n,w,tz _,a⟩:Ak N goes s0 t0 n s x)with q|q
  ·exact gE.mpr (.inl ((d s x).mp q))
  ·exact gE.mpr (.inr ((c s x).mp q))
have o:lw (Ak N goes s0 t0 k s) (S.arr.getD s 0):=h.mid.arr s g;refine⟨o.congr λx=>⟨λ⟨n,w,_,q⟩=>⟨n,w,q⟩,λ⟨n,w,q⟩=>p n w x q⟩,λz=>?_⟩;obtain⟨C,⟨n,w,D,j⟩,l⟩:=h.rides s g z;have en:n=S.rides.getD s 0:=by
 by_cases e:n<S.rides.getD s 0
 ·exact absurd ⟨n,w,tz _,j⟩ (l n e)
 ·lia
subst en;exact⟨⟨w,j⟩,λm hm ⟨A,q⟩=>l m hm ⟨m,A,tz _,q⟩⟩)
end
end Tw
namespace Tw
structure Sys where
 ride:Nat->Int->Nat->Int->Prop
 walk:Nat->Nat->Int->Prop
 chg:Nat->Int
inductive GJ (Y:Sys) (s0:Nat) (t0:Int):Nat->Nat->Nat->Int->Prop
 |start:GJ Y s0 t0 0 0 s0 t0
 |walk {n w s g:Nat}{x m:Int}:GJ Y s0 t0 n w s x->w≠2->Y.walk s g m->GJ Y s0 t0 n 2 g (x+m)
 |ride {n w s s':Nat}{x g c:Int}:GJ Y s0 t0 n w s x->Y.ride s g s' c->x+(if w=1 then Y.chg s else 0)<=g->GJ Y s0 t0 (n+1) 1 s' c
def Sys.back (Y:Sys):Sys:=⟨λs g s' c=>Y.ride s' (-c) s (-g),λs s' m=>Y.walk s' s m,Y.chg⟩
def gD (Y:Sys) (s:Nat) (x:Int) (s':Nat) (y:Int):Prop:=(s=s'/\x<=y)\/∃m,Y.walk s s' m/\x+m<=y
def iv (Y:Sys) (s:Nat) (x:Int) (s':Nat) (y:Int):Prop:=(s=s'/\x+Y.chg s<=y)\/∃m,Y.walk s s' m/\x+m<=y
def Rd (Y:Sys) (s:Nat) (x:Int):Nat->Nat->Int->Prop
 |0,s',c=>∃a g,gD Y s x a g/\Y.ride a g s' c
 |n+1,s',c=>∃b c2 a g,Rd Y s x n b c2/\iv Y b c2 a g/\Y.ride a g s' c
def Dr (Y:Sys) (s':Nat) (y:Int):Nat->Nat->Int->Prop
 |0,s,g=>∃a c,Y.ride s g a c/\gD Y a c s' y
 |n+1,s,g=>∃a c b g3,Y.ride s g a c/\iv Y a c b g3/\Dr Y s' y n b g3
section
variable {Y:Sys}{s s':Nat}{x y:Int}
theorem yB:∀(m n:Nat),(∃a c2 b g3,Rd Y s x n a c2/\iv Y a c2 b g3/\Dr Y s' y m b g3)↔∃a c2 b g3,Rd Y s x 0 a c2/\iv Y a c2 b g3/\Dr Y s' y (n+m) b g3
 |m,0=>by rw[sq]
 |m,n+1=>by
  have h:=yB (m+1) n;rw[show n+(m+1)=n+1+m by lia]at h;rw[<- h];constructor
  ·rintro⟨a,c2,b,g3,⟨f,c4,g,g5,h1,h2,c⟩,d,e⟩;exact⟨f,c4,g,g5,h1,h2,a,c2,b,g3,c,d,e⟩
  ·rintro⟨f,c4,g,g5,h1,h2,a,c2,b,g3,c,d,e⟩;exact⟨a,c2,b,g3,⟨f,c4,g,g5,h1,h2,c⟩,d,e⟩
theorem Lo (n:Nat):(∃a c2,Rd Y s x n a c2/\gD Y a c2 s' y)↔∃e d,gD Y s x e d/\Dr Y s' y n e d:=by(
cases n with
|zero=>
 constructor
 ·rintro⟨a,c2,⟨e,d,h1,h2⟩,c⟩;exact⟨e,d,h1,a,c2,h2,c⟩
 ·rintro⟨e,d,h1,a,c2,h2,c⟩;exact⟨a,c2,⟨e,d,h1,h2⟩,c⟩
|succ n=>
 have b:=yB (Y:=Y) (s:=s) (s':=s') (x:=x) (y:=y) 0 n;rw[Nat.add_zero]at b;constructor
 ·rintro⟨a,c2,⟨o,c4,p,g5,h1,h2,c⟩,i⟩;obtain⟨a2,g,a3,h,⟨a1,f,j,k⟩,l,m⟩:=b.mp ⟨o,c4,p,g5,h1,h2,a,c2,c,i⟩;exact⟨a1,f,j,a2,g,a3,h,k,l,m⟩
 ·rintro⟨a1,f,j,a2,g,a3,h,k,l,m⟩;obtain⟨o,c4,p,g5,h1,h2,a,c2,c,i⟩:=b.mpr ⟨a2,g,a3,h,⟨a1,f,j,k⟩,l,m⟩;exact⟨a,c2,⟨o,c4,p,g5,h1,h2,c⟩,i⟩)
theorem mT:gD Y.back s' (-y) s (-x)↔gD Y s x s' y:=by(
unfold gD Sys.back;constructor
·rintro(⟨rfl,h⟩|⟨m,h1,h2⟩)
 ·exact .inl ⟨O,by lia⟩
 ·exact .inr ⟨m,h1,by lia⟩
·rintro(⟨rfl,h⟩|⟨m,h1,h2⟩)
 ·exact .inl ⟨O,by lia⟩
 ·exact .inr ⟨m,h1,by lia⟩)
theorem z3:iv Y.back s' (-y) s (-x)↔iv Y s x s' y:=by(
unfold iv Sys.back;constructor
·rintro(⟨rfl,h⟩|⟨m,h1,h2⟩)
 ·exact .inl ⟨O,by simp only at h;lia⟩
 ·exact .inr ⟨m,h1,by lia⟩
·rintro(⟨rfl,h⟩|⟨m,h1,h2⟩)
 ·exact .inl ⟨O,by simp only;lia⟩
 ·exact .inr ⟨m,h1,by lia⟩)
theorem lp:∀(n s:Nat) (g:Int),Rd Y.back s' (-y) n s (-g)↔Dr Y s' y n s g
 |0,s,g=>by
  constructor
  ·rintro⟨a,c,h1,h2⟩;have e:Y.ride s (- -g) a (-c):=h2;rw[dU]at e;refine⟨a,-c,e,?_⟩;rw[<- mT,dU];exact h1
  ·rintro⟨a,c,h1,h2⟩;refine⟨a,-c,mT.mpr h2,?_⟩;show Y.ride s (- -g) a (- -c);rw[dU,dU];exact h1
 |n+1,s,g=>by
  constructor
  ·rintro⟨b,g3,a,c,h1,h2,d⟩;have f:Y.ride s (- -g) a (-c):=d;rw[dU]at f;refine⟨a,-c,b,-g3,f,?_,?_⟩
   ·rw[<- z3,dU,dU];exact h2
   ·rw[<- lp n b (-g3),dU];exact h1
  ·rintro⟨a,c,b,g3,h1,h2,d⟩;refine⟨b,-g3,a,-c,(lp n b g3).mpr d,z3.mpr h2,?_⟩;show Y.ride s (- -g) a (- -c);rw[dU,dU];exact h1
theorem kY(h:GJ Y s0 t0 n w s x):(n=0/\w=0/\s=s0/\x=t0)\/w=1\/w=2:=by(
cases h with
|start=>exact .inl ⟨O,O,O,O⟩
|walk _ _ _=>exact .inr (.inr rfl)
|ride _ _ _=>exact .inr (.inl rfl))
theorem mK(h:GJ Y s0 t0 n w s x):(w=0->n=0/\s=s0/\x=t0)/\(w=2->∃u z m,Y.walk u s m/\x=z+m/\((n=0/\u=s0/\z=t0)\/GJ Y s0 t0 n 1 u z)):=by(
cases h with
|start=>exact⟨λ_=>⟨O,O,O⟩,λe=>by cases e⟩
|@walk n w u g z m h hw d=>
 refine⟨λe=>(by cases e),λ_=>⟨u,z,m,d,O,?_⟩⟩;rcases kY h with⟨a,f,b,c⟩|e|e
 ·exact .inl ⟨a,b,c⟩
 ·subst e;exact .inr h
 ·exact absurd e hw
|ride _ _ _=>exact⟨λe=>(by cases e),λe=>(by cases e)⟩)
theorem iN:∀(n s:Nat) (c:Int),GJ Y s0 t0 (n+1) 1 s c↔Rd Y s0 t0 n s c
 |0,s,c=>by
  constructor
  ·intro h;cases h with
   |@ride n w u _ z g _ h d b=>
    refine⟨u,g,?_,d⟩;rcases kY h with⟨_,k,l,o⟩|e|e
    ·subst k l o;exact .inl ⟨O,by simpa using b⟩
    ·subst e;cases h
    ·subst e;obtain⟨v,i,m,h1,h2,a⟩:=(mK h).2 rfl;rcases a with⟨_,rfl,rfl⟩|a
     ·exact .inr ⟨m,h1,by rw[Ps (by decide)]at b;lia⟩
     ·cases a
  ·rintro⟨q,g,h1,h2⟩;rcases h1 with⟨rfl,h1⟩|⟨m,h1,a⟩
   ·exact GJ.ride .start h2 (by simpa using h1)
   ·exact GJ.ride (GJ.walk .start (by decide) h1) h2 (by simpa using a)
 |n+1,s,c=>by
  constructor
  ·intro h;cases h with
   |@ride _ w u _ z g _ h d b=>
    rcases kY h with⟨f,_⟩|e|e
    ·cases f
    ·subst e;exact⟨u,z,u,g,(iN n u z).mp h,.inl ⟨O,by simpa using b⟩,d⟩
    ·subst e;obtain⟨v,i,m,h1,h2,a⟩:=(mK h).2 rfl;rcases a with⟨f,_⟩|a
     ·cases f
     ·exact⟨v,i,u,g,(iN n v i).mp a,.inr ⟨m,h1,by rw[Ps (by decide)]at b;lia⟩,d⟩
  ·rintro⟨r,c2,q,g,h1,h2,a⟩;have j:=(iN n r c2).mpr h1;rcases h2 with⟨rfl,h2⟩|⟨m,h2,p⟩
   ·exact GJ.ride j a (by simpa using h2)
   ·exact GJ.ride (GJ.walk j (by decide) h2) a (by simpa using p)
def By (Y:Sys) (s0:Nat) (t0:Int) (n s:Nat) (y:Int):Prop:=∃w x,GJ Y s0 t0 n w s x/\x<=y
theorem yE:By Y s0 t0 0 s y↔gD Y s0 t0 s y:=by(
constructor
·rintro⟨w,x,h,b⟩;rcases kY h with⟨_,_,rfl,rfl⟩|e|e
 ·exact .inl ⟨O,b⟩
 ·subst e;cases h
 ·subst e;obtain⟨v,c,m,h1,h2,a⟩:=(mK h).2 rfl;rcases a with⟨_,rfl,rfl⟩|a
  ·exact .inr ⟨m,h1,by lia⟩
  ·cases a
·rintro(⟨rfl,h⟩|⟨m,h1,h2⟩)
 ·exact⟨0,t0,.start,h⟩
 ·exact⟨2,t0+m,.walk .start (by decide) h1,h2⟩)
theorem yD:By Y s0 t0 (n+1) s y↔∃a c2,Rd Y s0 t0 n a c2/\gD Y a c2 s y:=by(
constructor
·rintro⟨w,x,h,g⟩;rcases kY h with⟨e,_⟩|e|e
 ·cases e
 ·subst e;exact⟨s,x,(iN n s x).mp h,.inl ⟨O,g⟩⟩
 ·subst e;obtain⟨v,d,m,h1,h2,b⟩:=(mK h).2 rfl;rcases b with⟨e,_⟩|b
  ·cases e
  ·exact⟨v,d,(iN n v d).mp b,.inr ⟨m,h1,by lia⟩⟩
·rintro⟨a,c2,h1,h2⟩;have c:=(iN n a c2).mpr h1;rcases h2 with⟨rfl,h2⟩|⟨m,h2,f⟩
 ·exact⟨1,c2,c,h2⟩
 ·exact⟨2,c2+m,.walk c (by decide) h2,f⟩)
theorem Fv(n:Nat):By Y.back b (-v) n a (-u)↔By Y a u n b v:=by(
cases n with
|zero=>rw[yE,yE];exact mT
|succ n=>
 rw[yD,yD,Lo (Y:=Y)];constructor
 ·rintro⟨e,c2,h1,h2⟩;refine⟨e,-c2,?_,?_⟩
  ·rw[<- mT,dU];exact h2
  ·rw[<- lp,dU];exact h1
 ·rintro⟨d,c,h1,h2⟩;exact⟨d,-c,(lp n d c).mpr h2,mT.mpr h1⟩)
end
noncomputable def Nt.sys (N:Nt) (goes:Nat->Nat->Int):Sys:=⟨λs g s' c=>∃r i j,r<N.runs.length/\i<j/\j<N.len r/\s=N.stop r i/\g=goes r i/\s'=N.stop r j/\c=N.comes r j,λs g m=>(g,m)∈N.ft s,λs=>N.chg.getD s 0⟩
theorem eo:NJ N goes s0 t0 n w s x↔GJ (N.sys goes) s0 t0 n w s x:=by(
constructor
·intro h
 induction h with
 |start=>exact .start
 |walk _ hw hf a=>exact .walk a hw hf
 |ride _ h1 h2 b c d a=>exact .ride a ⟨_,_,_,h1,h2,b,c.symm,O,O,O⟩ d
·intro h
 induction h with
 |start=>exact .start
 |walk _ hw hf a=>exact .walk a hw hf
 |ride _ k g a=>
  obtain⟨r,i,j,h1,h2,b,c,d,e,f⟩:=k;rw[e,f];exact .ride a h1 h2 b c.symm (by rw[<- d];exact g))
open Sg45 in
noncomputable def aH (T:t1) (M:Nat):Sys:=⟨λs g s' c=>∃x,x∈v4 T M/\∃i j,i<j/\j<x.2.2.calls.length/\s=x.2.2.stopAt i/\g=x.2.2.goes M x.2.1 i/\s'=x.2.2.stopAt j/\c=x.2.2.comes M x.2.1 j,λs g m=>∃w,w∈T.walks/\w.from_=s/\w.to=g/\m=(w.minutes:Int),λs=>((T.stops.getD s 0:Nat):Int)⟩
theorem zB:Jn T M ⟨s0,t0,0⟩ n y↔GJ (aH T M) s0 t0 n y.way y.halt y.time:=by(
constructor
·intro h
 induction h with
 |nil=>exact .start
 |walk _ g a=>
  obtain⟨w,b,c,d,rfl⟩:=aM.mp g;exact .walk a d ⟨w,pi b,c,O,O⟩
 |@ride n y z p k i j _ g a=>
  obtain⟨tr,b,c,d,m,o,q,r,rfl⟩:=bP.mp g;exact .ride a ⟨(p,k,tr),dr.mpr ⟨b,c,d⟩,i,j,m,o,q.symm,O,O,O⟩ (by simpa [chg,aH]using r)
·obtain⟨C,D,E⟩:=y;simp only;intro h
 induction h with
 |start=>exact .nil
 |walk _ hw u a=>
  obtain⟨w,h1,h2,e,f⟩:=u;obtain⟨i,hi⟩:=fW.mp h1;exact Jn.walk a (aM.mpr ⟨w,hi,h2,hw,by rw[e,f]⟩)
 |ride _ x l a=>
  obtain⟨⟨p,k,tr⟩,A,i,j,h1,h2,e,f,s,t⟩:=x;obtain⟨b,c,d⟩:=dr.mp A;exact Jn.ride a (bP.mpr ⟨tr,b,c,d,h1,h2,e.symm,by rw[f]at l;simpa [chg,aH]using l,by rw[s,t]⟩))
theorem GJ.map(f:∀s g s' c,Y.ride s g s' c->Z.ride s g s' c) (hw:∀s g m,Y.walk s g m->Z.walk s g m) (b:∀s,Y.chg s=Z.chg s) (h:GJ Y s0 t0 n w s x):GJ Z s0 t0 n w s x:=by(
induction h with
|start=>exact .start
|walk _ j d a=>exact .walk a j (hw _ _ _ d)
|ride _ i e a=>exact .ride a (f _ _ _ _ i) (by rw[<- b];exact e))
def dh (Y Z:Sys):Prop:=(∀s g s' c,Y.ride s g s' c↔Z.ride s g s' c)/\(∀s g m,Y.walk s g m↔Z.walk s g m)/\∀s,Y.chg s=Z.chg s
theorem dh.gj(h:dh Y Z) :GJ Y s0 t0 n w s x↔GJ Z s0 t0 n w s x:=
 ⟨GJ.map (λ_ _ _ _=>(h.1 _ _ _ _).mp) (λ_ _ _=>(h.2.1 _ _ _).mp) h.2.2,GJ.map (λ_ _ _ _=>(h.1 _ _ _ _).mpr) (λ_ _ _=>(h.2.1 _ _ _).mpr) λs=>(h.2.2 s).symm⟩
theorem gY:ap T M a t n s x↔∃w,GJ (aH T M) a t n w s x:=by(
unfold ap;constructor
·rintro⟨w,h⟩;exact⟨w,zB.mp h⟩
·rintro⟨w,h⟩;exact⟨w,zB.mpr h⟩)
theorem I5(ok:bz N goes) (h0:s0<N.n) (h:NJ N goes s0 t0 n w s x):s<N.n:=by(
induction h with
|start=>exact h0
|walk _ _ hf b=>exact(ok.foot _ _ _ b hf).1
|ride _ h1 _ a _ _ _=>exact ok.eO _ _ h1 a)
theorem iR(ok:bz N goes) (h0:s0<N.n) (b:t0+240<FS) (h:NJ N goes s0 t0 n w s x):x<FS/\(w≠2->x+240<FS):=by(
induction h with
|start=>exact⟨by lia,λ_=>b⟩
|walk h hw hf c=>
 have:=(ok.foot _ _ _ (I5 ok h0 h) hf).2.2;have:=c.2 hw;exact⟨by lia,λq=>absurd rfl q⟩
|ride _ h1 _ a _ _ _=>
 have:=ok.iJ _ _ h1 a;exact⟨by lia,λ_=>this⟩)
theorem t8(ok:bz N goes) (same:dh (N.sys goes) (aH T M)) (h:SInv N goes a t k S) (b:S.ae=[]) (d:s<N.n):
  lw (λx=>∃n,ap T M a t n s x) (S.arr.getD s 0)/\(S.arr.getD s 0<FS->eg (λn=>ap T M a t n s (S.arr.getD s 0)) (some (S.rides.getD s 0))):=by(
have e:∀n x,(∃w,NJ N goes a t n w s x)↔ap T M a t n s x:=λn x=>by
 rw[gY];exact⟨λ⟨w,q⟩=>⟨w,same.gj.mp (eo.mp q)⟩,λ⟨w,q⟩=>⟨w,eo.mpr (same.gj.mpr q)⟩⟩
obtain⟨h1,h2⟩:=vh ok h b d;exact⟨h1.congr λx=>⟨λ⟨n,q⟩=>⟨n,(e n x).mp q⟩,λ⟨n,q⟩=>⟨n,(e n x).mpr q⟩⟩,λc=>(h2 c).congr λn=>e n _⟩)
theorem Fu(ok:bz N goes) (same:dh (N.sys goes) (aH T M).back) (h:SInv N goes b (-d) k S) (o:S.ae=[]) (p:a<N.n) (m:b<N.n) (r: -d+240<FS):
  (S.arr.getD a 0<FS->eg (λn=>∃x,ap T M a (-(S.arr.getD a 0)) n b x/\x<=d) (some (S.rides.getD a 0))/\∀v n x,-(S.arr.getD a 0)<v->ap T M a v n b x->d<x)/\
  (¬S.arr.getD a 0<FS->∀v n x,ap T M a v n b x->d<x):=by(
obtain⟨h1,h2⟩:=vh ok h o p;have key:∀(u:Int) (n:Nat),(∃x,ap T M a u n b x/\x<=d)↔∃w x,NJ N goes b (-d) n w a x/\x<= -u:=by
 intro u n;have:=Fv (Y:=aH T M) (a:=a) (b:=b) (u:=u) (v:=d) n;constructor
 ·rintro⟨x,q,g⟩;obtain⟨w,q⟩:=gY.mp q;obtain⟨j,f,e,i⟩:=this.mpr ⟨w,x,q,g⟩;exact⟨j,f,eo.mpr (same.gj.mpr e),i⟩
 ·rintro⟨j,f,e,i⟩;obtain⟨w,x,q,g⟩:=this.mp ⟨j,f,same.gj.mp (eo.mp e),i⟩;exact⟨x,gY.mpr ⟨w,q⟩,g⟩
refine⟨λl=>⟨(h2 l).congr λn=>?_,λv n x hv q=>?_⟩,λl v n x q=>?_⟩
·rw[key];constructor
 ·rintro⟨w,q⟩;exact⟨w,_,q,by lia⟩
 ·rintro⟨w,x,q,g⟩;have:=h1.2 x ⟨n,w,q⟩;rw[show x=S.arr.getD a 0 by lia]at q;exact⟨w,q⟩
·by_cases c:x<=d
 ·obtain⟨w,f,e,g⟩:=(key v n).mp ⟨x,q,c⟩;have:=h1.2 f ⟨n,w,e⟩;lia
 ·lia
·by_cases c:x<=d
 ·obtain⟨w,f,e,g⟩:=(key v n).mp ⟨x,q,c⟩;have:=h1.2 f ⟨n,w,e⟩;have:=(iR ok m r e).1;lia
 ·lia)
end Tw
namespace Tw
abbrev aQ:=List Nat×List Int×List Int
abbrev Wk:=Nat×Nat×Int
def p7 (R:List aQ) (W:List Wk) (c:Nat->Int):Sys:=⟨λs g s' k=>∃x,x∈R/\∃i j,i<j/\j<x.1.length/\s=x.1.getD i 0/\g=x.2.2.getD i 0/\s'=x.1.getD j 0/\k=x.2.1.getD j 0,λs g m=>(s,g,m)∈W,c⟩
structure mr (n:Nat) (R:List aQ):Prop where
 pos:∀x,x∈R->0<x.1.length
 comes:∀x,x∈R->x.2.1.length=x.1.length
 goes:∀x,x∈R->x.2.2.length=x.1.length
 stops:∀x,x∈R->∀s,s∈x.1->s<n
 Fw:∀x,x∈R->∀c,c∈x.2.1->c+240<FS
 G0:∀x,x∈R->∀g,g∈x.2.2->g<FS
noncomputable def f0 (R:List aQ) (r i:Nat):Int:=(R.getD r ([],[],[])).2.2.getD i 0
noncomputable def ey (r:Nat) (x:aQ):List (Nat×on):=(s4 (x.1.length-1)).map λi=>(x.1.getD i 0,x.2.2.getD i 0,r,i)
noncomputable def ei (R:List aQ):List (Nat×on):=R.zipIdx.flatMap λx=>ey x.2 x.1
noncomputable def jF (R:List aQ) (s:Nat):List on:=((ei R).filter λd=>d.1==s).map (·.2)
noncomputable def dm (W:List Wk) (s:Nat):List (Nat×Int×Nat):=(W.zipIdx.filter λw=>w.1.1==s).map λw=>(w.1.2.1,w.1.2.2,w.2)
def iK (a b:on):Prop:=a.1<b.1\/(a.1=b.1/\(a.2.1<b.2.1\/(a.2.1=b.2.1/\a.2.2<=b.2.2)))
structure ss (a:List Int) (R:List aQ) (gt:List (Nat×Int)) (W:List Wk) (N:Nt):Prop where
 chg:N.chg=a
 aZ:N.aZ=gt
 runs:N.runs=R.map λx=>(x.1,x.2.1)
 hG:N.af.length=a.length
 mI:N.foot.length=a.length
 perm:∀s,s<a.length->(N.af.getD s []).Perm (jF R s)
 sorted:∀s,s<a.length->(N.af.getD s []).Pairwise iK
 foot:∀s,s<a.length->N.foot.getD s []=dm W s
theorem z_:(g,r,i)∈jF R s↔∃x,R[r]?=some x/\i+1<x.1.length/\x.1.getD i 0=s/\g=x.2.2.getD i 0:=by(
unfold jF ei ey;simp only[mo,f5,fk,gu,bR];constructor
·rintro⟨⟨u,d⟩,⟨⟨⟨x,t⟩,q,k,p,e⟩,a⟩,b⟩;simp only at a b e p;injection e with c f;subst b;injection f with h j;injection j with l m;subst l m;exact⟨x,ig.mp q,by lia,by rw[c];exact a,h.symm⟩
·rintro⟨x,h1,h2,n,o⟩;exact⟨(s,g,r,i),⟨⟨(x,r),ig.mpr h1,i,by simp only;lia,by rw[n,o]⟩,O⟩,O⟩)
theorem ux:(g,m,q)∈dm W s↔W[q]?=some (s,g,m):=by(
unfold dm;simp only[mo,f5,gu];constructor
·rintro⟨⟨⟨a,b,c⟩,d⟩,⟨h1,h2⟩,f⟩;simp only at h2 f;injection f with i e;injection e with e j;subst h2 i e j;exact ig.mp h1
·intro h;exact⟨((s,g,m),q),⟨ig.mpr h,O⟩,O⟩)
section
variable {chg:List Int}{R:List aQ}{gt:List (Nat×Int)}{W:List Wk}{N:Nt}
theorem ss.n (h:ss chg R gt W N):N.n=chg.length:=by unfold Nt.n;rw[h.chg]
theorem ss.e9 (h:ss chg R gt W N):N.runs.length=R.length:=by rw[h.runs,FM]
theorem ss.run (h:ss chg R gt W N) (r:Nat):N.runs.getD r ([],[])=((R.getD r ([],[],[])).1,(R.getD r ([],[],[])).2.1):=by
 rw[h.runs];simp only[np,pr];cases R[r]?<;>rfl
theorem ss.len (h:ss chg R gt W N) (r:Nat):N.len r=(R.getD r ([],[],[])).1.length:=by unfold Nt.len;rw[h.run]
theorem ss.stop (h:ss chg R gt W N) (r i:Nat):N.stop r i=(R.getD r ([],[],[])).1.getD i 0:=by unfold Nt.stop;rw[h.run]
theorem ss.comes (h:ss chg R gt W N) (r i:Nat):N.comes r i=(R.getD r ([],[],[])).2.1.getD i 0:=by unfold Nt.comes;rw[h.run]
theorem getD_some{a:Type}{l:List a}(h:i<l.length) (d:a):l[i]?=some (l.getD i d):=by
 rw[np,g1 h];rfl
theorem ss.uy(h:ss chg R gt W N) (f:s<chg.length):(g,m)∈N.ft s↔(s,g,m)∈W:=by(
unfold Nt.ft;rw[h.foot s f,mo];constructor
·rintro⟨⟨a,b,c⟩,h1,h2⟩;injection h2 with d e;simp only at d e;subst d e;exact pi (ux.mp h1)
·intro q;obtain⟨i,hi⟩:=fW.mp q;exact⟨(g,m,i),ux.mpr hi,O⟩)
theorem ss.ok (h:ss chg R gt W N) (f:mr chg.length R) (o:∀c,c∈chg->0<=c/\c<=240) (l:∀s g m,(s,g,m)∈W->g<chg.length/\0<=m/\m<=240):bz N (f0 R):=by(
have hm:∀r,r<N.runs.length->R.getD r ([],[],[])∈R:=λr d=>getD_mem (by rw[<- h.e9];exact d) _;refine {hG:=by rw[h.n];exact h.hG,mI:=by rw[h.n];exact h.mI,sorted:=λs e=>(h.sorted s (by rw[<- h.n];exact e)).imp (λ{a b} q=>by unfold iK at q;lia),af:=λs e g r i=>?_,eO:=λr i d hi=>?_,iJ:=λr i d hi=>?_,k0:=λr i d hi=>?_,mS:=λr d=>?_,chg:=λs e=>?_,foot:=λs g m e hm=>?_}
·rw[(h.perm s (by rw[<- h.n];exact e)).mem_iff,z_,h.e9,h.len,h.stop];constructor
 ·rintro⟨x,h1,h2,j,k⟩;have d:r<R.length:=(aD.mp h1).1;have:x=R.getD r ([],[],[]):=by rw[getD_some d ([],[],[])]at h1;exact(b2 h1).symm
  subst this;exact⟨d,h2,j,k⟩
 ·rintro⟨h1,h2,j,k⟩;exact⟨_,getD_some h1 _,h2,j,k⟩
·rw[h.stop,h.n];rw[h.len]at hi;exact f.stops _ (hm r d) _ (getD_mem hi _)
·rw[h.comes];rw[h.len]at hi;exact f.Fw _ (hm r d) _ (getD_mem (by rw[f.comes _ (hm r d)];exact hi) _)
·rw[h.len]at hi;exact f.G0 _ (hm r d) _ (getD_mem (by rw[f.goes _ (hm r d)];exact hi) _)
·rw[h.len];exact f.pos _ (hm r d)
·rw[h.chg];exact o _ (getD_mem (by rw[<- h.n];exact e) _)
·rw[h.n]at e⊢;rw[h.uy e]at hm;exact l s g m hm)
theorem ss.sys (h:ss chg R gt W N) (l:∀s g m,(s,g,m)∈W->s<chg.length):dh (N.sys (f0 R)) (p7 R W λs=>chg.getD s 0):=by(
refine⟨λs g s' c=>?_,λs g m=>?_,λs=>by show N.chg.getD s 0=chg.getD s 0;rw[h.chg]⟩
·constructor
 ·rintro⟨r,i,j,h1,h2,a,b,f,d,e⟩;rw[h.len]at a;rw[h.stop]at b d;rw[h.comes]at e;exact⟨_,getD_mem (by rw[<- h.e9];exact h1) _,i,j,h2,a,b,f,d,e⟩
 ·rintro⟨x,o,i,j,h2,a,b,f,d,e⟩;obtain⟨r,n,rfl⟩:=mem_getD o ([],[],[]);exact⟨r,i,j,by rw[h.e9];exact n,h2,by rw[h.len];exact a,by rw[h.stop];exact b,f,by rw[h.stop];exact d,by rw[h.comes];exact e⟩
·show(g,m)∈N.ft s↔(s,g,m)∈W;by_cases k:s<chg.length
 ·exact h.uy k
 ·constructor
  ·intro q;unfold Nt.ft at q;rw[np,sS.mpr (by rw[h.mI];lia)]at q;simp at q
  ·intro q;exact absurd (l s g m q) k)
end
open Sg45
noncomputable def aO (M:Nat) (k:Int) (p:bu):aQ:=(p.calls.map (·.halt),(s4 p.calls.length).map (p.comes M k),(s4 p.calls.length).map (p.goes M k))
noncomputable def wT (T:t1) (M:Nat):List aQ:=(v4 T M).map λy=>aO M y.2.1 y.2.2
noncomputable def lm (T:t1) (M:Nat):List (Nat×Int):=(v4 T M).map λy=>(y.1,y.2.1)
noncomputable def ol (T:t1):List Wk:=T.walks.map λw=>(w.from_,w.to,(w.minutes:Int))
noncomputable def up (T:t1):List Int:=T.stops.map λ(c:Nat)=>(c:Int)
noncomputable def ut (x:aQ):aQ:=(x.1.reverse,x.2.2.reverse.map (λg=> -g),x.2.1.reverse.map λc=> -c)
noncomputable def bD (w:Wk):Wk:=(w.2.1,w.1,w.2.2)
theorem pC:x∈wT T M↔∃y,y∈v4 T M/\x=aO M y.2.1 y.2.2:=by
 unfold wT;rw[mo];exact⟨λ⟨y,h1,h2⟩=>⟨y,h1,h2.symm⟩,λ⟨y,h1,h2⟩=>⟨y,h1,h2.symm⟩⟩
theorem range_getD(h:i<n) (d:Int):((s4 n).map f).getD i d=f i:=by
 simp[np,pr,gy h]
theorem jL (p:bu) (i:Nat):(p.calls.map (·.halt)).getD i 0=p.stopAt i:=by
 unfold Es;simp only[np,pr];cases p.calls[i]?<;>rfl
theorem yN (T:t1) (s:Nat):(up T).getD s 0=((T.stops.getD s 0:Nat):Int):=by
 unfold up;simp only[np,pr];cases T.stops[s]?<;>rfl
theorem zj (T:t1) (M:Nat):dh (p7 (wT T M) (ol T) λs=>(up T).getD s 0) (aH T M):=by(
refine⟨λs g s' c=>?_,λs g m=>?_,λs=>yN T s⟩
·constructor
 ·rintro⟨x,o,i,j,h1,h2,b,d,f,h⟩;obtain⟨y,n,rfl⟩:=pC.mp o;simp only[aO,FM]at h2 b d f h;rw[jL]at b f;rw[range_getD (by lia)]at d;rw[range_getD h2]at h;exact⟨y,n,i,j,h1,h2,b,d,f,h⟩
 ·rintro⟨y,n,i,j,h1,h2,b,d,f,h⟩;refine⟨_,pC.mpr ⟨y,n,O⟩,i,j,h1,by simpa [aO]using h2,?_,?_,?_,?_⟩
  ·simp only[aO];rw[jL];exact b
  ·simp only[aO];rw[range_getD (by lia)];exact d
  ·simp only[aO];rw[jL];exact f
  ·simp only[aO];rw[range_getD h2];exact h
·show(s,g,m)∈ol T↔_;unfold ol;rw[mo];constructor
 ·rintro⟨w,hw,e⟩;injection e with k a;injection a with a l;exact⟨w,hw,k,a,l.symm⟩
 ·rintro⟨w,hw,k,a,l⟩;exact⟨w,hw,by rw[k,a,l]⟩)
theorem rev_getD{a:Type}{l:List a}(h:i<l.length) (d:a):l.reverse.getD i d=l.getD (l.length-1-i) d:=by
 rw[np,np,Ck h]
theorem pI{l:List Int}(h:i<l.length):(l.map λx=> -x).getD i 0= -(l.getD i 0):=by
 simp only[np,pr,g1 h];rfl
theorem A9(h:i<j) (g:j<n):n-1-j<n-1-i:=by lia
theorem hR(g:j<n):n-1-j<n:=by lia
theorem nq(g:j<n):n-1-(n-1-j)=j:=by lia
theorem Fh(u:mr n R):dh (p7 (R.map ut) (W.map bD) c) (p7 R W c).back:=by(
refine⟨λs g s' k=>?_,λs g m=>?_,λs=>rfl⟩
·show(∃x,x∈R.map ut/\_)↔(∃x,x∈R/\_);constructor
 ·rintro⟨x,A,i,j,h1,h2,f,r,l,t⟩;obtain⟨y,d,rfl⟩:=mo.mp A;have o:=u.comes y d;have p:=u.goes y d;simp only[ut,fh]at h2 f r l t;rw[pI (by rw[fh];lia),rev_getD (by lia)]at r t;rw[rev_getD (by lia)]at f l;rw[o]at r;rw[p]at t;exact⟨y,d,y.1.length-1-j,y.1.length-1-i,A9 h1 h2,hR (jb h1 h2),l,by lia,f,by lia⟩
 ·rintro⟨y,d,i,j,h1,h2,f,r,l,t⟩;have o:=u.comes y d;have p:=u.goes y d;refine⟨ut y,mo.mpr ⟨y,d,O⟩,y.1.length-1-j,y.1.length-1-i,A9 h1 h2,by simp only[ut,fh];exact hR (jb h1 h2),?_,?_,?_,?_⟩
  ·simp only[ut];rw[rev_getD (hR h2),nq h2];exact l
  ·simp only[ut];rw[pI (by rw[fh,o];exact hR h2),rev_getD (by rw[o];exact hR h2),o,nq h2];lia
  ·simp only[ut];rw[rev_getD (hR (jb h1 h2)),nq (jb h1 h2)];exact f
  ·simp only[ut];rw[pI (by rw[fh,p];exact hR (jb h1 h2)),rev_getD (by rw[p];exact hR (jb h1 h2)),p,nq (jb h1 h2)];lia
·show(s,g,m)∈W.map bD↔(g,s,m)∈W;rw[mo];constructor
 ·rintro⟨⟨a,b,C⟩,hw,e⟩;injection e with w q;injection q with q z;simp only at w q z;subst w q z;exact hw
 ·intro h;exact⟨(g,s,m),h,O⟩)
theorem dh.trans(h:dh X Y) (h':dh Y Z):dh X Z:=
 ⟨λs g s' c=>(h.1 s g s' c).trans (h'.1 s g s' c),λs g m=>(h.2.1 s g m).trans (h'.2.1 s g m),λs=>(h.2.2 s).trans (h'.2.2 s)⟩
theorem dh.back(h:dh X Y):dh X.back Y.back:=
 ⟨λs g s' c=>h.1 s' (-c) s (-g),λs g m=>h.2.1 g s m,λs=>h.2.2 s⟩
structure bm (T:t1):Prop where
 right:bw T
 chg:∀c,c∈T.stops->c<=120
 two:∀p,p∈T.trips->2<=p.calls.length
 walks:∀w,w∈T.walks->w.minutes<=240
 late:∀p,p∈T.trips->p.late.length=7/\∀x,x∈p.late->x.1<=63/\x.2<=240
theorem Ic(hT:bm T) (a:p∈T.trips) (M:Nat) (k:Int):(p.lateOn M k).2<=240:=by(
unfold xU;rw[np];cases e:p.late[fU M k]? with
|none=>exact f4 _
|some x=>exact((hT.late p a).2 x (pi e)).2)
theorem lH(hT:bm T) (a:p∈T.trips) (M:Nat) (c: -1<=k/\k<=1) (hi:i<p.calls.length): -1440<=p.comes M k i/\p.comes M k i<4560/\ -1440<=p.goes M k i/\p.goes M k i<4560:=by(
have h1:=hT.right.1 p a;simp only[eW,ev,hq,dL]at h1;have h2:=h1.1 _ (eX hi);have b:=Ic hT a M k;have e:p.calls.getD i ⟨0,0,0⟩=p.calls[i]:=by rw[np,g1 hi];rfl
unfold xV xW;rw[e];refine⟨?_,?_,?_,?_⟩<;>(split<;>lia))
theorem j2(hT:bm T) (M:Nat):mr T.stops.length (wT T M):=by(
have key:∀x,x∈wT T M->∃k p,p∈T.trips/\(-1<=k/\k<=1)/\x=aO M k p:=by
 intro x a;obtain⟨⟨n,k,p⟩,j,rfl⟩:=pC.mp a;obtain⟨h1,h2,l⟩:=dr.mp j;exact⟨k,p,pi h1,h2,O⟩
refine⟨λx a=>?_,λx a=>?_,λx a=>?_,λx a s h=>?_,λx a c d=>?_,λx a g hg=>?_⟩
all_goals obtain⟨k,p,b,f,rfl⟩:=key x a
·have:=hT.two p b;simp only[aO,FM];lia
·simp[aO]
·simp[aO]
·obtain⟨i,hi,e⟩:=mem_getD h 0;simp only[aO,FM]at hi e;rw[jL]at e;rw[<- e];exact u5 hT.right b i hi
·simp only[aO,mo,bR]at d;obtain⟨i,hi,rfl⟩:=d;have:=lH hT b M f hi;unfold FS;lia
·simp only[aO,mo,bR]at hg;obtain⟨i,hi,rfl⟩:=hg;have:=lH hT b M f hi;unfold FS;lia)
theorem ym(hT:bm T) (M:Nat):mr T.stops.length ((wT T M).map ut):=by(
have ok:=j2 hT M;have key:∀x,x∈wT T M->∃k p,p∈T.trips/\(-1<=k/\k<=1)/\x=aO M k p:=by
 intro x a;obtain⟨⟨n,k,p⟩,b,rfl⟩:=pC.mp a;obtain⟨h1,h2,j⟩:=dr.mp b;exact⟨k,p,pi h1,h2,O⟩
refine⟨λx a=>?_,λx a=>?_,λx a=>?_,λx a s h=>?_,λx a c d=>?_,λx a g hg=>?_⟩
all_goals obtain⟨y,b,rfl⟩:=mo.mp a
·simpa [ut]using ok.pos y b
·simpa [ut]using ok.goes y b
·simpa [ut]using ok.comes y b
·exact ok.stops y b s (by simpa [ut]using h)
·simp only[ut,mo,wj]at d;obtain⟨g,hg,rfl⟩:=d;obtain⟨k,p,f,e,rfl⟩:=key y b;simp only[aO,mo,bR]at hg;obtain⟨i,hi,rfl⟩:=hg;have:=lH hT f M e hi;unfold FS;lia
·simp only[ut,mo,wj]at hg;obtain⟨c,d,rfl⟩:=hg;obtain⟨k,p,f,e,rfl⟩:=key y b;simp only[aO,mo,bR]at d;obtain⟨i,hi,rfl⟩:=d;have:=lH hT f M e hi;unfold FS;lia)
theorem ke(hT:bm T):∀s g m,(s,g,m)∈ol T->s<(up T).length/\g<(up T).length/\0<=m/\m<=240:=by
 intro s g m h;unfold ol at h;obtain⟨w,hw,e⟩:=mo.mp h;injection e with b a;injection a with a c;subst b a c;have h1:=hT.right.2 w hw;have h2:=hT.walks w hw;simp only[up,FM];lia
theorem yM(hT:bm T):∀c,c∈up T->0<=c/\c<=240:=by
 intro c h;obtain⟨x,a,rfl⟩:=mo.mp h;have:=hT.chg x a;lia
theorem dF(hT:bm T) (h:ss (up T) (wT T M) (lm T M) (ol T) N):bz N (f0 (wT T M))/\dh (N.sys (f0 (wT T M))) (aH T M)/\N.n=T.stops.length:=by
 refine⟨h.ok (by rw[show(up T).length=T.stops.length by simp[up]];exact j2 hT M) (yM hT) (λs g m q=>(ke hT s g m q).2),(h.sys λs g m q=>(ke hT s g m q).1).trans (zj T M),?_⟩;rw[h.n];simp[up]
theorem jB(hT:bm T) (h:ss (up T) ((wT T M).map ut) (lm T M) ((ol T).map bD) N):bz N (f0 ((wT T M).map ut))/\dh (N.sys (f0 ((wT T M).map ut))) (aH T M).back/\N.n=T.stops.length:=by(
have hw:∀s g m,(s,g,m)∈(ol T).map bD->s<(up T).length/\g<(up T).length/\0<=m/\m<=240:=by
 intro s g m q;obtain⟨⟨a,b,c⟩,hw,e⟩:=mo.mp q;injection e with f d;injection d with d i;simp only at f d i;subst f d i;have:=ke hT _ _ _ hw;lia
refine⟨h.ok (by rw[show(up T).length=T.stops.length by simp[up]];exact ym hT M) (yM hT) (λs g m q=>(hw s g m q).2),(h.sys λs g m q=>(hw s g m q).1).trans ((Fh (j2 hT M)).trans (zj T M).back),?_⟩;rw[h.n];simp[up])
theorem y4(hT:bm T) (g:ss (up T) (wT T M) (lm T M) (ol T) N) (c:a<T.stops.length) (d:b<T.stops.length) (h:SInv N (f0 (wT T M)) a t k S) (i:S.ae=[]) (j:t+240<FS):
  (S.arr.getD b 0=FS->ja T M a b t=none)/\(S.arr.getD b 0≠FS->ja T M a b t=some (S.arr.getD b 0,S.rides.getD b 0)):=by(
obtain⟨ok,same,f⟩:=dF hT g;obtain⟨h1,h2⟩:=t8 ok same h i (s:=b) (by rw[f];exact d);have lt:∀x,(∃n,ap T M a t n b x)->x<FS:=by
 rintro x ⟨n,q⟩;obtain⟨w,q⟩:=gY.mp q;exact(iR ok (by rw[f];exact c) j (eo.mpr (same.gj.mpr q))).1
have m:=h1.minOf lt;refine⟨λe=>?_,λe=>?_⟩
·rw[No e]at m;exact F4 hT.right c d m
·rw[Ps e]at m;exact F5 hT.right c d m (h2 (lt _ m.1)))
theorem Ii(hT:bm T) (l:ss (up T) ((wT T M).map ut) (lm T M) ((ol T).map bD) N) (c:a<T.stops.length) (d:b<T.stops.length) (h:SInv N (f0 ((wT T M).map ut)) b (-g) k S) (i:S.ae=[]) (j: -g+240<FS):
  (S.arr.getD a 0=FS->lX T M a b g=none)/\(S.arr.getD a 0≠FS->lX T M a b g=some (-(S.arr.getD a 0),S.rides.getD a 0)):=by(
obtain⟨ok,same,f⟩:=jB hT l;obtain⟨h1,h2⟩:=Fu ok same h i (a:=a) (by rw[f];exact c) (by rw[f];exact d) j;refine⟨λe=>Ig hT.right c d (h2 (by rw[e];lia)),λe=>?_⟩;have lt:S.arr.getD a 0<FS:=by
 obtain⟨q,_⟩:=vh ok h i (s:=a) (by rw[f];exact c);rcases q.1 with⟨n,w,q⟩|q
 ·exact(iR ok (by rw[f];exact d) j q).1
 ·exact absurd q e
obtain⟨m,o⟩:=h1 lt;exact Ih hT.right c d m o)
end Tw
namespace Tw
open Sg45
theorem FA(h:jg f3 f l=some i):(l=[]/\i=[])\/
  ∃p n k r xs t a o,l=p::r/\f3 p=some (n,k)/\n<=r.length/\oh k (r.drop n)=some (xs,t)/\i=((p::r.take n)::xs)::a/\jg f3 o t=some a:=by(
match f,l,h with
|0,[],h=>exact .inl ⟨O,(b2 h).symm⟩
|f+1,[],h=>exact .inl ⟨O,(b2 h).symm⟩
|0,_::_,h=>simp[jg]at h
|f+1,p::r,h=>
 simp only[jg]at h;cases e:Ee f3 (p::r)with
 |none=>rw[e]at h;cases h
 |some ct=>
  obtain⟨c,t⟩:=ct;rw[e]at h;simp only at h;cases b:jg f3 f t with
  |none=>rw[b]at h;cases h
  |some a=>
   rw[b]at h;simp only[hk]at h;simp only[Ee]at e;cases d:f3 p with
   |none=>rw[d]at e;cases e
   |some q=>
    obtain⟨n,k⟩:=q;rw[d]at e;simp only at e;split at e
    ·cases e
    ·rename_i u;cases g:oh k (r.drop n)with
     |none=>rw[g]at e;cases e
     |some s=>
      obtain⟨xs,t'⟩:=s;rw[g]at e;simp only[hk,oj]at e;obtain⟨j,m⟩:=e;subst m;exact .inr ⟨p,n,k,r,xs,t',a,f,O,d,by lia,g,by rw[<- h,<-j],b⟩)
theorem Bk(h:f3 p=some (n,k)):(p=1/\n=1/\k=0)\/(p=2/\n=1/\k=1)\/(p=3/\n=3/\k=0)\/(p=4/\n=4/\k=0)\/(p=5/\n=4/\k=0)\/(p=6/\n=4/\k=0)\/(p=7/\n=5/\k=0)\/(p=8/\n=6/\k=0)\/(p=9/\n=4/\k=0)\/(p=10/\n=5/\k=0)\/(p=11/\n=4/\k=0):=by(
unfold f3 at h;by_cases a:p=1
·rw[No a]at h;injection h with h;injection h with h1 h2;exact .inl ⟨a,h1.symm,h2.symm⟩
rw[Ps a]at h;by_cases d:p=2
·rw[No d]at h;injection h with h;injection h with h1 h2;exact .inr (.inl ⟨d,h1.symm,h2.symm⟩)
rw[Ps d]at h;by_cases e:p=3
·rw[No e]at h;injection h with h;injection h with h1 h2;exact .inr (.inr (.inl ⟨e,h1.symm,h2.symm⟩))
rw[Ps e]at h;by_cases f:p=4
·rw[No f]at h;injection h with h;injection h with h1 h2;exact .inr (.inr (.inr (.inl ⟨f,h1.symm,h2.symm⟩)))
rw[Ps f]at h;by_cases g:p=5
·rw[No g]at h;injection h with h;injection h with h1 h2;exact .inr (.inr (.inr (.inr (.inl ⟨g,h1.symm,h2.symm⟩))))
rw[Ps g]at h;by_cases i:p=6
·rw[No i]at h;injection h with h;injection h with h1 h2;exact .inr (.inr (.inr (.inr (.inr (.inl ⟨i,h1.symm,h2.symm⟩)))))
rw[Ps i]at h;by_cases j:p=7
·rw[No j]at h;injection h with h;injection h with h1 h2;exact .inr (.inr (.inr (.inr (.inr (.inr (.inl ⟨j,h1.symm,h2.symm⟩))))))
rw[Ps j]at h;by_cases l:p=8
·rw[No l]at h;injection h with h;injection h with h1 h2;exact .inr (.inr (.inr (.inr (.inr (.inr (.inr (.inl ⟨l,h1.symm,h2.symm⟩)))))))
rw[Ps l]at h;by_cases m:p=9
·rw[No m]at h;injection h with h;injection h with h1 h2;exact .inr (.inr (.inr (.inr (.inr (.inr (.inr (.inr (.inl ⟨m,h1.symm,h2.symm⟩))))))))
rw[Ps m]at h;by_cases b:p=10
·rw[No b]at h;injection h with h;injection h with h1 h2;exact .inr (.inr (.inr (.inr (.inr (.inr (.inr (.inr (.inr (.inl ⟨b,h1.symm,h2.symm⟩)))))))))
rw[Ps b]at h;by_cases c:p=11
·rw[No c]at h;injection h with h;injection h with h1 h2;exact .inr (.inr (.inr (.inr (.inr (.inr (.inr (.inr (.inr (.inr ⟨c,h1.symm,h2.symm⟩)))))))))
rw[Ps c]at h;cases h)
theorem A3(h:oh 1 l=some (xs,t)):∃(m:Nat) (r:List Int),l=(m:Int)::r/\m<=r.length/\xs=[r.take m]/\t=r.drop m:=by(
simp only[oh]at h;cases l with
|nil=>simp[Eg]at h
|cons m r=>
 simp only[Eg]at h;split at h
 ·cases h
 ·rename_i x s e;split at e
  ·rename_i hm;simp only[hk,oj]at e h;refine⟨m.toNat,r,by rw[fi hm.1],hm.2,?_,?_⟩
   ·rw[<- h.1,<-e.1]
   ·rw[<- h.2,<-e.2]
  ·cases e)
theorem A4(h:oh 0 l=some (xs,t)):xs=[]/\t=l:=by
 injection h with h;injection h with h1 h2;exact⟨h1.symm,h2.symm⟩
def lF (T:t1) (a:List (List (List Int))):List Int:=Ef (Ed l0 T a)
theorem MQ (T:t1):lF T []=[]:=rfl
theorem BH (T:t1) (c:List (List Int)) (a:List (List (List Int))):lF T (c::a)=(((l0 T c).2.length:Int)::(l0 T c).2)++lF (l0 T c).1 a:=by
 simp[lF,Ef,Ed]
theorem E'(h:xC l=true):∃f a,jg f3 f l=some a/\sO l=lF eb (a.map l3)/\(∀c,c∈a->xq (l3 c)=true)/\a.length<=300:=by(
unfold xC at h;unfold sO;unfold PySg45.calls at h⊢;cases e:jg f3 l.length l with
|none=>rw[e]at h;simp at h
|some a=>
 rw[e]at h;simp only[ev]at h;refine⟨_,a,e,O,λc b=>?_,by simpa [PyFlat.atMost]using h.1⟩;have h2:=h.2;unfold N9 at h2;simp only[ev,hq]at h2;exact h2.1.1 _ (mo.mpr ⟨c,b,O⟩))
theorem yJ:∀l:List Nat,(fV l).length=l.length/3
 |[]=>rfl
 |[_]=>by show 0=1/3;rfl
 |[_,_]=>by show 0=2/3;rfl
 |a::b::c::l=>by
  show(fV l).length+1=(l.length+3)/3;rw[yJ l];lia
theorem Fz(h:T.stops.length<=U.stops.length) (b:eW T l=true):eW U l=true:=by
 simp only[eW,ev,hq,dL]at b⊢;exact⟨λa c=>⟨c_ (b.1 a c).1 h,(b.1 a c).2⟩,b.2⟩
theorem F6:bm eb:=
 ⟨⟨λp a=>by simp[eb]at a,λw hw=>by simp[eb]at hw⟩,λc b=>by simp[eb]at b,λp a=>by simp[eb]at a,λw hw=>by simp[eb]at hw,λp a=>by simp[eb]at a⟩
theorem Nh:within n a b=true↔a<=n/\n<=b:=by simp[within]
theorem Mv(h:bm T) (a:within c 0 120=true):bm {T with stops:=T.stops++[c.toNat]}:=by(
rw[Nh]at a;refine⟨⟨λp b=>Fz (by simp) (h.right.1 p b),λw hw=>?_⟩,λx d=>?_,h.two,h.walks,h.late⟩
·have:=h.right.2 w hw;simp only[ls,bK];lia
·rcases cs.mp d with q|q
 ·exact h.chg x q
 ·simp at q;subst q;lia)
theorem MS(h:bm T) (h2:2<=l.length) (b:eW T l=true):bm {T with trips:=T.trips++[⟨d,l,f8 7 (0,0)⟩]}:=by(
refine⟨⟨λp a=>?_,h.right.2⟩,h.chg,λp a=>?_,h.walks,λp a=>?_⟩
all_goals rcases cs.mp a with q|q
·exact h.right.1 p q
·simp at q;subst q;exact b
·exact h.two p q
·simp at q;subst q;exact h2
·exact h.late p q
·simp at q;subst q;refine⟨by simp,λx c=>?_⟩;have e:x=(0,0):=by simpa using c
 rw[e];exact⟨f4 _,f4 _⟩)
theorem Na(h:bm T) (c:a<T.stops.length) (d:b<T.stops.length) (hm:m<=240):bm {T with walks:=T.walks++[⟨a,b,m⟩]}:=by(
refine⟨⟨h.right.1,λw hw=>?_⟩,h.chg,h.two,λw hw=>?_,h.late⟩
all_goals rcases cs.mp hw with q|q
·exact h.right.2 w q
·simp at q;subst q;exact⟨c,d⟩
·exact h.walks w q
·simp at q;subst q;exact hm)
theorem Ie(h:bm T) (hi:i<=63) (hm:m<=240):bm {T with trips:=T.trips.mapIdx λk x=>if k=n then {x with late:=x.late.set d (i,m)}else x}:=by(
have key:∀p,p∈T.trips.mapIdx (λk x=>if k=n then {x with late:=x.late.set d (i,m)}else x)->∃q,q∈T.trips/\p.calls=q.calls/\(p.late=q.late\/p.late=q.late.set d (i,m)):=by
 intro p a;rw[Cz]at a;obtain⟨k,l,rfl⟩:=a;refine⟨T.trips[k],eX l,?_,?_⟩
 ·split<;>rfl
 ·split
  ·exact .inr rfl
  ·exact .inl rfl
refine⟨⟨λp a=>?_,h.right.2⟩,h.chg,λp a=>?_,h.walks,λp a=>?_⟩
all_goals obtain⟨q,e,f,b⟩:=key p a
·rw[f];exact h.right.1 q e
·rw[f];exact h.two q e
·obtain⟨g,j⟩:=h.late q e;rcases b with b|b
 ·rw[b];exact⟨g,j⟩
 ·rw[b];refine⟨by simp[g],λx c=>?_⟩;rcases List.mem_or_eq_of_mem_set c with c|c
  ·exact j x c
  ·rw[c];exact⟨hi,hm⟩)
theorem Br (y:Option Int):∀(n k:Nat),dO y k (f8 n y)=[]
 |0,_=>rfl
 |n+1,k=>by
  rw[jh];show(match y with|some z=>if y=y then []else [[((k:Nat):Int),z]]|none=>[])++dO y (k+1) (f8 n y)=[];rw[Br y n (k+1)];cases y<;>simp
theorem Bq:∀(l m:List (Option Int)) (x:Option Int) (k:Nat),dO x k (l++m)=dO x k l++dO (l.getLast?.getD x) (k+l.length) m
 |[],m,x,k=>by simp[dO]
 |c::l,m,x,k=>by
  show _++dO c (k+1) (l++m)=(_++dO c (k+1) l)++_;rw[Bq l m c (k+1),dv]
  congr 2
  rw[bt,show k+1+l.length=k+(l.length+1) by lia]
  congr 1
  cases l with
  |nil=>rfl
  |cons d l=>
   rw[List.getLast?_cons_cons];cases e:(d::l).getLast? with
   |none=>rw[List.getLast?_eq_none_iff]at e;cases e
   |some z=>rfl
theorem zT:∀(l:List (Option Int)) (m:Option Int) (P:Int->Prop) (Q:Nat->Int->Prop),ce P m->(∀n x,l[n]?=some x->ce (Q n) x)->∀k x,(eK m l)[k]?=some x->ce (λz=>P z\/∃n,n<=k/\Q n z) x
 |[],m,P,Q,_,_,k,x,h=>by simp[eK]at h
 |y::l,m,P,Q,hm,b,k,x,h=>by
  have h0:ce (Q 0) y:=b 0 y rfl;cases k with
  |zero=>
   simp only[eK,ow,hk]at h;subst h;exact(hm.less h0).congr λz=>⟨λq=>q.imp id λq=>⟨0,tz _,q⟩,λq=>q.imp id λ⟨n,a,q⟩=>by rw[show n=0 by lia]at q;exact q⟩
  |succ k=>
   simp only[eK,xZ]at h;refine(zT l _ _ (λn=>Q (n+1)) (hm.less h0) (λn z hz=>b (n+1) z (by simpa using hz)) k x h).congr λz=>?_;constructor
   ·rintro((q|q)|⟨n,a,q⟩)
    ·exact .inl q
    ·exact .inr ⟨0,f4 _,q⟩
    ·exact .inr ⟨n+1,by lia,q⟩
   ·rintro(q|⟨n,a,q⟩)
    ·exact .inl (.inl q)
    ·cases n with
     |zero=>exact .inl (.inr q)
     |succ n=>exact .inr ⟨n,by lia,q⟩
theorem zU:∀(l:List (Option Int)) (m:Option Int),(eK m l).length=l.length
 |[],_=>rfl
 |x::l,m=>by simp[eK,zU l]
theorem GW(hT:bw T) (o:a<T.stops.length) (p:b<T.stops.length) (f:∀k,k<=8->ce (λx=>∃n,n<=k/\ap T M a t n b x) (c k)):
  gv none ((aE T M a t 8).zipIdx.map λ(x:Row×Nat)=>(x.2,x.1.getD b none))=dO none 0 ((s4 9).map c):=by(
obtain⟨h1,h2,g⟩:=oR (T:=T) (M:=M) (a:=a) (t:=t) hT o 8;generalize C:aE T M a t 8=A at h1 h2 g;have j:(A.zipIdx.map λ(x:Row×Nat)=>(x.2,x.1.getD b none))=((A.map λr=>r.getD b none).zipIdx 0).map λx=>(x.2,x.1):=by
 rw[List.zipIdx_map,ax];rfl
rw[j,y1];have y:(eK none (A.map λr=>r.getD b none)).length=A.length:=by rw[zU,FM]
have l:eK none (A.map λr=>r.getD b none)=(s4 A.length).map c:=by
 apply rL
 ·rw[y,FM,fZ]
 ·intro k h s;have D:k<A.length:=by lia
  have:=zT (A.map λr=>r.getD b none) none (λ_=>False) (λn=>ap T M a t n b) (λ_ q=>q) (λn x d=>by
   rw[pr]at d;cases e:A[n]? with
   |none=>rw[e]at d;cases d
   |some r=>rw[e]at d;cases d;exact(h2 n r e).2 b p) k _ (g1 h)
  have:=(this.congr (Q:=λx=>∃n,n<=k/\ap T M a t n b x) λz=>by simp).uniq (f k (by lia));rw[this,wm,we]
rw[l];have m:(s4 9).map c=(s4 A.length).map c++f8 (9-A.length) (((s4 A.length).map c).getLast?.getD none):=by
 apply rL
 ·simp;lia
 ·intro k h s;simp at h;by_cases q:k<A.length
  ·simp[List.getElem_append_left,q]
  ·rw[List.getElem_append_right (by simp;lia)];simp only[wm,we,List.getElem_replicate];by_cases z:A.length=0
   ·simp[z];exact(f k (by lia)).uniq (u:=none) λx ⟨n,i,d⟩=>g n b x (by lia) (by lia) d
   ·have:((s4 A.length).map c).getLast?.getD none=c (A.length-1):=by
     rw[List.getLast?_eq_getElem?];simp[z,gy,show A.length-1<A.length by lia]
    rw[this];refine((f k (by lia)).congr λx=>?_).uniq (f (A.length-1) (by lia));constructor
    ·rintro⟨n,i,d⟩;refine⟨n,?_,d⟩;by_cases w:n<=A.length-1
     ·exact w
     ·exact absurd d (g n b x (by lia) (by lia))
    ·rintro⟨n,i,d⟩;exact⟨n,by lia,d⟩
rw[m,Bq,Br,fm])
theorem Lq(hT:bw T) (d:a<T.stops.length) {c:Nat->Option Int}(e:∀s,s<T.stops.length->ce (λx=>∃n,ap T M a t n s x) (c s)):
  ((s4 T.stops.length).map λs=>(lY (aE T M a t (aJ T M)) s).getD (-1))=(s4 T.stops.length).map λs=>(c s).getD (-1):=by
 apply eE;intro s b;rw[(oV (M:=M) (t:=t) hT d (bR.mp b)).uniq (e s (bR.mp b))]
noncomputable def fB (N:Nt) (e:on):List Int:=[e.1,(((N.aZ.getD e.2.1 (0,0)).1:Nat):Int),(N.aZ.getD e.2.1 (0,0)).2,((N.stop e.2.1 (N.len e.2.1-1):Nat):Int)]
noncomputable def iH (N:Nt) (s:Nat) (t:Int):List on:=(N.af.getD s []).filter λe=>decide (t<=e.1)
theorem B' {a b:Type}(f:a->List b):∀(l:List a) (k:Nat),((l.zipIdx k).flatMap λx=>f x.1)=l.flatMap f
 |[],_=>rfl
 |x::l,k=>by rw[kx,gA,gA,B' f l (k+1)]
theorem tZ {a c:Type}{f g:a->List c}:∀ {l:List a},(∀x,x∈l->f x=g x)->l.flatMap f=l.flatMap g
 |[],_=>rfl
 |x::l,h=>by rw[gA,gA,h x (kw ..),tZ λy b=>h y (o0 _ b)]
theorem G6 (T:t1) (halt M:Nat) (t:Int):ud T halt M t=(v4 T M).flatMap λy=>
  (s4 (y.2.2.calls.length-1)).filterMap λi=>if y.2.2.stopAt i=halt/\t<=y.2.2.goes M y.2.1 i then some [y.2.2.goes M y.2.1 i,((y.1:Nat):Int),y.2.1,((y.2.2.stopAt (y.2.2.calls.length-1):Nat):Int)]else none:=by(
unfold ud v4;rw[List.flatMap_assoc];refine tZ λx _=>?_;have key:∀ks:List Int,(ks.flatMap λk=>if x.1.runs M k=false then []else
  (s4 (x.1.calls.length-1)).filterMap λ(i:Nat)=>if x.1.stopAt i=halt/\t<=x.1.goes M k i then some [x.1.goes M k i,((x.2:Nat):Int),k,((x.1.stopAt (x.1.calls.length-1):Nat):Int)]else none)=
  ((ks.filter λk=>x.1.runs M k).map λk=>(x.2,k,x.1)).flatMap λy=>(s4 (y.2.2.calls.length-1)).filterMap λi=>if y.2.2.stopAt i=halt/\t<=y.2.2.goes M y.2.1 i then some [y.2.2.goes M y.2.1 i,((y.1:Nat):Int),y.2.1,((y.2.2.stopAt (y.2.2.calls.length-1):Nat):Int)]else none:=by
 intro ks
 induction ks with
 |nil=>rfl
 |cons k ks a=>
  rw[gA,a,oE];cases e:x.1.runs M k with
  |true=>simp
  |false=>simp
exact key _)
theorem zr(h:r<(v4 T M).length):(lm T M).getD r (0,0)=((v4 T M)[r].1,(v4 T M)[r].2.1)/\(wT T M).getD r ([],[],[])=aO M (v4 T M)[r].2.1 (v4 T M)[r].2.2:=by
 unfold lm wT;simp[np,pr,g1 h]
theorem tX {c b d:Type}(f:c->b) (p:b->Bool) (g:b->d):∀l:List c,((l.map f).filter p).map g=l.filterMap λa=>if p (f a)=true then some (g (f a))else none
 |[]=>rfl
 |a::l=>by
  rw[m0,oE,hn];by_cases h:p (f a)=true
  ·rw[No h,No h,m0,tX f p g l]
  ·rw[Ps h,Ps h,tX f p g l]
theorem Ca {a b:Type}(f:a->b):∀(l:List a) (k:Nat),(l.map f).zipIdx k=(l.zipIdx k).map λx=>(f x.1,x.2)
 |[],_=>rfl
 |x::l,k=>by rw[m0,kx,kx,m0,Ca f l (k+1)]
theorem kP {a c:Type}{f g:a->Option c}:∀ {l:List a},(∀x,x∈l->f x=g x)->l.filterMap f=l.filterMap g
 |[],_=>rfl
 |x::l,h=>by
  rw[hn,hn,h x (kw ..),kP λy b=>h y (o0 _ b)]
theorem Fp(hT:bm T) (c:ss (up T) (wT T M) (lm T M) (ol T) N) (o:s<T.stops.length):sl T s M t=(iH N s t).map (fB N):=by(
have p:s<(up T).length:=by simpa [up]using o
have w:=dF hT c;have L:N.runs.length=(v4 T M).length:=by rw[c.e9];simp[wT]
have row:∀r,(h:r<(v4 T M).length)->∀g i,fB N (g,r,i)=[g,(((v4 T M)[r].1:Nat):Int),(v4 T M)[r].2.1,(((v4 T M)[r].2.2.stopAt ((v4 T M)[r].2.2.calls.length-1):Nat):Int)]:=by
 intro r h g i;obtain⟨f,j⟩:=zr h;unfold fB;simp only;rw[c.aZ,f,c.stop,c.len,j];simp only[aO,FM];rw[jL]
refine G7 ?_ ?_
·
 have OI:((iH N s t).map (fB N)).Perm (((jF (wT T M) s).filter λe=>decide (t<=e.1)).map (fB N)):=((c.perm s p).filter _).map _;refine OI.trans (xS ?_);rw[G6];have f:((jF (wT T M) s).filter λe=>decide (t<=e.1)).map (fB N)=(((ei (wT T M)).filter λd=>d.1==s&&decide (t<=d.2.1))).map λd=>fB N d.2:=by
  unfold jF;rw[List.filter_map,ax,List.filter_filter]
  congr 1
  apply List.filter_congr;intro d _;simp only[xX];exact Bool.and_comm _ _
 rw[f];unfold ei;have j:∀(Z:List (aQ×Nat)),(((Z.flatMap λx=>ey x.2 x.1).filter λd=>d.1==s&&decide (t<=d.2.1)).map λd=>fB N d.2)=Z.flatMap λx=>((ey x.2 x.1).filter λd=>d.1==s&&decide (t<=d.2.1)).map λd=>fB N d.2:=by
  intro Z
  induction Z with
  |nil=>rfl
  |cons z Z OH=>rw[gA,ku,bL,OH,gA]
 rw[j];unfold wT;rw[Ca,List.flatMap_map,<-B' _ (v4 T M) 0];refine tZ λx Y=>?_;obtain⟨y,r⟩:=x;have n:=ig.mp Y;simp only at n;obtain⟨Q,U⟩:=aD.mp n;simp only;unfold ey;rw[tX];rw[show(aO M y.2.1 y.2.2).1.length=y.2.2.calls.length by simp[aO]];refine kP λi hi=>?_;rw[bR]at hi;have C:(aO M y.2.1 y.2.2).1.getD i 0=y.2.2.stopAt i:=jL _ _;have D:(aO M y.2.1 y.2.2).2.2.getD i 0=y.2.2.goes M y.2.1 i:=range_getD (by lia) _;have m:=row r Q;rw[U]at m;simp only[C,D,m,ev,gu,dL]
·
 rw[ji];have h1:(iH N s t).Pairwise iK:=(c.sorted s p).filter _;refine h1.imp_of_mem λ{a b} E H q=>?_;have u:∀e,e∈iH N s t->e.2.1<(v4 T M).length:=by
  intro e J;obtain⟨g,r,i⟩:=e;have:=((w.1.af s (by rw[w.2.2];exact o) g r i).mp (f5.mp J).1).1;rw[L]at this;exact this
 obtain⟨g,r,i⟩:=a;obtain⟨g',A,OK⟩:=b;have k:=u _ E;have l:=u _ H;simp only at k l;rw[row r k,row A l];unfold iK at q;simp only at q;rcases q with q|⟨rfl,q|⟨rfl,q⟩⟩
 ·exact .inr (by simp[ci,q])
 ·have:=kr.mp (uj (T:=T) (M:=M)) r A k l q;refine .inr ?_;simp only[ci,Int.lt_irrefl,decide_false,DF,decide_true,n_,hj,ev,dL];rcases this with z|⟨OL,OJ⟩
  ·left;lia
  ·right;exact⟨by lia,.inl OJ⟩
 ·exact .inl rfl)
def c7 (x:Int):Option Int:=if x=FS then none else some x
noncomputable def gs:Int->Nat->List Int->List (List Int)
 |_,_,[]=>[]
 |p,k,v::l=>if v<p then [((k:Nat):Int),v]::gs v (k+1) l else gs p (k+1) l
theorem vH:∀(l:List Int) (p:Int) (k:Nat),p<=FS->(∀v,v∈l->v<=p)->l.Pairwise (λa b=>b<=a)->dO (c7 p) k (l.map c7)=gs p k l
 |[],_,_,_,_,_=>rfl
 |v::l,p,k,g,f,d=>by
  have hv:=f v (kw ..);rw[oA]at d;rw[m0];show(match c7 v with|some y=>if c7 v=c7 p then []else [[((k:Nat):Int),y]]|none=>[])++dO (c7 v) (k+1) (l.map c7)=if v<p then _ else _;by_cases c:v<p
  ·rw[No c];have e:c7 v=some v:=by unfold c7;rw[Ps (by lia)]
   have ne:c7 v≠c7 p:=by
    rw[e];unfold c7;split
    ·intro q;cases q
    ·intro q;injection q with q;lia
   rw[vH l v (k+1) (by lia) d.1 d.2];simp only[e]at ne⊢;rw[Ps ne];rfl
  ·rw[Ps c];have:v=p:=by lia
   subst this;rw[vH l v (k+1) g d.1 d.2];cases c7 v<;>simp
noncomputable def a8 (N:Nt) (S:SS):Nat->SS
 |0=>S
 |k+1=>cA N (a8 N S k)
theorem j1(ok:bz N goes) (h:SInv N goes s0 t0 0 S):∀k,SInv N goes s0 t0 k (a8 N S k)
 |0=>h
 |k+1=>MO ok (j1 ok h k)
theorem GX(hT:bm T) (m:ss (up T) (wT T M) (lm T M) (ol T) N) (e:a<T.stops.length) (g:b<T.stops.length) (h:t+240<FS):
  gv none ((aE T M a t 8).zipIdx.map λ(x:Row×Nat)=>(x.2,x.1.getD b none))=gs FS 0 ((s4 9).map λk=>(a8 N (cp N a t) k).arr.getD b 0):=by(
obtain⟨ok,same,f⟩:=dF hT m;have o:=j1 ok (kL ok (s0:=a) (t0:=t) (by rw[f];exact e) h);have lt:∀k x,Ak N (f0 (wT T M)) a t k b x->x<FS:=λk x ⟨n,w,_,q⟩=>(iR ok (by rw[f];exact e) h q).1;have d:∀k,lw (Ak N (f0 (wT T M)) a t k b) ((a8 N (cp N a t) k).arr.getD b 0):=λk=>(o k).mid.arr b (by rw[f];exact g);rw[GW hT.right e g (c:=λk=>c7 ((a8 N (cp N a t) k).arr.getD b 0)) λk _=>?_]
·rw[<- vH _ FS 0 (fj _) ?_ ?_]
 ·rw[ax];have:(none:Option Int)=c7 FS:=by unfold c7;rw[No rfl]
  rw[this];rfl
 ·intro v hv;obtain⟨k,_,rfl⟩:=mo.mp hv;rcases(d k).1 with q|q
  ·have:=lt k _ q;lia
  ·lia
 ·rw[ji];refine Ci.imp λ{i j} p=>?_;rcases(d i).1 with q|q
  ·exact(d j).2 _ (tm (by lia) q)
  ·rw[q];rcases(d j).1 with l|l
   ·have:=lt j _ l;lia
   ·lia
·have:=(d k).minOf (lt k);unfold c7;refine this.congr λx=>?_;constructor
 ·rintro⟨n,w,h1,h2⟩;exact⟨n,h1,gY.mpr ⟨w,same.gj.mp (eo.mp h2)⟩⟩
 ·rintro⟨n,h1,h2⟩;obtain⟨w,h2⟩:=gY.mp h2;exact⟨n,w,h1,eo.mpr (same.gj.mpr h2)⟩)
theorem Lr(hT:bm T) (g:ss (up T) (wT T M) (lm T M) (ol T) N) (f:a<T.stops.length) (h:SInv N (f0 (wT T M)) a t k S) (i:S.ae=[]) (l:t+240<FS):
  ((s4 T.stops.length).map λs=>(lY (aE T M a t (aJ T M)) s).getD (-1))=S.arr.map λx=>if x<FS then x else -1:=by(
obtain⟨ok,same,b⟩:=dF hT g;have lt:∀s x,(∃n,ap T M a t n s x)->x<FS:=by
 rintro s x ⟨n,q⟩;obtain⟨w,q⟩:=gY.mp q;exact(iR ok (by rw[b];exact f) l (eo.mpr (same.gj.mpr q))).1
have m:=λs (d:s<T.stops.length)=>(t8 ok same h i (s:=s) (by rw[b];exact d)).1;rw[Lq hT.right f (c:=λs=>if S.arr.getD s 0=FS then none else some (S.arr.getD s 0)) λs d=>(m s d).minOf (lt s)];have j:S.arr.length=T.stops.length:=by rw[<- b];exact h.mid.dn
apply rL
·simp[j]
·intro s h1 h2;simp at h1;simp only[wm,we];have e:S.arr.getD s 0=S.arr[s]'(by lia):=by rw[np,g1 (by lia)];rfl
 rw[e];have:=(m s h1).1;rw[e]at this;rcases this with q|q
 ·have:=lt s _ q;rw[Ps (by lia),No this];rfl
 ·rw[No q,Ps (by lia)];rfl)
section
variable {T:t1}{M:Nat}{TW:Nt}{b:Nat}{a:Int}
theorem p6(same:dh (TW.sys (f0 ((wT T M).map ut))) (aH T M).back) :Rk TW (f0 ((wT T M).map ut)) b (-a) j s x↔∃n,n<j/\Dr (aH T M) b a n s (-x):=by(
have e:∀n,NJ TW (f0 ((wT T M).map ut)) b (-a) (n+1) 1 s x↔Dr (aH T M) b a n s (-x):=λn=>by
 rw[eo,same.gj,iN,<-lp,dU]
constructor
·rintro⟨n,c,h⟩;cases n with
 |zero=>exact absurd h mX
 |succ n=>exact⟨n,by lia,(e n).mp h⟩
·rintro⟨n,c,h⟩;exact⟨n+1,by lia,(e n).mpr h⟩)
theorem o6(same:dh (TW.sys (f0 ((wT T M).map ut))) (aH T M).back) :Fk TW (f0 ((wT T M).map ut)) b (-a) j s x↔(s=b/\x= -a)\/(∃m,(aH T M).walk s b m/\x= -a+m)\/∃n u g m,n<j/\Dr (aH T M) b a n u g/\(aH T M).walk s u m/\x= -g+m:=by(
have e:∀n u z,GJ (aH T M).back b (-a) (n+1) 1 u z↔Dr (aH T M) b a n u (-z):=λn u z=>by
 rw[iN,<-lp,dU]
constructor
·rintro⟨n,w,d,hw,h⟩;rw[eo,same.gj]at h;rcases kY h with⟨_,_,h1,h2⟩|q|q
 ·exact .inl ⟨h1,h2⟩
 ·exact absurd q hw
 ·subst q;obtain⟨u,z,m,h1,h2,c⟩:=(mK h).2 rfl;rcases c with⟨_,rfl,rfl⟩|c
  ·exact .inr (.inl ⟨m,h1,h2⟩)
  ·cases n with
   |zero=>cases c
   |succ n=>exact .inr (.inr ⟨n,u,-z,m,by lia,(e n u z).mp c,h1,by lia⟩)
·rintro(⟨rfl,rfl⟩|⟨m,h1,rfl⟩|⟨n,u,g,m,d,h1,h2,rfl⟩)
 ·exact⟨0,0,f4 _,by decide,.start⟩
 ·refine⟨0,2,f4 _,by decide,?_⟩;rw[eo,same.gj];exact .walk .start (by decide) h1
 ·refine⟨n+1,2,by lia,by decide,?_⟩;rw[eo,same.gj];exact .walk ((e n u (-g)).mpr (by rw[dU];exact h1)) (by decide) h2)
def LeftW (T:t1) (M b:Nat) (a:Int) (j s:Nat) (t:Int):Prop:=∃n g,n<j/\t<=g/\Dr (aH T M) b a n s g
def iu (T:t1) (M b:Nat) (a:Int) (j s:Nat) (t:Int):Prop:=gD (aH T M) s t b a\/∃n c g3,n<j/\iv (aH T M) s t c g3/\Dr (aH T M) b a n c g3
theorem Fo(hT:bm T) (d:ss (up T) ((wT T M).map ut) (lm T M) ((ol T).map bD) TW) (f:s<T.stops.length) (h:SInv TW (f0 ((wT T M).map ut)) b (-a) j S) (i: -FS<t):
  t<= -(S.ab.getD s 0)↔LeftW T M b a j s t:=by(
obtain⟨ok,same,e⟩:=jB hT d;have m:=h.ab s (by rw[e];exact f);constructor
·intro q;rcases m.1 with p|p
 ·obtain⟨n,h1,h2⟩:=(p6 same).mp p;exact⟨n,_,h1,q,h2⟩
 ·lia
·rintro⟨n,g,h1,h2,c⟩;have:=m.2 (-g) ((p6 same).mpr ⟨n,h1,by rw[dU];exact c⟩);lia)
theorem AQ(hT:bm T) (f:ss (up T) ((wT T M).map ut) (lm T M) ((ol T).map bD) TW) :(∃x,Gk TW (f0 ((wT T M).map ut)) b (-a) j s x/\x<= -t)↔iu T M b a j s t:=by(
obtain⟨ok,same,c⟩:=jB hT f;have d:TW.chg.getD s 0=(aH T M).chg s:=same.2.2 s;constructor
·rintro⟨x,h|⟨y,h,rfl⟩,k⟩
 ·rcases(o6 same).mp h with⟨rfl,rfl⟩|⟨m,h1,rfl⟩|⟨n,u,g,m,c,h1,h2,rfl⟩
  ·exact .inl (.inl ⟨O,by lia⟩)
  ·exact .inl (.inr ⟨m,h1,by lia⟩)
  ·exact .inr ⟨n,u,g,c,.inr ⟨m,h2,by lia⟩,h1⟩
 ·obtain⟨n,h1,h2⟩:=(p6 same).mp h;exact .inr ⟨n,s,-y,h1,.inl ⟨O,by rw[<- d];lia⟩,h2⟩
·rintro((⟨rfl,h⟩|⟨m,h1,h2⟩)|⟨n,i,g3,c,⟨rfl,h⟩|⟨m,h1,h2⟩,e⟩)
 ·exact⟨-a,.inl ((o6 same).mpr (.inl ⟨O,O⟩)),by lia⟩
 ·exact⟨-a+m,.inl ((o6 same).mpr (.inr (.inl ⟨m,h1,O⟩))),by lia⟩
 ·refine⟨-g3+TW.chg.getD s 0,.inr ⟨-g3,(p6 same).mpr ⟨n,c,by rw[dU];exact e⟩,O⟩,by rw[d];lia⟩
 ·exact⟨-g3+m,.inl ((o6 same).mpr (.inr (.inr ⟨n,i,g3,m,c,e,h1,O⟩))),by lia⟩)
theorem Je(hT:bm T) (c:ss (up T) ((wT T M).map ut) (lm T M) ((ol T).map bD) TW) (e:s<T.stops.length) (h:SInv TW (f0 ((wT T M).map ut)) b (-a) j S) (f: -FS<t):
  t<= -(S.ready.getD s 0)↔iu T M b a j s t:=by(
obtain⟨ok,same,d⟩:=jB hT c;have m:lw (Gk TW (f0 ((wT T M).map ut)) b (-a) j s) (S.ready.getD s 0):=h.mid.ready s (by rw[d];exact e);rw[<- AQ hT c];constructor
·intro q;rcases m.1 with p|p
 ·exact⟨_,p,by lia⟩
 ·lia
·rintro⟨x,h1,h2⟩;have:=m.2 x h1;lia)
theorem yn(hT:bm T) (c:ss (up T) (wT T M) (lm T M) (ol T) N) (e:ss (up T) ((wT T M).map ut) (lm T M) ((ol T).map bD) TW) (g:r<N.runs.length):
  r<TW.runs.length/\TW.len r=N.len r/\∀i,i<N.len r->TW.stop r i=N.stop r (N.len r-1-i)/\f0 ((wT T M).map ut) r i= -(N.comes r (N.len r-1-i)):=by(
have f:r<(wT T M).length:=by rw[<- c.e9];exact g
have h:=getD_mem f ([],[],[]);have d:((wT T M).map ut).getD r ([],[],[])=ut ((wT T M).getD r ([],[],[])):=by
 simp[np,pr,g1 f]
have j:=(j2 hT M).comes _ h;refine⟨by rw[e.e9];simpa using f,?_,λi hi=>⟨?_,?_⟩⟩
·rw[e.len,c.len,d];simp[ut]
·rw[c.len]at hi⊢;rw[e.stop,c.stop,d];simp only[ut];rw[rev_getD hi]
·rw[c.len]at hi⊢;rw[c.comes];unfold f0;rw[d];simp only[ut];rw[pI (by rw[fh];lia),rev_getD (by lia),j])
theorem AW(hT:bm T) (p:ss (up T) (wT T M) (lm T M) (ol T) N) (l:ss (up T) ((wT T M).map ut) (lm T M) ((ol T).map bD) TW) (s:r<N.runs.length) (h:SInv TW (f0 ((wT T M).map ut)) b (-a) (j+1) S):
  c<N.len r-1-S.aa.getD r 0↔∃off,c<off/\off<N.len r/\iu T M b a j (N.stop r off) (N.comes r off):=by(
obtain⟨e,m,n⟩:=yn hT p l s;have g:=h.gH r e;have d:=h.gI r e;have k:=λi=>h.mG r i e;rw[m]at g d;simp only[m]at k;have f:∀i,i<N.len r->(bd TW (f0 ((wT T M).map ut)) b (-a) j r i↔iu T M b a j (N.stop r (N.len r-1-i)) (N.comes r (N.len r-1-i))):=by
 intro i hi;rw[<- AQ hT l];unfold bd;rw[(n i hi).1,(n i hi).2]
constructor
·intro q;rcases d with d|⟨_,d⟩
 ·lia
 ·rw[show j+1-1=j by lia,f _ g]at d;exact⟨_,q,by lia,d⟩
·rintro⟨off,h1,h2,o⟩;have:=k (N.len r-1-off) (by lia) (by lia) (by
  rw[show j+1-1=j by lia,f _ (hR h2),nq h2];exact o)
 lia)
def Fin (T:t1) (M b:Nat) (a:Int) (n:Nat) (x:Place):Prop:=∃m c w,be T M x m=some ⟨b,c,w⟩/\c<=a/\rides m<=n
theorem mC:∀(n s:Nat) (g:Int),Dr (aH T M) b a n s g->∀x:Place,x.halt=s->x.time+chg T x<=g->∃m e w,be T M x m=some ⟨b,e,w⟩/\e<=a/\rides m=n+1
 |0,s,g,E,x,ex,D=>by
  obtain⟨t,c,⟨⟨p,k,tr⟩,J,i,j,h1,h2,h,l,o,r⟩,d⟩:=E;obtain⟨u,A,C⟩:=dr.mp J;simp only at h2 h l o r;have f:go T M x (.ride p k i j)=some ⟨t,c,1⟩:=bP.mpr ⟨tr,u,A,C,h1,h2,by rw[ex,h],by rw[<- l];exact D,by rw[o,r]⟩;rcases d with⟨rfl,d⟩|⟨m,⟨w,L,N,Q,U⟩,d⟩
  ·exact⟨[.ride p k i j],c,1,by rw[iM];exact f,d,by rw[gp];rfl⟩
  ·obtain⟨q,H⟩:=fW.mp L;refine⟨[.ride p k i j,.walk q],c+m,2,?_,d,by rw[gp,iV];rfl⟩;rw[gK f,iM];exact aM.mpr ⟨w,H,N,by simp,by rw[Q,U]⟩
 |n+1,s,g,E,x,ex,D=>by
  obtain⟨t,c,OJ,g3,⟨⟨p,k,tr⟩,J,i,j,h1,h2,h,l,o,r⟩,d,hd⟩:=E;obtain⟨u,A,C⟩:=dr.mp J;simp only at h2 h l o r;have f:go T M x (.ride p k i j)=some ⟨t,c,1⟩:=bP.mpr ⟨tr,u,A,C,h1,h2,by rw[ex,h],by rw[<- l];exact D,by rw[o,r]⟩;rcases d with⟨rfl,d⟩|⟨m,⟨w,L,N,Q,U⟩,d⟩
  ·obtain⟨z,e,v,Y,OH,OI⟩:=mC n _ _ hd ⟨t,c,1⟩ rfl (by simpa [chg,aH]using d);exact⟨.ride p k i j::z,e,v,by rw[gK f];exact Y,OH,by rw[gp,OI]⟩
  ·obtain⟨q,H⟩:=fW.mp L;obtain⟨z,e,v,Y,OH,OI⟩:=mC n _ _ hd ⟨OJ,c+m,2⟩ rfl (by simpa [chg]using d);refine⟨.ride p k i j:: .walk q::z,e,v,?_,OH,by rw[gp,iV,OI]⟩;rw[gK f,gK (y:=⟨OJ,c+m,2⟩) (aM.mpr ⟨w,H,N,by simp,by rw[Q,U]⟩)];exact Y
theorem o4:∀(m:List Leg) (n:Nat) (x:Place) (d:Int) (w:Nat),be T M x m=some ⟨b,d,w⟩->d<=a->rides m<=n->
  (x.way=2->(x.halt=b/\x.time<=a)\/LeftW T M b a n x.halt x.time)/\(x.way=1->iu T M b a n x.halt x.time)
 |[],n,x,d,w,f,h,l=>by
  cases f;exact⟨λ_=>.inl ⟨O,h⟩,λ_=>.inl (.inl ⟨O,h⟩)⟩
 |.walk q::m,n,x,d,w,f,h,l=>by
  obtain⟨y,g,f⟩:=dj f;obtain⟨wk,s,t,u,rfl⟩:=aM.mp g;rw[iV]at l;have e:=(o4 m n _ d w f h l).1 rfl;have hw:(aH T M).walk x.halt wk.to (wk.minutes:Int):=⟨wk,pi s,t,O,O⟩;refine⟨λq=>absurd q u,λ_=>?_⟩;simp only at e;rcases e with⟨r,o⟩|⟨c,g',r,o,z⟩
  ·exact .inl (.inr ⟨_,by rw[<- r];exact hw,o⟩)
  ·exact .inr ⟨c,_,g',r,.inr ⟨_,hw,o⟩,z⟩
 |.ride p k i j::m,n,x,d,w,f,h,l=>by
  obtain⟨y,g,f⟩:=dj f;obtain⟨tr,s,t,u,C,D,E,H,rfl⟩:=bP.mp g;rw[gp]at l;have e:=(o4 m (n-1) _ d w f h (by lia)).2 rfl;simp only at e;have A:(aH T M).ride x.halt (tr.goes M k i) (tr.stopAt j) (tr.comes M k j):=⟨(p,k,tr),dr.mpr ⟨s,t,u⟩,i,j,C,D,E.symm,O,O,O⟩;have hd:∃c,c<n/\Dr (aH T M) b a c x.halt (tr.goes M k i):=by
   rcases e with e|⟨c,J,g3,r,o,z⟩
   ·exact⟨0,by lia,_,_,A,e⟩
   ·exact⟨c+1,by lia,_,_,J,g3,A,o,z⟩
  obtain⟨c,h1,h2⟩:=hd;refine⟨λq=>.inr ⟨c,_,h1,?_,h2⟩,λq=>.inr ⟨c,x.halt,_,h1,.inl ⟨O,?_⟩,h2⟩⟩
  ·have:=yP T x;lia
  ·have:chg T x=(aH T M).chg x.halt:=by simp[chg,q,aH]
   rw[<- this];exact H
theorem GI(hw:x.way=2):Fin T M b a n x↔(x.halt=b/\x.time<=a)\/LeftW T M b a n x.halt x.time:=by(
constructor
·rintro⟨m,c,w,h1,h2,d⟩;exact(o4 m n x c w h1 h2 d).1 hw
·rintro(⟨h1,h2⟩|⟨e,g,h1,h2,d⟩)
 ·exact⟨[],x.time,x.way,by rw[<- h1];rfl,h2,f4 _⟩
 ·obtain⟨m,c,w,f,h,i⟩:=mC e _ g d x rfl (by simp[chg,hw];exact h2);exact⟨m,c,w,f,h,by lia⟩)
theorem y9(hw:x.way=1):Fin T M b a n x↔iu T M b a n x.halt x.time:=by(
have r:chg T x=(aH T M).chg x.halt:=by simp[chg,hw,aH]
constructor
·rintro⟨m,c,w,h1,h2,d⟩;exact(o4 m n x c w h1 h2 d).2 hw
·rintro((⟨h1,h2⟩|⟨e,⟨w,i,j,k,l⟩,h2⟩)|⟨o,p,g3,h1,⟨rfl,h2⟩|⟨e,⟨w,i,j,k,l⟩,h2⟩,d⟩)
 ·exact⟨[],x.time,x.way,by rw[<- h1];rfl,h2,f4 _⟩
 ·obtain⟨q,f⟩:=fW.mp i;refine⟨[.walk q],x.time+e,2,?_,h2,f4 _⟩;rw[iM];exact aM.mpr ⟨w,f,j,by rw[hw];decide,by rw[k,l]⟩
 ·obtain⟨m,c,w,g,h,s⟩:=mC o _ g3 d x rfl (by rw[r];exact h2);exact⟨m,c,w,g,h,by lia⟩
 ·obtain⟨q,f⟩:=fW.mp i;obtain⟨m,c,v,g,h,s⟩:=mC o _ g3 d ⟨p,x.time+e,2⟩ rfl (by simp[chg];exact h2);refine⟨.walk q::m,c,v,?_,h,by rw[iV];lia⟩;rw[gK (y:=⟨p,x.time+e,2⟩) (aM.mpr ⟨w,f,j,by rw[hw];decide,by rw[k,l]⟩)];exact g)
end
section
variable {T:t1}{M b:Nat}{a:Int}{r:Nat}{x0:Place}
structure kE (T:t1) (M b:Nat) (a:Int) (r:Nat) (x0:Place):Prop where
 early:∀m c w,be T M x0 m=some ⟨b,c,w⟩->a<=c
 dC:∀m w,be T M x0 m=some ⟨b,a,w⟩->r<=rides m
theorem ry:∀(l m:List Leg) {x y:Place},be T M x l=some y->bn T M x (l++m)=bn T M x l++bn T M y m
 |[],m,x,y,h=>by cases h;rfl
 |c::l,m,x,y,h=>by
  obtain⟨z,g,f⟩:=dj h;rw[l9,iZ g,iZ g,ry l m f,dv]
structure fq (T:t1) (M b:Nat) (a:Int) (r:Nat) (x0:Place) (pre:List Leg) (x:Place) (left:Nat):Prop where
 at_:be T M x0 pre=some x
 rides:rides pre+left=r
 fin:Fin T M b a left x
 least:∀m,Ok T M b a r x0 m->(∃c,m=pre++c)\/∀z,be T M x z≠none->ci (bn T M x0 (pre++z)) (bn T M x0 m)=true
theorem fq.exact(o:kE T M b a r x0) (h1:be T M x0 pre=some x) (h2:eC pre+left=r) (f:be T M x m=some ⟨b,c,w⟩) (h:c<=a) (i:eC m<=left):Ok T M b a left x m:=by(
have d:be T M x0 (pre++m)=some ⟨b,c,w⟩:=by rw[kQ,h1];exact f
have g:=o.early _ _ _ d;have:c=a:=by lia
subst this;have e:=o.dC _ _ d;rw[lq]at e;exact⟨⟨w,f⟩,by lia⟩)
theorem fq.done(o:kE T M b a r x0) (h:fq T M b a r x0 pre x left) (e:x.halt=b) (d:x.time<=a):Ok T M b a r x0 pre/\∀m,Ok T M b a r x0 m->c6 (bn T M x0 pre) (bn T M x0 m):=by(
have f:be T M x []=some ⟨b,x.time,x.way⟩:=by rw[<- e];rfl
have k:=fq.exact o h.at_ h.rides f d (f4 _);obtain⟨⟨w,g⟩,c⟩:=k;have c:0=left:=c;refine⟨⟨⟨w,?_⟩,by have:=h.rides;lia⟩,λm hm=>?_⟩
·rw[h.at_];exact g
·rcases h.least m hm with⟨i,rfl⟩|q
 ·rw[ry _ _ h.at_];have:bn T M x0 pre=bn T M x0 pre++[]:=by simp
  conv=>lhs;rw[this]
  refine A2 ?_;cases bn T M x i with
  |nil=>exact .inl rfl
  |cons=>exact .inr rfl
 ·have:=q [] (by intro z;cases z);rw[fm]at this;exact .inr this)
theorem fq.step(o:kE T M b a r x0) (h:fq T M b a r x0 pre x left) (D:¬(x.halt=b/\x.time<=a)) (g:go T M x c=some y) (H:eC [c]+b8 left c=left) (hf:Fin T M b a (b8 left c) y)
  (hm:∀d l,go T M x d=some l->eC [d]<=left->Fin T M b a (b8 left d) l->d=c\/mR c d):fq T M b a r x0 (pre++[c]) y (b8 left c):=by(
refine⟨by rw[kQ,h.at_];show be T M x [c]=_;rw[iM];exact g,by rw[lq];have:=h.rides;lia,hf,λm p=>?_⟩;rcases h.least m p with⟨s,rfl⟩|q
·obtain⟨⟨w,f⟩,C⟩:=p;rw[kQ,h.at_]at f;have f:be T M x s=some ⟨b,a,w⟩:=f;rw[lq]at C;have J:=h.rides;cases s with
 |nil=>
  cases f;exact absurd ⟨O,fj _⟩ D
 |cons d e=>
  obtain⟨l,g',t⟩:=dj f;have E:eC [d]+eC e=left:=by
   have:eC (d::e)=eC [d]+eC e:=by rw[<- lq];rfl
   lia
  have A:eC e<=b8 left d:=by
   cases d with
   |walk v=>simp only[b8];lia
   |ride n k i j=>
    have:eC [Leg.ride n k i j]=1:=rfl;simp only[b8];lia
  rcases hm d l g' (by lia) ⟨e,a,w,t,fj _,A⟩with rfl|u
  ·exact .inl ⟨e,by simp⟩
  ·refine .inr λz hz=>?_;rw[dv,ry _ _ h.at_,ry _ _ h.at_,tu];show ci (bn T M x (c::z)) _=true;rw[iZ g,iZ g'];exact Af u g g' _ _
·refine .inr λz hz=>?_;rw[dv];refine q ([c]++z) ?_;show be T M x (c::z)≠none;rw[gK g];exact hz)
end
section
variable {T:t1}{M b:Nat}{a:Int}{N TW:Nt}
theorem pa(d:ss (up T) (wT T M) (lm T M) (ol T) N) (h:r<(v4 T M).length):
  N.aZ.getD r (0,0)=((v4 T M)[r].1,(v4 T M)[r].2.1)/\N.len r=(v4 T M)[r].2.2.calls.length/\(∀i,N.stop r i=(v4 T M)[r].2.2.stopAt i)/\
  ∀i,i<(v4 T M)[r].2.2.calls.length->N.comes r i=(v4 T M)[r].2.2.comes M (v4 T M)[r].2.1 i/\f0 (wT T M) r i=(v4 T M)[r].2.2.goes M (v4 T M)[r].2.1 i:=by(
obtain⟨e,c⟩:=zr h;refine⟨by rw[d.aZ];exact e,by rw[d.len,c];simp[aO],λi=>by rw[d.stop,c];exact jL _ _,λi hi=>⟨?_,?_⟩⟩
·rw[d.comes,c];exact range_getD hi _
·unfold f0;rw[c];exact range_getD hi _)
theorem p9 (c:ss (up T) (wT T M) (lm T M) (ol T) N):N.runs.length=(v4 T M).length:=by rw[c.e9];simp[wT]
noncomputable def fz (S:SS) (b:Nat) (a:Int) (g:Nat) (t:Int):Bool:=(decide (g=b)&&decide (t<=a))||decide (t<= -(S.ab.getD g 0))
theorem t5(d:ss (up T) (wT T M) (lm T M) (ol T) N) (f:s<T.stops.length) :(g,m,q)∈N.foot.getD s []↔∃w,T.walks[q]?=some w/\w.from_=s/\w.to=g/\m=(w.minutes:Int):=by(
rw[d.foot s (by simpa [up]using f),ux];unfold ol;rw[pr];constructor
·intro h;cases e:T.walks[q]? with
 |none=>rw[e]at h;cases h
 |some w=>
  rw[e]at h;injection h with h;injection h with h1 h2;injection h2 with h2 c;exact⟨w,O,h1,h2,c.symm⟩
·rintro⟨w,h1,rfl,rfl,rfl⟩;rw[h1];rfl)
theorem GR(c:ss (up T) (wT T M) (lm T M) (ol T) N) (d:s<T.stops.length):(N.foot.getD s []).Pairwise λx y=>x.2.2<y.2.2:=by
 rw[c.foot s (by simpa [up]using d)];unfold dm;rw[ji];refine List.Pairwise.filter _ ?_;rw[kr];intro i j hi e h;simp[Cp];exact h
theorem v3(hT:bm T) (c:ss (up T) ((wT T M).map ut) (lm T M) ((ol T).map bD) TW) (h:SInv TW (f0 ((wT T M).map ut)) b (-a) left S) (hg:g<T.stops.length) (d: -FS<t):
  fz S b a g t=true↔Fin T M b a left ⟨g,t,2⟩:=by
 rw[GI rfl];unfold fz;simp only[hj,ev,dL];rw[Fo hT c hg h d]
theorem Nc(hT:bm T) (e:ss (up T) (wT T M) (lm T M) (ol T) N) (t:ss (up T) ((wT T M).map ut) (lm T M) ((ol T).map bD) TW) (h:SInv TW (f0 ((wT T M).map ut)) b (-a) left S) (l:x.halt<T.stops.length) (Q: -FS<x.time) (hw:x.way≠2)
  (s:N.foot.getD x.halt []=A++(g,m,q)::J) (h1:∀f,f∈A->fz S b a f.1 (x.time+f.2.1)=false) (h2:fz S b a g (x.time+m)=true):
  go T M x (.walk q)=some ⟨g,x.time+m,2⟩/\bS T M x (.walk q)=[-1,(q:Int),(x.halt:Int),(g:Int),x.time+m]/\g<T.stops.length/\0<=m/\Fin T M b a left ⟨g,x.time+m,2⟩/\
  ∀c r,go T M x c=some r->eC [c]<=left->Fin T M b a (b8 left c) r->c=.walk q\/mR (.walk q) c:=by(
obtain⟨w,o,y,p,z⟩:=(t5 e l (g:=g) (q:=q) (m:=m)).mp (by rw[s];simp);have wr:=hT.right.2 w (pi o);have hg:g<T.stops.length:=by rw[<- p];exact wr.2
refine⟨aM.mpr ⟨w,o,y,hw,by rw[p,z]⟩,by simp only[bS,o];rw[y,p,z],hg,by lia,(v3 hT t h hg (by lia)).mp h2,λc r g' L hf=>?_⟩;cases c with
|ride n k i j=>exact .inr trivial
|walk D=>
 obtain⟨d,u,E,U,rfl⟩:=aM.mp g';have hm:(d.to,(d.minutes:Int),D)∈N.foot.getD x.halt []:=(t5 e l).mpr ⟨d,u,E,O,O⟩;have H:=hT.right.2 d (pi u);have C:=(v3 hT t h H.2 (by lia)).mpr hf;have ps:=GR e l;rw[s]at hm ps;rw[wb]at ps;rcases cs.mp hm with hm|hm
 ·have:=h1 _ hm;simp only at this;rw[C]at this;cases this
 ·rcases rs.mp hm with hm|hm
  ·injection hm with _ hm;injection hm with _ hm;subst hm;exact .inl rfl
  ·exact .inr ((oA.mp ps.2.1).1 _ hm))
theorem Nb(hT:bm T) (i:ss (up T) (wT T M) (lm T M) (ol T) N) (g:ss (up T) ((wT T M).map ut) (lm T M) ((ol T).map bD) TW) (h:SInv TW (f0 ((wT T M).map ut)) b (-a) left S) (k:x.halt<T.stops.length) (n: -FS<x.time)
  (h1:∀f,f∈N.foot.getD x.halt []->fz S b a f.1 (x.time+f.2.1)=false):∀q d,go T M x (.walk q)=some d->¬Fin T M b a left d:=by
 intro q d g' hf;obtain⟨c,e,l,o,rfl⟩:=aM.mp g';have hm:(c.to,(c.minutes:Int),q)∈N.foot.getD x.halt []:=(t5 i k).mpr ⟨c,e,l,O,O⟩;have m:=hT.right.2 c (pi e);have j:=(v3 hT g h m.2 (by lia)).mpr hf;have:=h1 _ hm;simp only at this;rw[j]at this;cases this
noncomputable def bE (N:Nt) (S:SS) (ready:Int) (e:on):Bool:=decide (ready<=e.1)&&decide (e.2.2<N.len e.2.1-1-S.aa.getD e.2.1 0)
noncomputable def e2 (N:Nt) (S:SS) (r j:Nat):Bool:=decide (N.comes r j<= -(S.ready.getD (N.stop r j) 0))
theorem uE(hT:bm T) (d:ss (up T) (wT T M) (lm T M) (ol T) N) (l:ss (up T) ((wT T M).map ut) (lm T M) ((ol T).map bD) TW) (h:SInv TW (f0 ((wT T M).map ut)) b (-a) n S) (f:r<N.runs.length) (c:j<N.len r):
  e2 N S r j=true↔iu T M b a n (N.stop r j) (N.comes r j):=by
 have e:=f;rw[p9 d]at e;obtain⟨q,i,s,k⟩:=pa d e;obtain⟨ok,_,m⟩:=dF hT d;have g:=ok.eO r j f c;rw[m]at g;unfold e2;rw[dL];refine Je hT l g h ?_;rw[i]at c;rw[(k j c).1];have mi:((v4 T M)[r].1,(v4 T M)[r].2.1,(v4 T M)[r].2.2)∈v4 T M:=eX e;obtain⟨o,p,t⟩:=dr.mp mi;have:=lH hT (pi o) M p c;unfold FS;lia
theorem AV(hT:bm T) (d:ss (up T) (wT T M) (lm T M) (ol T) N) (w:ss (up T) ((wT T M).map ut) (lm T M) ((ol T).map bD) TW) (h:SInv TW (f0 ((wT T M).map ut)) b (-a) (n+1) S) (h':SInv TW (f0 ((wT T M).map ut)) b (-a) n C) (U:x.halt<T.stops.length)
  (g:go T M x (.ride p k i j)=some y) (hf:Fin T M b a n y):
  ∃r,∃z:r<(v4 T M).length,(v4 T M)[r].1=p/\(v4 T M)[r].2.1=k/\i<j/\j<N.len r/\e2 N C r j=true/\∃e,e∈N.af.getD x.halt []/\e.2=(r,i)/\bE N S (x.time+chg T x) e=true:=by(
obtain⟨tr,D,E,H,t,f,J,L,rfl⟩:=bP.mp g;obtain⟨r,z⟩:=fW.mp (dr.mpr ⟨D,E,H⟩);obtain⟨o,q⟩:=aD.mp z;obtain⟨A,c,l,m⟩:=pa d o;have s:r<N.runs.length:=by rw[p9 d];exact o
rw[q]at A c l m;simp only at A c l m;obtain⟨ok,_,Q⟩:=dF hT d;have u:iu T M b a n (N.stop r j) (N.comes r j):=by
 rw[l,(m j f).1];exact(y9 (x:=⟨tr.stopAt j,tr.comes M k j,1⟩) rfl).mp hf
refine⟨r,o,by rw[q],by rw[q],t,by rw[c];exact f,(uE hT d w h' s (by rw[c];exact f)).mpr u,(f0 (wT T M) r i,r,i),?_,O,?_⟩
·exact(ok.af x.halt (by rw[Q];exact U) _ r i).mpr ⟨s,by rw[c];lia,by rw[l];exact J,O⟩
·unfold bE;simp only[ev,dL];refine⟨by rw[(m i (by lia)).2];exact L,?_⟩;exact(AW hT d w s h).mpr ⟨j,t,by rw[c];exact f,u⟩)
theorem Ly(hT:bm T) (m:ss (up T) (wT T M) (lm T M) (ol T) N) (D:ss (up T) ((wT T M).map ut) (lm T M) ((ol T).map bD) TW) (h:SInv TW (f0 ((wT T M).map ut)) b (-a) (n+1) S) (h':SInv TW (f0 ((wT T M).map ut)) b (-a) n C) (J:x.halt<T.stops.length)
  (OR:e∈N.af.getD x.halt []) (u:bE N S (x.time+chg T x) e=true) (OV:∀d,d∈N.af.getD x.halt []->bE N S (x.time+chg T x) d=true->e.2.1<d.2.1\/(e.2.1=d.2.1/\e.2.2<=d.2.2))
  (OS:e.2.2<j) (w:j<N.len e.2.1) (OT:e2 N C e.2.1 j=true) (OU:∀f,e.2.2<f->f<j->e2 N C e.2.1 f=false) (hw:∀q l,go T M x (.walk q)=some l->¬Fin T M b a (n+1) l):
  ∃p k,N.aZ.getD e.2.1 (0,0)=(p,k)/\go T M x (.ride p k e.2.2 j)=some ⟨N.stop e.2.1 j,N.comes e.2.1 j,1⟩/\bS T M x (.ride p k e.2.2 j)=[(p:Int),k,(e.2.2:Int),(j:Int),N.comes e.2.1 j]/\N.stop e.2.1 j<T.stops.length/\Fin T M b a n ⟨N.stop e.2.1 j,N.comes e.2.1 j,1⟩/\
  ∀c l,go T M x c=some l->eC [c]<=n+1->Fin T M b a (b8 (n+1) c) l->c=.ride p k e.2.2 j\/mR (.ride p k e.2.2 j) c:=by(
obtain⟨g,r,i⟩:=e;simp only at*;obtain⟨ok,_,E⟩:=dF hT m;obtain⟨t,O2,U,Y⟩:=(ok.af x.halt (by rw[E];exact J) g r i).mp OR;have s:=t;rw[p9 m]at s;obtain⟨OY,OZ,L,y⟩:=pa m s;have mi:((v4 T M)[r].1,(v4 T M)[r].2.1,(v4 T M)[r].2.2)∈v4 T M:=eX s;obtain⟨A,Q,O1⟩:=dr.mp mi;unfold bE at u;simp only[ev,dL]at u;have o:=w;rw[OZ]at o;have H:=ok.eO r j t w;rw[E]at H;refine⟨_,_,OY,bP.mpr ⟨_,A,Q,O1,OS,o,by rw[<- L];exact U,by rw[<- (y i (by lia)).2,<-Y];exact u.1,by rw[L,(y j o).1]⟩,by simp only[bS,A];rw[(y j o).1],H,(y9 rfl).mpr ((uE hT m D h' t w).mp OT),λc l g' O4 hf=>?_⟩;cases c with
|walk q=>exact absurd hf (hw q l g')
|ride O6 O5 OX f=>
 obtain⟨O0,OW,OH,OI,OJ,O3,OK,d,OL,OM,ON⟩:=AV hT m D h h' J g' (by simpa [b8]using hf);have:=OV d OL ON;rw[OM]at this;simp only at this;rcases this with lt|⟨rfl,le⟩
 ·refine .inr ?_;have:=kr.mp (uj (T:=T) (M:=M)) r O0 s OW lt;rcases this with z|⟨A,Q⟩
  ·exact .inl (by lia)
  ·exact .inr ⟨by lia,.inl (by lia)⟩
 ·subst OH OI;by_cases OO:i=OX
  ·subst OO;by_cases OP:f<j
   ·have:=OU f OJ OP;rw[OK]at this;cases this
   ·by_cases OQ:f=j
    ·subst OQ;exact .inl rfl
    ·exact .inr (.inr ⟨O,.inr ⟨O,.inr ⟨O,by lia⟩⟩⟩)
  ·exact .inr (.inr ⟨O,.inr ⟨O,.inl (by lia)⟩⟩))
theorem Lz(hT:bm T) (u:ss (up T) (wT T M) (lm T M) (ol T) N) (t:ss (up T) ((wT T M).map ut) (lm T M) ((ol T).map bD) TW) {S:Nat->SS}(h:∀k,SInv TW (f0 ((wT T M).map ut)) b (-a) k (S k)) (A:x.halt<T.stops.length)
  (hf:Fin T M b a left x) (z:x.halt≠b) (hw:∀q o,go T M x (.walk q)=some o->¬Fin T M b a left o):∃n,left=n+1/\∃e,e∈N.af.getD x.halt []/\bE N (S left) (x.time+chg T x) e=true:=by(
obtain⟨m,d,w,f,l,c⟩:=hf
match m,f,c with
|[],f,c=>cases f;exact absurd rfl z
|.walk q::m,f,c=>
 obtain⟨y,g,f⟩:=dj f;exact absurd ⟨m,d,w,f,l,by rw[iV]at c;exact c⟩ (hw q y g)
|.ride p k i j::m,f,c=>
 obtain⟨y,g,f⟩:=dj f;rw[gp]at c;obtain⟨n,rfl⟩:∃n,left=n+1:=⟨left-1,by lia⟩;obtain⟨r,_,_,_,_,_,_,e,h1,_,s⟩:=AV hT u t (h (n+1)) (h n) A g ⟨m,d,w,f,l,by lia⟩;exact⟨n,O,e,h1,s⟩)
theorem Jf(hT:bm T) (d:ss (up T) (wT T M) (lm T M) (ol T) N) (k:ss (up T) ((wT T M).map ut) (lm T M) ((ol T).map bD) TW) (h:SInv TW (f0 ((wT T M).map ut)) b (-a) (n+1) S) (h':SInv TW (f0 ((wT T M).map ut)) b (-a) n l) (q:s<T.stops.length) (o:e∈N.af.getD s []) (f:bE N S ready e=true):
  e.2.1<N.runs.length/\∃j,e.2.2<j/\j<N.len e.2.1/\e2 N l e.2.1 j=true:=by
 obtain⟨g,r,i⟩:=e;obtain⟨ok,_,p⟩:=dF hT d;obtain⟨c,t,u,w⟩:=(ok.af s (by rw[p];exact q) g r i).mp o;unfold bE at f;simp only[ev,dL]at f;obtain⟨j,h1,h2,m⟩:=(AW hT d k c h).mp f.2;exact⟨c,j,h1,h2,(uE hT d k h' c h2).mpr m⟩
end
theorem Kg(hT:bm T) (j:ss (up T) (wT T M) (lm T M) (ol T) N) (o:a<T.stops.length) (d:b<T.stops.length) (h:SInv N (f0 (wT T M)) a t k S) (p:S.ae=[]) (u:t+240<FS) (r:S.arr.getD b 0≠FS):
  kE T M b (S.arr.getD b 0) (S.rides.getD b 0) ⟨a,t,0⟩/\fq T M b (S.arr.getD b 0) (S.rides.getD b 0) ⟨a,t,0⟩ [] ⟨a,t,0⟩ (S.rides.getD b 0)/\S.rides.getD b 0<=k:=by(
obtain⟨ok,same,c⟩:=dF hT j;obtain⟨h1,h2⟩:=t8 ok same h p (s:=b) (by rw[c];exact d);have lt:S.arr.getD b 0<FS:=by
 rcases h1.1 with⟨n,q⟩|q
 ·obtain⟨w,q⟩:=gY.mp q;exact(iR ok (by rw[c];exact o) u (eo.mpr (same.gj.mpr q))).1
 ·exact absurd q r
obtain⟨g,i⟩:=h2 lt;refine⟨⟨λm e w f=>h1.2 e ⟨_,iY.mpr ⟨m,w,f,O⟩⟩,λm w f=>?_⟩,⟨O,by rw[LB,sq],?_,λm _=>.inl ⟨m,O⟩⟩,(h.rides b (by rw[c];exact d) lt).1⟩
·by_cases q:rides m<S.rides.getD b 0
 ·exact absurd (iY.mpr ⟨m,w,f,O⟩) (i _ q)
 ·lia
·obtain⟨l,w,f,x⟩:=iY.mp g;exact⟨l,_,w,f,fj _,by lia⟩)
theorem Hy(hT:bw T) (o:kE T M b a r x0) (h:fq T M b a r x0 pre x left) (d:x.halt=b) (c:x.time<=a):
  ∃l',eD T M b a (v4 T M) (2*r+3) r x0=some l'/\bn T M x0 l'=bn T M x0 pre/\l'.length=pre.length:=by
 obtain⟨h1,h2⟩:=h.done o d c;exact Mf hT h1 h2 (by lia)
noncomputable def ek (T:t1) (M:Nat):Place->List Leg->List (List Int)
 |_,[]=>[]
 |x,c::l=>bS T M x c::(match go T M x c with
  |some y=>ek T M y l
  |none=>[])
theorem uq:∀(l:List Leg) (c:Leg) {x y:Place},be T M x l=some y->ek T M x (l++[c])=ek T M x l++[bS T M y c]
 |[],c,x,y,h=>by
  cases h;show bS T M x c::_=[bS T M x c];cases go T M x c<;>rfl
 |d::l,c,x,y,h=>by
  obtain⟨z,g,f⟩:=dj h;show bS T M x d::(match go T M x d with|some y=>ek T M y (l++[c])|none=>[])=(bS T M x d::(match go T M x d with|some y=>ek T M y l|none=>[]))++_;rw[g];simp only;rw[uq l c f];rfl
theorem pk:∀(l:List Leg) {x y:Place},be T M x l=some y->(ek T M x l).flatten=bn T M x l/\(ek T M x l).length=l.length
 |[],x,y,h=>⟨O,O⟩
 |d::l,x,y,h=>by
  obtain⟨z,g,f⟩:=dj h;rw[iZ g];show(bS T M x d::(match go T M x d with|some y=>ek T M y l|none=>[])).flatten=_/\(bS T M x d::(match go T M x d with|some y=>ek T M y l|none=>[])).length=_;rw[g];simp only[kv,bt];rw[(pk l f).1,(pk l f).2];exact⟨O,O⟩
inductive BJ (N:Nt) (goes:Nat->Nat->Int) (Wp:Nat->Nat->Prop):Nat->Nat->Int->Prop
 |first {r i j:Nat}:Wp r i->r<N.runs.length->i<j->j<N.len r->BJ N goes Wp 1 (N.stop r j) (N.comes r j)
 |walk {w s g:Nat}{x m:Int}:BJ N goes Wp w s x->w≠2->(g,m)∈N.ft s->BJ N goes Wp 2 g (x+m)
 |ride {w s r i j:Nat}{x:Int}:BJ N goes Wp w s x->r<N.runs.length->i<j->j<N.len r->N.stop r i=s->x+(if w=1 then N.chg.getD s 0 else 0)<=goes r i->BJ N goes Wp 1 (N.stop r j) (N.comes r j)
def bB (N:Nt) (goes:Nat->Nat->Int) (Wp:Nat->Nat->Prop) (r i:Nat):Prop:=Wp r i\/∃w x,BJ N goes Wp w (N.stop r i) x/\x+(if w=1 then N.chg.getD (N.stop r i) 0 else 0)<=goes r i
def jm (N:Nt) (F:List Nat) (s:Nat) (x:Int):Prop:=Behind N F s x\/∃u y m,Behind N F u y/\(s,m)∈N.ft u/\x=y+m
def oG (N:Nt) (F:List Nat) (s:Nat) (x:Int):Prop:=(∃y,Behind N F s y/\x=y+N.chg.getD s 0)\/∃u y m,Behind N F u y/\(s,m)∈N.ft u/\x=y+m
def tV (N:Nt) (goes:Nat->Nat->Int) (Wp:Nat->Nat->Prop) (e:on):Prop:=e.2.1<N.runs.length/\e.2.2+1<N.len e.2.1/\bB N goes Wp e.2.1 e.2.2
structure e0 (N:Nt) (goes:Nat->Nat->Int) (Wp:Nat->Nat->Prop) (S:SS):Prop where
 mid:aL N (jm N S.aa) (λ_ _ _=>True) (tV N goes Wp) (λe=>S.aa.getD e.2.1 0<=e.2.2) (jm N S.aa) (oG N S.aa) S
 e8:S.ab.length=N.n
 ab:∀s,s<N.n->lw (Behind N S.aa s) (S.ab.getD s 0)
 cY:S.aa.length=N.runs.length
 gH:∀r,r<N.runs.length->S.aa.getD r 0<N.len r
 gI:∀r,r<N.runs.length->S.aa.getD r 0+1=N.len r\/(S.aa.getD r 0+1<N.len r/\bB N goes Wp r (S.aa.getD r 0))
 cover:∀r i,r<N.runs.length->i+1<N.len r->Wp r i->S.aa.getD r 0<=i\/∃g,(g,r,i)∈S.ae
section
variable {N:Nt}{goes:Nat->Nat->Int}{Wp:Nat->Nat->Prop}
theorem Fl(f:∀r i,Wp r i->d r i) (h:BJ N goes Wp w s x):BJ N goes d w s x:=by(
induction h with
|first h1 h2 a b=>exact .first (f _ _ h1) h2 a b
|walk _ h2 a c=>exact .walk c h2 a
|ride _ h1 h2 a b e c=>exact .ride c h1 h2 a b e)
theorem yl(a:∀r i,Wp r i->b r i) (h:bB N goes Wp r i):bB N goes b r i:=by(
rcases h with h|⟨w,x,h1,h2⟩
·exact .inl (a _ _ h)
·exact .inr ⟨w,x,Fl a h1,h2⟩)
theorem Fg(h:bB N goes Wp r i) (b:r<N.runs.length) (hi:i<j) (a:j<N.len r):BJ N goes Wp 1 (N.stop r j) (N.comes r j):=by(
rcases h with h|⟨w,x,h1,h2⟩
·exact .first h b hi a
·exact .ride h1 b hi a rfl h2)
theorem yr(h2:∀r,r<N.runs.length->F.getD r 0+1=N.len r\/(F.getD r 0+1<N.len r/\bB N goes Wp r (F.getD r 0))) (h:Behind N F s x):BJ N goes Wp 1 s x:=by(
obtain⟨r,j,a,b,c,rfl,rfl⟩:=h;rcases h2 r a with p|⟨_,p⟩
·lia
·exact Fg p a b c)
theorem tE(ok:bz N goes) (h:Behind N F s x):x+240<FS/\s<N.n:=by
 obtain⟨r,j,a,c,b,rfl,rfl⟩:=h;exact⟨ok.iJ r j a b,ok.eO r j a b⟩
theorem Fj(c:∀r,r<N.runs.length->b.getD r 0<=F.getD r 0) (h:Behind N F s x):Behind N b s x:=by
 obtain⟨r,j,a,f,d,e⟩:=h;exact⟨r,j,a,by have:=c r a;lia,d,e⟩
theorem Fm (ok:bz N goes):e0 N goes (λ_ _=>False) (f1 N):=by(
have rep:∀ {A:Type}(n s:Nat) (x d:A),s<n->(f8 n x).getD s d=x:=λn s x d a=>by simp[np,ou,a]
have m:∀s,s<N.n->(N.af.map cC).getD s 0=(N.af.getD s []).length:=λs a=>by
 simp only[np,pr];rw[g1 (by rw[ok.hG];exact a)];rfl
have t:∀s,s<N.n->∀e,e∈N.af.getD s []->e.1<FS:=λs a e f=>by
 obtain⟨g,r,i⟩:=e;obtain⟨h1,h2,_,C⟩:=(ok.af s a g r i).mp f;have:=ok.k0 r i h1 (by lia);simp only;lia
have l:∀r,r<N.runs.length->(f1 N).aa.getD r 0=N.len r-1:=λr c=>by
 show(N.runs.map λr=>r.1.length-1).getD r 0=_;simp only[np,pr,Nt.len];rw[g1 c];rfl
have h:∀s x,¬Behind N (f1 N).aa s x:=by
 rintro s x ⟨r,j,y,z,D,_⟩;rw[l r y]at z;lia
have u:∀s x,¬jm N (f1 N).aa s x:=by
 rintro s x (q|⟨_,_,_,q,_⟩)
 ·exact h _ _ q
 ·exact h _ _ q
have w:∀s x,¬oG N (f1 N).aa s x:=by
 rintro s x (⟨_,q,_⟩|⟨_,_,_,q,_⟩)
 ·exact h _ _ q
 ·exact h _ _ q
refine⟨{
 dn:=by simp[f1],dq:=by simp[f1],dG:=by simp[f1],dH:=by simp[f1,ok.hG]
 arr:=λs a=>by show lw _ ((f8 N.n FS).getD s 0);rw[rep _ _ _ _ a];exact lw.never (u s)
 sub:=λ_ _ _ q=>q
 rides:=λs a o=>by
  have o:(f8 N.n FS).getD s 0<FS:=o;rw[rep _ _ _ _ a]at o;lia
 ready:=λs a=>by show lw _ ((f8 N.n FS).getD s 0);rw[rep _ _ _ _ a];exact lw.never (w s)
 bH:=λs a=>kn (m s a)
 d6:=λs a p b=>by
  have b:p<(N.af.map cC).getD s 0:=b;rw[m s a]at b;show _<(f8 N.n FS).getD s 0;rw[rep _ _ _ _ a];exact t s a _ (getD_mem b _)
 du:=λs a p b k=>by
  have b:(N.af.map cC).getD s 0<=p:=b;rw[m s a]at b;lia
 dX:=λe f=>by simp[f1]at f
 cX:=λs a e f k=>by
  have k:(f8 N.n FS).getD s 0<=e.1:=k;rw[rep _ _ _ _ a]at k;have:=t s a e f;lia},by simp[f1],λs a=>?_,by simp[f1],λr c=>?_,λr c=>?_,λ_ _ _ _ q=>q.elim⟩
·show lw _ ((f8 N.n FS).getD s 0);rw[rep _ _ _ _ a];exact lw.never (h s)
·rw[l r c];have:=ok.mS r c;lia
·rw[l r c];have:=ok.mS r c;exact .inl (by lia))
theorem e0.push(h:e0 N goes Wp S) (j:∀r i,Wp r i->a r i) (k:∀r i,a r i->Wp r i\/(r=e.2.1/\i=e.2.2)) (n:a e.2.1 e.2.2) (h1:e.2.1<N.runs.length) (h2:e.2.2+1<N.len e.2.1):e0 N goes a {S with ae:=S.ae++[e]}:=by(
have m:=h.mid;refine⟨{dn:=m.dn,dq:=m.dq,dG:=m.dG,dH:=m.dH,arr:=m.arr,sub:=m.sub,rides:=m.rides,ready:=m.ready,bH:=m.bH,d6:=m.d6,du:=m.du,dX:=λd hd=>?_,cX:=λs p d hd o=>?_},h.e8,h.ab,h.cY,h.gH,λr b=>?_,λr i b hi l=>?_⟩
·rcases cs.mp hd with hd|hd
 ·rcases m.dX d hd with⟨c,f,t⟩|q
  ·exact .inl ⟨c,f,yl j t⟩
  ·exact .inr q
 ·simp only[sc]at hd;subst hd;exact .inl ⟨h1,h2,.inl n⟩
·rcases m.cX s p d hd o with q|q
 ·exact .inl q
 ·exact .inr (gx _ q)
·rcases h.gI r b with q|⟨c,f⟩
 ·exact .inl q
 ·exact .inr ⟨c,yl j f⟩
·rcases k r i l with q|⟨rfl,rfl⟩
 ·rcases h.cover r i b hi q with q|⟨g,q⟩
  ·exact .inl q
  ·exact .inr ⟨g,gx _ q⟩
 ·exact .inr ⟨e.1,fY _ (sc.mpr rfl)⟩)
theorem e0.ride(ok:bz N goes) (h:e0 N goes Wp S):e0 N goes Wp (cA N S):=by(
have hm:=h.mid;have Q:∀ {s x},Behind N S.aa s x->BJ N goes Wp 1 s x:=λq=>yr h.gI q;have J:∀e,e∈S.ae->e.2.1<N.runs.length/\e.2.2+1<N.len e.2.1/\bB N goes Wp e.2.1 e.2.2:=by
 rintro⟨g,r,i⟩ k;rcases hm.dX _ k with q|⟨s,d,h1,h2⟩
 ·exact q
 ·have h2:S.ready.getD s 0<=g:=h2;obtain⟨a,b,f,ON⟩:=(ok.af s d g r i).mp h1;refine⟨a,b,.inr ?_⟩;have hg:=ok.k0 r i a (by lia);have f:N.stop r i=s:=f;show ∃w x,BJ N goes Wp w (N.stop r i) x/\x+(if w=1 then N.chg.getD (N.stop r i) 0 else 0)<=goes r i;rw[f];rcases(hm.ready s d).1 with(⟨y,C,p2⟩|⟨u,y,m,C,p2,E⟩)|p
  ·exact⟨1,y,Q C,by rw[No rfl];lia⟩
  ·exact⟨2,y+m,.walk (Q C) (by decide) p2,by rw[Ps (by decide)];lia⟩
  ·lia
have c:f' N S.ab S.aa ([]++S.ae) (bF N S):=by
 refine f'.fold ok h.gH S.ae [] (λe k=>(J e k).1) ?_;exact {off:= {len:=h.e8,min:=h.ab,le:=λs d=>fj _,ai:=λs=>by simp},cY:=h.cY,fE:=λr j=>tz _,leB:=λe k=>by simp at k,from_:=λr j=>.inl rfl}
rw[l_]at c;generalize OK:bF N S=o at c;have mono:∀ {s x},Behind N S.aa s x->Behind N o.aa s x:=λq=>Fj c.fE q;have OI:∀r,r<N.runs.length->o.aa.getD r 0+1=N.len r\/(o.aa.getD r 0+1<N.len r/\bB N goes Wp r (o.aa.getD r 0)):=by
 intro r j;rcases c.from_ r j with q|⟨e,a,b,f⟩
 ·rw[q];exact h.gI r j
 ·obtain⟨C,p2,E⟩:=J e a;rw[b,f]at E p2;exact .inr ⟨p2,E⟩
have OM:aL N (jm N S.aa) (λ_ _ _=>True) (tV N goes Wp) (λe=>o.aa.getD e.2.1 0<=e.2.2) (jm N S.aa) (oG N S.aa) {S with taken:=S.taken+1,aa:=o.aa,ab:=o.ab,ae:=[]}:= {
 dn:=hm.dn,dq:=hm.dq,dG:=hm.dG,dH:=hm.dH,arr:=hm.arr,sub:=λ_ _ _ q=>q
 rides:=λs d D=>by
  have D:S.arr.getD s 0<FS:=D;refine .inl ⟨?_,trivial⟩;rcases(hm.arr s d).1 with q|q
  ·exact q
  ·lia
 ready:=hm.ready,bH:=hm.bH,d6:=hm.d6,du:=hm.du
 dX:=λe k=>by simp at k
 cX:=λs d e k t=>by
  obtain⟨g,r,i⟩:=e;obtain⟨a,b,f,ON⟩:=(ok.af s d g r i).mp k;rcases hm.cX s d _ k t with q|q
  ·have q:S.aa.getD r 0<=i:=q;have:=c.fE r a;exact .inl (by simp only;lia)
  ·exact .inl (c.leB _ q)}
have ea:∀u,u∈o.ai->u<N.n/\Behind N o.aa u (o.ab.getD u 0)/\o.ab.getD u 0+240<FS:=by
 intro u hu;obtain⟨h1,h2⟩:=(c.off.ai u).mp hu;have H:Behind N o.aa u (o.ab.getD u 0):=by
  rcases(c.off.min u h1).1 with q|q
  ·exact q
  ·rcases(h.ab u h1).1 with p|p
   ·have:=(tE ok p).1;lia
   ·lia
 exact⟨h1,H,(tE ok H).1⟩
have m1:=uG ok o.ab o.ai (S:= {S with taken:=S.taken+1,aa:=o.aa,ab:=o.ab,ae:=[]}) rfl (λu hu=>⟨(ea u hu).1,(ea u hu).2.2⟩) OM;have OH:cA N S=o.ai.foldl (ba N) {S with taken:=S.taken+1,aa:=o.aa,ab:=o.ab,ae:=[]}:=by
 unfold cA;rw[OK]
have keep:∀(U:List Nat) (Z:SS),(U.foldl (ba N) Z).ab=Z.ab/\(U.foldl (ba N) Z).aa=Z.aa:=by
 intro U
 induction U with
 |nil=>intro Z;exact⟨O,O⟩
 |cons u U OL=>
  intro Z;rw[dS];obtain⟨a2,a3⟩:=OL (ba N Z u);obtain⟨OO,T,Y⟩:=uH (N:=N) Z u;exact⟨a2.trans T,a3.trans Y⟩
obtain⟨A,l⟩:=keep o.ai {S with taken:=S.taken+1,aa:=o.aa,ab:=o.ab,ae:=[]};rw[<- OH]at m1 A l;simp only at A l;have aG:∀u y,u∉o.ai->Behind N o.aa u y->∃z,Behind N S.aa u z/\z<=y:=by
 intro u y j L;obtain⟨t,hu⟩:=tE ok L;have h1:=(c.off.min u hu).2 y L;have h2:¬o.ab.getD u 0<S.ab.getD u 0:=λq=>j ((c.off.ai u).mpr ⟨hu,q⟩);rcases(h.ab u hu).1 with q|q
 ·exact⟨_,q,by lia⟩
 ·lia
have m2:aL N (jm N S.aa) (λ_ _ _=>True) (tV N goes Wp) (λe=>o.aa.getD e.2.1 0<=e.2.2) (jm N o.aa) (oG N o.aa) (cA N S):=by
 refine m1.widen (λs d x q=>?_) (λs d x q=>?_) (λs d x q=>?_) (λs d x q=>?_)
 ·rcases q with(q|⟨u,y,m,a,b,f⟩)|⟨a,b⟩|⟨u,m,a,b,f⟩
  ·exact .inl (mono q)
  ·exact .inr ⟨u,y,m,mono a,b,f⟩
  ·rw[b];exact .inl (ea s a).2.1
  ·exact .inr ⟨u,_,m,(ea u a).2.1,b,f⟩
 ·rcases q with q|⟨u,y,m,a,b,f⟩
  ·by_cases e:s∈o.ai
   ·exact⟨_,.inr (.inl ⟨e,O⟩),(c.off.min s d).2 x q⟩
   ·obtain⟨z,hz,t⟩:=aG s x e q;exact⟨z,.inl (.inl hz),t⟩
  ·by_cases e:u∈o.ai
   ·have:=(c.off.min u (ea u e).1).2 y a;exact⟨_,.inr (.inr ⟨u,m,e,b,O⟩),by lia⟩
   ·obtain⟨z,hz,t⟩:=aG u y e a;exact⟨z+m,.inl (.inr ⟨u,z,m,hz,b,O⟩),by lia⟩
 ·rcases q with(⟨y,q,e⟩|⟨u,y,m,a,b,f⟩)|⟨a,b⟩|⟨u,m,a,b,f⟩
  ·exact .inl ⟨y,mono q,e⟩
  ·exact .inr ⟨u,y,m,mono a,b,f⟩
  ·exact .inl ⟨_,(ea s a).2.1,b⟩
  ·exact .inr ⟨u,_,m,(ea u a).2.1,b,f⟩
 ·rcases q with⟨y,q,OP⟩|⟨u,y,m,a,b,f⟩
  ·by_cases e:s∈o.ai
   ·have:=(c.off.min s d).2 y q;exact⟨_,.inr (.inl ⟨e,O⟩),by lia⟩
   ·obtain⟨z,hz,t⟩:=aG s y e q;exact⟨z+N.chg.getD s 0,.inl (.inl ⟨z,hz,O⟩),by lia⟩
  ·by_cases e:u∈o.ai
   ·have:=(c.off.min u (ea u e).1).2 y a;exact⟨_,.inr (.inr ⟨u,m,e,b,O⟩),by lia⟩
   ·obtain⟨z,hz,t⟩:=aG u y e a;exact⟨z+m,.inl (.inr ⟨u,z,m,hz,b,O⟩),by lia⟩
refine⟨?_,by rw[A];exact c.off.len,λs d=>by rw[A,l];exact c.off.min s d,by rw[l];exact c.cY,λr j=>?_,λr j=>by rw[l];exact OI r j,λr i j hi OJ=>?_⟩
·rw[l];exact {dn:=m2.dn,dq:=m2.dq,dG:=m2.dG,dH:=m2.dH,arr:=m2.arr,sub:=λ_ _ _ q=>q,rides:=λs d D=>.inl ⟨(m2.arr s d).1.elim id (λq=>by lia),trivial⟩,ready:=m2.ready,bH:=m2.bH,d6:=m2.d6,du:=m2.du,dX:=m2.dX,cX:=m2.cX}
·rw[l];have:=c.fE r j;have:=h.gH r j;lia
·rw[l];refine .inl ?_;rcases h.cover r i j hi OJ with q|⟨g,q⟩
 ·have:=c.fE r j;lia
 ·exact c.leB _ q)
theorem e0.fin(ok:bz N goes) (h:e0 N goes Wp S) (Q:∀r i j,Wp r i->i<j->j<N.len r->i+1<N.len r) (z:S.ae=[]) (a:s<N.n):lw (λx=>∃w,BJ N goes Wp w s x) (S.arr.getD s 0):=by(
have hm:=h.mid;have key:∀w s x,BJ N goes Wp w s x->s<N.n/\((w=1/\S.ab.getD s 0<=x/\x+240<FS)\/(w=2/\S.ready.getD s 0<=x/\S.arr.getD s 0<=x)):=by
 intro w s x q;have D:∀r i j,r<N.runs.length->i<j->j<N.len r->S.aa.getD r 0<=i->N.stop r j<N.n/\((1=1/\S.ab.getD (N.stop r j) 0<=N.comes r j/\N.comes r j+240<FS)\/(1=2/\S.ready.getD (N.stop r j) 0<=N.comes r j/\S.arr.getD (N.stop r j) 0<=N.comes r j)):=by
  intro r i j d hi p hf;have A:=ok.eO r j d p;exact⟨A,.inl ⟨O,(h.ab _ A).2 _ ⟨r,j,d,by lia,p,O,O⟩,ok.iJ r j d p⟩⟩
 induction q with
 |@first r i j h1 h2 k l=>
  refine D r i j h2 k l ?_;rcases h.cover r i h2 (by lia) h1 with q|⟨g,q⟩
  ·exact q
  ·rw[z]at q;simp at q
 |@walk w s g x m _ hw hf b=>
  obtain⟨a,b⟩:=b;have o:=ok.foot s g m a hf;rcases b with⟨_,f,C⟩|⟨e,_⟩
  ·have c:Behind N S.aa s (S.ab.getD s 0):=by
    rcases(h.ab s a).1 with q|q
    ·exact q
    ·lia
   have a1:=(hm.ready g o.1).2 (S.ab.getD s 0+m) (.inr ⟨s,_,m,c,hf,O⟩);have a2:=(hm.arr g o.1).2 (S.ab.getD s 0+m) (.inr ⟨s,_,m,c,hf,O⟩);exact⟨o.1,.inr ⟨O,by lia,by lia⟩⟩
  ·exact absurd e hw
 |@ride w s r i j x _ h1 h2 k l t b=>
  obtain⟨a,b⟩:=b;refine D r i j h1 h2 k ?_;have d:S.ready.getD s 0<=goes r i:=by
   rcases b with⟨rfl,f,C⟩|⟨rfl,f,_⟩
   ·have c:Behind N S.aa s (S.ab.getD s 0):=by
     rcases(h.ab s a).1 with q|q
     ·exact q
     ·lia
    have a1:=(hm.ready s a).2 (S.ab.getD s 0+N.chg.getD s 0) (.inl ⟨_,c,O⟩);rw[No rfl]at t;lia
   ·rw[Ps (by decide)]at t;lia
  rcases hm.cX s a (goes r i,r,i) ((ok.af s a _ r i).mpr ⟨h1,by lia,l,O⟩) d with q|q
  ·exact q
  ·rw[z]at q;simp at q
have E:∀ {s x},Behind N S.aa s x->BJ N goes Wp 1 s x:=λq=>yr h.gI q;refine⟨?_,?_⟩
·rcases(hm.arr s a).1 with(q|⟨u,y,m,H,J,L⟩)|q
 ·exact .inl ⟨1,E q⟩
 ·exact .inl ⟨2,by rw[L];exact .walk (E H) (by decide) J⟩
 ·exact .inr q
·rintro x ⟨w,q⟩;obtain⟨_,⟨_,f,C⟩|⟨_,_,f⟩⟩:=key w s x q
 ·have c:Behind N S.aa s (S.ab.getD s 0):=by
   rcases(h.ab s a).1 with q|q
   ·exact q
   ·lia
  have:=(hm.arr s a).2 _ (.inl c);lia
 ·exact f)
end
section
variable {N:Nt}{goes:Nat->Nat->Int}{a:Nat}{t:Int}
def EB (N:Nt) (a s:Nat) (o:Option Int):Prop:=ce (λf=>(s=a/\f=0)\/(s,f)∈N.ft a) o
def ma (N:Nt) (goes:Nat->Nat->Int) (a:Nat) (t:Int) (r i:Nat):Prop:=r<N.runs.length/\i+1<N.len r/\∃f,((N.stop r i=a/\f=0)\/(N.stop r i,f)∈N.ft a)/\t+f<=goes r i
theorem tG:BJ N goes (ma N goes a t) w s x↔∃n,NJ N goes a t (n+1) w s x:=by(
constructor
·intro h
 induction h with
 |first h1 h2 b e=>
  obtain⟨_,_,f,d|d,g⟩:=h1
  ·obtain⟨l,rfl⟩:=d;exact⟨0,.ride .start h2 b e l (by simpa using g)⟩
  ·exact⟨0,.ride (.walk .start (by decide) d) h2 b e rfl (by simpa using g)⟩
 |walk _ h2 b c=>obtain⟨n,c⟩:=c;exact⟨n,.walk c h2 b⟩
 |ride _ h1 h2 b e d c=>obtain⟨n,c⟩:=c;exact⟨n+1,.ride c h1 h2 b e d⟩
·rintro⟨n,h⟩;generalize o:n+1=k at h
 induction h generalizing n with
 |start=>lia
 |walk _ h2 b c=>exact .walk (c n o) h2 b
 |@ride p w s r i j x h h1 h2 b e d c=>
  cases p with
  |succ m=>exact .ride (c m rfl) h1 h2 b e d
  |zero=>
   refine .first ⟨h1,by lia,?_⟩ h1 h2 b
   rw[e];rcases uB h with⟨_,rfl,rfl,rfl⟩|rfl|rfl
   ·exact⟨0,.inl ⟨O,O⟩,by simpa using d⟩
   ·exact absurd h mX
   ·rw[Ps (by decide)]at d;rcases tY.mp ⟨0,2,tz _,by decide,h⟩with⟨rfl,rfl⟩|⟨m,q,u⟩
    ·exact⟨0,.inl ⟨O,O⟩,by lia⟩
    ·exact⟨m,.inr q,by lia⟩)
noncomputable def arrOf (arr:Int) (t:Int) (o:Option Int):Int:=min arr (t+o.getD FS)
theorem KY(ok:bz N goes) (k:a<N.n) (h0:0<=t) (l:t+240<FS) (hf:EB N a s o) (h:lw (λx=>∃w,BJ N goes (ma N goes a t) w s x) v):lw (λx=>∃n w,NJ N goes a t n w s x) (arrOf v t o):=by(
have lt:∀n w x,NJ N goes a t n w s x->x<FS:=λn w x q=>(iR ok k l q).1;have h1:∀x,(∃n w,NJ N goes a t n w s x)↔(∃w,BJ N goes (ma N goes a t) w s x)\/∃f,((s=a/\f=0)\/(s,f)∈N.ft a)/\x=t+f:=by
 intro x;constructor
 ·rintro⟨n,w,q⟩;cases n with
  |succ n=>exact .inl ⟨w,tG.mpr ⟨n,q⟩⟩
  |zero=>
   right;by_cases e:w=1
   ·subst e;exact absurd q mX
   ·rcases tY.mp ⟨0,w,tz _,e,q⟩with⟨rfl,rfl⟩|⟨m,d,i⟩
    ·exact⟨0,.inl ⟨O,O⟩,by lia⟩
    ·exact⟨m,.inr d,i⟩
 ·rintro(⟨w,q⟩|⟨f,⟨rfl,rfl⟩|q,rfl⟩)
  ·obtain⟨n,q⟩:=tG.mp q;exact⟨_,w,q⟩
  ·exact⟨0,0,by rw[D3];exact .start⟩
  ·exact⟨0,2,.walk .start (by decide) q⟩
have hv:v<=FS:=by
 rcases h.1 with⟨w,q⟩|q
 ·obtain⟨n,q⟩:=tG.mp q;have:=lt _ _ _ q;lia
 ·lia
unfold arrOf;cases o with
|none=>
 have e:min v (t+(none:Option Int).getD FS)=v:=by show min v (t+FS)=v;lia
 rw[e];refine h.congr λx=>?_;rw[h1];exact⟨.inl,λq=>q.elim id λ⟨f,q,_⟩=>absurd q (hf f)⟩
|some b=>
 show lw _ (min v (t+b));obtain⟨g,j⟩:=hf;have:=(h.put (y:=t+b)).resolve_right λq=>q (lt _ _ _ ((h1 (t+b)).mpr (.inr ⟨b,g,O⟩)).choose_spec.choose_spec);have e:(if t+b<v then t+b else v)=min v (t+b):=by split<;>lia
 rw[e]at this;refine this.widen (λy c=>?_) λy c=>?_
 ·rw[h1];rcases c with q|rfl
  ·exact .inl q
  ·exact .inr ⟨b,g,O⟩
 ·rcases(h1 y).mp c with q|⟨f,d,i⟩
  ·exact⟨y,.inl q,fj _⟩
  ·exact⟨t+b,.inr rfl,by have:=j f d;lia⟩)
end
theorem KZ(hT:bm T) (h:ss (up T) (wT T M) (lm T M) (ol T) N) (e:a<T.stops.length) (j:b<T.stops.length) (hv:v+241<FS) {E:Int->Int}
  (d:∀m,u<=m->m<=v+1->lw (λx=>∃n w,NJ N (f0 (wT T M)) a m n w b x) (E m)):
  ((s4 (v-u+1).toNat).filterMap λ(i:Nat)=>match lY (aE T M a (u+(i:Int)) (aJ T M)) b,lY (aE T M a (u+(i:Int)+1) (aJ T M)) b with
   |some x,some y=>if x<y then some [u+(i:Int),x]else none
   |some x,none=>some [u+(i:Int),x]
   |none,_=>none)=(s4 (v-u+1).toNat).filterMap λ(i:Nat)=>if E (u+(i:Int))<E (u+(i:Int)+1)then some [u+(i:Int),E (u+(i:Int))]else none:=by
 obtain⟨ok,same,k⟩:=dF hT h;have c:∀m,u<=m->m<=v+1->lY (aE T M a m (aJ T M)) b=c7 (E m)/\E m<=FS:=by
  intro m h1 h2;have lt:∀x,(∃n w,NJ N (f0 (wT T M)) a m n w b x)->x<FS:=λx ⟨n,w,q⟩=>(iR ok (by rw[k];exact e) (by lia) q).1;have q:=(d m h1 h2).minOf lt;refine⟨(oV (M:=M) (t:=m) hT.right e j).uniq (q.congr λx=>?_),?_⟩
  ·constructor
   ·rintro⟨n,w,z⟩;exact⟨n,gY.mpr ⟨w,same.gj.mp (eo.mp z)⟩⟩
   ·rintro⟨n,z⟩;obtain⟨w,z⟩:=gY.mp z;exact⟨n,w,eo.mpr (same.gj.mpr z)⟩
  ·rcases(d m h1 h2).1 with z|z
   ·have:=lt _ z;lia
   ·lia
 refine kP λi hi=>?_;rw[bR]at hi;obtain⟨f,l⟩:=c (u+(i:Int)) (by lia) (by lia);obtain⟨g,o⟩:=c (u+(i:Int)+1) (by lia) (by lia);rw[f,g];unfold c7;by_cases c1:E (u+(i:Int))=FS
 ·have c3:¬(E (u+(i:Int))<E (u+(i:Int)+1)):=by lia
  rw[No c1,Ps c3]
 ·rw[Ps c1];by_cases c2:E (u+(i:Int)+1)=FS
  ·rw[No c2,No (by lia)]
  ·rw[Ps c2]
theorem GH {a:Type}(f:Nat->Option a) (n:Nat):((s4 n).filterMap f).reverse=(s4 n).filterMap λi=>f (n-1-i):=by(
rw[<- List.filterMap_reverse];have:(s4 n).reverse=(s4 n).map λi=>n-1-i:=by
 apply rL
 ·simp
 ·intro i h1 h2;simp
rw[this,sV];rfl)
end Tw
namespace L2
open PySem PySem.Spec PyProof.Rows
abbrev sw:=Sum Int Str
def iP:sw->Tk->Bool
 |.inl k,v=>sC k v
 |.inr x,v=>DT x v
def H0 (w:g2):sw->Int
 |.inl k=>wX k
 |.inr x=>hashStr w x
theorem gO:∀ {k:sw}{v:Tk},iP k v=true->(∃i t,k=im i/\v=ij i t)\/(∃x t,k=jc x/\v=Value.str x t)
 |.inl i,v,h=>by
  obtain⟨t,e⟩:=Value.isInt_shape (k:=i) (v:=v) h;exact .inl ⟨i,t,O,e⟩
 |.inr x,v,h=>by
  obtain⟨t,e⟩:=Value.isStrOf_shape (x:=x) (v:=v) h;exact .inr ⟨x,t,O,e⟩
theorem H3 (i:Int) (t:Tok):iP (.inl i) (.int i t)=true:=by simp[iP,sC]
theorem H4 (x:Str) (t:Tok):iP (.inr x) (.str x t)=true:=by simp[iP,DT]
theorem H5 (a b:Int):decide ((im a:sw)=im b)=(a==b):=by(
by_cases e:a=b
·subst e;simp
·have h:¬(im a:sw)=im b:=λq=>e (Sum.inl.inj q);rw[sn h];exact(lK.mpr e).symm)
theorem H8 (a b:Str):decide ((jc a:sw)=jc b)=decide (a=b):=by(
by_cases e:a=b
·subst e;simp
·have h:¬(jc a:sw)=jc b:=λq=>e (Sum.inr.inj q);rw[sn h,sn e])
theorem H6 (a:Int) (b:Str):decide ((im a:sw)=jc b)=false:=sn (λq=>nomatch q)
theorem H7 (a:Str) (b:Int):decide ((jc a:sw)=im b)=false:=sn (λq=>nomatch q)
noncomputable def cj (prog:fr) (w:g2):PySem.KeyKind prog w sw where
 is:=iP
 hash:=H0 w
 inj:=λv a b f d=>by
  rcases gO f with⟨i,t,rfl,rfl⟩|⟨x,t,rfl,rfl⟩
  ·rcases gO d with⟨j,u,rfl,e⟩|⟨y,u,rfl,e⟩
   ·injection e with c _;rw[c]
   ·exact nomatch e
  ·rcases gO d with⟨j,u,rfl,e⟩|⟨y,u,rfl,e⟩
   ·exact nomatch e
   ·injection e with c _;rw[c]
 byValue:=λk v h=>by
  rcases gO h with⟨i,t,rfl,rfl⟩|⟨x,t,rfl,rfl⟩<;>rfl
 pyHash:=λhv h=>by
  rcases gO hv with⟨i,t,rfl,rfl⟩|⟨x,t,rfl,rfl⟩
  ·exact wpAny_pyHash_int h
  ·exact wpAny_pyHash_str h
 eqBool:=λhu hv h=>by
  rcases gO hu with⟨i,t,rfl,rfl⟩|⟨x,t,rfl,rfl⟩
  ·rcases gO hv with⟨j,u,rfl,rfl⟩|⟨y,u,rfl,rfl⟩
   ·rw[H5]at h;exact CZ h
   ·rw[H6]at h;exact SeqAt.EqAt.int_str i t y u _ _ _ _ h
  ·rcases gO hv with⟨j,u,rfl,rfl⟩|⟨y,u,rfl,rfl⟩
   ·rw[H7]at h;exact SeqAt.EqAt.str_int x t j u _ _ _ _ h
   ·rw[H8]at h;exact wpAny_eqBool_str h
 «strs» :=λk x t v h=>by
  rcases gO h with⟨i,u,rfl,e⟩|⟨y,u,rfl,e⟩
  ·exact nomatch e
  ·injection e with c _;subst c;cases v<;>rfl
theorem IE (prog:fr) (w:g2) (i:Int) (t:Tok):(cj prog w).is (.inl i) (.int i t)=true:=H3 i t
theorem IF (prog:fr) (w:g2) (x:Str) (t:Tok):(cj prog w).is (.inr x) (.str x t)=true:=H4 x t
inductive W1 where
 |ak|bl (b:Bool)|int (i:Int)|str (x:Str)|fy (b:Array UInt8)|o9 (b:UInt64)|ref (a:WF)|ty (n:String)
 deriving DecidableEq
def RelV:W1->Tk->Prop
 |.ak,u=>u=Value.none
 |.bl b,u=>u=sD b
 |.int i,u=>∃t,u=ij i t
 |.str x,u=>∃t,u=Value.str x t
 |.fy b,u=>∃t,u=DU b t
 |.o9 b,u=>∃t,u=DV b t
 |.ref a,u=>u=em a
 |.ty n,u=>u=DW n
abbrev ww:List W1->List Tk->Prop:=Paired RelV
theorem ww.length(r:ww xs us):xs.length=us.length:=Paired.length r
theorem ww.get:∀ {xs:List W1}{us:List Tk}{i:Nat}{x:W1},ww xs us->xs[i]?=some x->∃u,us[i]?=some u/\RelV x u
 |_,_,_,_,.nil,e=>by simp at e
 |_,_,0,_,.cons r _,e=>by simp at e;subst e;exact⟨_,O,r⟩
 |_,_,i+1,x,.cons _ t,e=>by
  obtain⟨u,h1,h2⟩:=ww.get (i:=i) (x:=x) t (by simpa using e);exact⟨u,by simpa using h1,h2⟩
theorem ww.set(r:RelV x u):∀ {xs:List W1}{us:List Tk}(i:Nat),ww xs us->ww (xs.set i x) (us.set i u)
 |_,_,_,.nil=>.nil
 |_,_,0,.cons _ t=>.cons r t
 |_,_,i+1,.cons q t=>.cons q (ww.set r i t)
theorem ww.append(h:ww xs us) (s:ww ys b):ww (xs++ys) (us++b):=by(
induction h with
|nil=>exact s
|cons r t a=>exact .cons r a)
theorem ww.take:∀ {xs:List W1}{us:List Tk}(n:Nat),ww xs us->ww (xs.take n) (us.take n)
 |_,_,0,_=>.nil
 |_,_,_+1,.nil=>.nil
 |_,_,n+1,.cons r t=>.cons r (ww.take n t)
theorem ww.drop:∀ {xs:List W1}{us:List Tk}(n:Nat),ww xs us->ww (xs.drop n) (us.drop n)
 |_,_,0,r=>r
 |_,_,_+1,.nil=>.nil
 |_,_,n+1,.cons _ t=>ww.drop n t
theorem ww.none_of:∀ {xs:List W1}{us:List Tk}{i:Nat},ww xs us->xs[i]?=none->us[i]?=none:=λ{xs us i} r e=>by
 have h1:=r.length;have h2:xs.length<=i:=sS.mp e;exact sS.mpr (by lia)
def dg:Option W1->Option Tk->Prop
 |some v,some u=>RelV v u
 |none,none=>True
 |_,_=>False
def KV {κ:Type}:List (κ×W1)->List (κ×Tk)->Prop:=Paired λ(p:κ×W1) (q:κ×Tk)=>p.1=q.1/\RelV p.2 q.2
noncomputable def kV:sw->W1
 |.inl i=>.int i
 |.inr x=>.str x
inductive HO where
 |lst (xs:List W1)
 |tup (xs:List W1)
 |dK (T0:List (sw×W1))|dT (T0:List (List sw×W1))
 |set (S:Int->Bool) (n:Nat)
 |ins (C dx:WF) (fs:List (Str×W1))
 |own (x:WF)
 |xd (fs:List (Str×W1))
 |met (f x:WF)
 |u7 (lo hi:Int)
 |aw (o:Obj) (u:HO)
 |j8 (ps:Array Tk)
 |ext (a:s2->Prop)
abbrev Hp:=WF->Option HO
def Uf (H:Hp) (a:WF) (o:HO):Hp:=λb=>if b=a then some o else H b
theorem KE:Uf H a o a=some o:=by unfold Uf;rw[No rfl]
theorem UF(h:b≠a):Uf H a o b=H b:=by unfold Uf;rw[Ps h]
theorem gZ:Uf (Uf H a o) a u=Uf H a u:=by
 funext b;unfold Uf;split<;>rfl
theorem Aa{H:Hp}(h:H a=some o) (h':H b=some u) (d:o≠u):a≠b:=by
 intro e;subst e;rw[h]at h';exact d (b2 h')
theorem v0{H:Hp}(h:H a=some o) (h':H b=none):a≠b:=by
 intro e;subst e;rw[h]at h';cases h'
section
variable (P:fr) (w:g2)
def bA (H:Hp) (h:s2) (a:WF):HO->Prop
 |.lst xs=>xs.length<=Gc/\∃(Op:List Tk) (n:Nat),ww xs Op/\h.get? a=some {cls:=.type "list",data:=.seq Op.toArray n}
 |.tup xs=>xs.length<=Gc/\∃Op:List Tk,ww xs Op/\jf h a Op.toArray
 |.dK T0=>T0.length<=Gc/\(a==eS)=false/\∃vs,KV T0 vs/\h.DictOf (cj P w) a vs
 |.dT T0=>T0.length<=Gc/\(a==eS)=false/\∃xs:List (List sw×WF×Tk),
   Paired (λ(p:List sw×W1) (q:List sw×WF×Tk)=>p.1=q.1/\H q.2.1=some (.tup (p.1.map kV))/\RelV p.2 q.2.2) T0 xs/\
   ∃o es ep,h.get? a=some o/\o.ExactDict/\o.data=.dict es ep/\es.toList=xs.map (entryOfKey (lN (cj P w)))/\(xs.map (·.1)).Nodup
 |.set S n=>h.SetOf (intKind P w) a S n
 |.ins C dx fs=>H dx=some (.own a)/\fs.length<=1000/\dx≠a/\h.get? a=some (i_ C dx)/\
   ∃mA,h.Ns1 dx mA/\(∀f,dg (fs.lookup f) (mA f))/\wG mA (fs.map (·.1))
 |.own _=>∃o,h.get? a=some o
 |.xd fs=>∃mA,h.Ns1 a mA/\∀f,dg (fs.lookup f) (mA f)
 |.u7 lo hi=>∃t u v,h.get? a=some {cls:=.type "range",data:=.fields #[.int lo t,.int hi u,.int 1 v]}
 |.aw o u=>h.get? a=some o/\bA H h a u
 |.j8 ps=>h.get? a=some {cls:=.none,data:=.fields ps}
 |.met f x=>h.get? a=some (w8 (.ref f) (.ref x))
 |.ext b=>b h/\(∃o,h.get? a=some o)/\∀h1 h2:s2,b h1->(∀o,h1.get? a=some o->h2.get? a=some o)->b h2
def aV (H:Hp) (h:s2):Prop:=∀a o,H a=some o->bA P w H h a o
end
section
variable {P:fr}{w:g2}{H I:Hp}{h h':s2}{a:WF}{o:HO}
theorem bA.lt (x:bA P w H h a o):a<h.objs.size:=by(
cases o with
|lst xs=>obtain⟨_,_,_,_,e⟩:=x;exact cr e
|tup xs=>obtain⟨_,_,_,p⟩:=x;exact p.lt
|dK T0=>obtain⟨_,_,_,_,o,_,_,e,_⟩:=x;exact cr e
|dT T0=>obtain⟨_,_,_,_,o,_,_,e,_⟩:=x;exact cr e
|set S n=>obtain⟨o,_,_,_,e,_⟩:=x;exact cr e
|ins C dx fs=>obtain⟨_,_,_,e,_⟩:=x;exact cr e
|own y=>obtain⟨_,e⟩:=x;exact cr e
|xd fs=>obtain⟨_,⟨_,_,_,e,_⟩,_⟩:=x;exact cr e
|u7 lo hi=>obtain⟨_,_,_,e⟩:=x;exact cr e
|aw ob u=>obtain⟨e,_⟩:=x;exact cr e
|j8 ps=>exact cr (show h.get? a=some _ from x)
|met f y=>exact cr (show h.get? a=some _ from x)
|ext b=>obtain⟨_,⟨_,e⟩,_⟩:=x;exact cr e)
theorem Paired.z9{l₂:List e}(p:Paired F d l₂) (f:∀a b,F a b->G a b):Paired G d l₂:=by(
induction p with
|nil=>exact .nil
|cons r t c=>exact .cons (f _ _ r) c)
theorem bA.gX (x:bA P w H h a o) (k:∀b u,(b=a\/H b=some (.own a))->h.get? b=some u->h'.get? b=some u)
  (j:∀b,H b=some (.own a)->I b=some (.own a)) (l:∀b xs,H b=some (.tup xs)->I b=some (.tup xs)):bA P w I h' a o:=by(
induction o with
|lst xs=>obtain⟨z,Op,n,r,e⟩:=x;exact⟨z,Op,n,r,k _ _ (.inl rfl) e⟩
|tup xs=>obtain⟨z,Op,r,ob,e,c⟩:=x;exact⟨z,Op,r,ob,k _ _ (.inl rfl) e,c⟩
|dK T0=>obtain⟨z,y,vs,r,ob,es,ep,e,c⟩:=x;exact⟨z,y,vs,r,ob,es,ep,k _ _ (.inl rfl) e,c⟩
|dT T0=>
 obtain⟨z,y,xs,r,ob,es,ep,e,c⟩:=x;exact⟨z,y,xs,Paired.z9 r λp q z=>⟨z.1,l _ _ z.2.1,z.2.2⟩,ob,es,ep,k _ _ (.inl rfl) e,c⟩
|set S n=>obtain⟨ob,es,ep,t,e,c⟩:=x;exact⟨ob,es,ep,t,k _ _ (.inl rfl) e,c⟩
|ins C dx fs=>
 obtain⟨d,z,ne,e,mA,⟨g,es,ep,i,c⟩,r⟩:=x;exact⟨j _ d,z,ne,k _ _ (.inl rfl) e,mA,⟨g,es,ep,k _ _ (.inr d) i,c⟩,r⟩
|own y=>obtain⟨ob,e⟩:=x;exact⟨ob,k _ _ (.inl rfl) e⟩
|xd fs=>obtain⟨mA,⟨g,es,ep,e,c⟩,r⟩:=x;exact⟨mA,⟨g,es,ep,k _ _ (.inl rfl) e,c⟩,r⟩
|u7 lo hi=>obtain⟨t,u,v,e⟩:=x;exact⟨t,u,v,k _ _ (.inl rfl) e⟩
|aw ob u m=>obtain⟨e,q⟩:=x;exact⟨k _ _ (.inl rfl) e,m q⟩
|j8 ps=>
 have e:h.get? a=some {cls:=.none,data:=.fields ps}:=x;show h'.get? a=some {cls:=.none,data:=.fields ps};exact k a _ (.inl rfl) e
|met f y=>
 have e:h.get? a=some (w8 (.ref f) (.ref y)):=x;show h'.get? a=some (w8 (.ref f) (.ref y));exact k a _ (.inl rfl) e
|ext s=>obtain⟨p,⟨o,e⟩,st⟩:=x;exact⟨st _ _ p λo q=>k _ _ (.inl rfl) q,⟨o,k _ _ (.inl rfl) e⟩,st⟩)
theorem aV.lt (x:aV P w H h) (e:H a=some o):a<h.objs.size:=(x a o e).lt
theorem aV.fresh (x:aV P w H h) (e:h.objs.size<=a):H a=none:=by(
cases q:H a with
|none=>rfl
|some u=>exact absurd (c_ (x.lt q) e) (hh _))
theorem aV.kept (x:aV P w H h) (k:∀b u,h.get? b=some u->h'.get? b=some u):aV P w H h':=λa o e=>
 (x a o e).gX (λb u _ q=>k b u q) (λ_ q=>q) λ_ _ q=>q
theorem aV.laid (x:aV P w H h) (k:∀b u,h.get? b=some u->h'.get? b=some u) (g:h.objs.size<=a) (new:bA P w (Uf H a o) h' a o):aV P w (Uf H a o) h':=λb u e=>by
 have f:=x.fresh g;by_cases d:b=a
 ·subst d;rw[KE]at e;cases e;exact new
 ·rw[UF d]at e;exact(x b u e).gX (λc v _ q=>k c v q) (λc q=>by rw[UF (v0 q f)];exact q) λc xs q=>by rw[UF (v0 q f)];exact q
end
def Rd (H:Hp) (a:WF) (u:HO):Prop:=H a=some u\/∃o,H a=some (.aw o u)
theorem Rd.ok(r:Rd H a u) (x:aV P w H h):bA P w H h a u:=by(
rcases r with r|⟨o,r⟩
·exact x a u r
·obtain⟨_,q⟩:=x a _ r;exact q)
def iw:Option HO->Prop
 |some (.lst _)=>True
 |some (.dK _)=>True
 |some (.dT _)=>True
 |some (.set _ _)=>True
 |some (.ins _ _ _)=>True
 |some (.ext _)=>True
 |_=>False
section
variable {P:fr}{w:g2}{H:Hp}{h h':s2}{x e:WF}{o':HO}
theorem aV.write (ok:aV P w H h) (g:iw (H x)) (i:e=x\/H e=some (.own x)) (k:∀b u,b≠e->h.get? b=some u->h'.get? b=some u) (m:∃u,h'.get? e=some u)
  (new:bA P w (Uf H x o') h' x o'):aV P w (Uf H x o') h':=λb u q=>by
 have j:∀c y,H c=some (.own y)->c≠x:=λc y r z=>by subst z;rw[r]at g;exact g
 have n:∀c xs,H c=some (.tup xs)->c≠x:=λc xs r z=>by subst z;rw[r]at g;exact g
 by_cases a:b=x
 ·subst a;rw[KE]at q;cases q;exact new
 ·rw[UF a]at q;by_cases d:b=e
  ·have l:H b=some (.own x):=by
    rcases i with z|z
    ·exact absurd (d.trans z) a
    ·rw[d];exact z
   rw[q]at l;cases l;obtain⟨v,hv⟩:=m;exact⟨v,by rw[d];exact hv⟩
  ·refine(ok b u q).gX (λc v f r=>k c v ?_ r) (λc r=>by rw[UF (j c b r)];exact r) λc xs r=>by rw[UF (n c xs r)];exact r
   rcases f with rfl|f
   ·exact d
   ·rintro rfl;rcases i with z|z
    ·exact j c b f z
    ·rw[f]at z;cases z;exact a rfl
end
structure Un (fs ex:List WF) (H I:Hp) (h h':s2):Prop where
 keep:∀b o,h.get? b=some o->H b=none->b∉fs->b∉ex->h'.get? b=some o
 slot:∀b o,h.get? b=some o->H b=none->b∈fs->b∉ex->∃a,h'.get? b=some {o with slots:=a}
 free:∀b o,h.get? b=some o->H b=none->b∉ex->I b=none
 there:∀b o,h.get? b=some o->b∉ex->∃o',h'.get? b=some o'
 fb:∀b xs,H b=some (.tup xs)->I b=some (.tup xs)
 gh:∀b o u,H b=some (.aw o u)->I b=some (.aw o u)
 h3:∀b ps,H b=some (.j8 ps)->∃more,I b=some (.j8 (ps++more))
section
variable {fs kW ex OG:List WF}{H H1 H2:Hp}{h h1 h2 h':s2}{a x e:WF}{o:HO}
theorem Un.any(u:Un fs ex H H1 h h1) (q:h.get? b=some ob) (n:H b=none) (d:b∉ex):∃f,h1.get? b=some {ob with slots:=f}:=by(
by_cases c:b∈fs
·exact u.slot b ob q n c d
·exact⟨ob.slots,u.keep b ob q n c d⟩)
theorem Un.kept (k:∀b u,h.get? b=some u->h'.get? b=some u):Un fs ex H H h h':=
 ⟨λb ob q _ _ _=>k b ob q,λb ob q _ _ _=>⟨ob.slots,k b ob q⟩,λ_ _ _ n _=>n,λb ob q _=>⟨ob,k b ob q⟩,λ_ _ q=>q,λ_ _ _ q=>q,λ_ ps q=>⟨#[],by rw[q];simp⟩⟩
theorem Un.refl:Un fs ex H H h h:=Un.kept λ_ _ q=>q
theorem Un.laid (k:∀b u,h.get? b=some u->h'.get? b=some u) (d:h.objs.size<=a) (c:H a=none):Un fs ex H (Uf H a o) h h' where
 keep:=λb u q _ _ _=>k b u q
 slot:=λb u q _ _ _=>⟨u.slots,k b u q⟩
 free:=λb u q n _=>by rw[UF (cb (c_ (cr q) d))];exact n
 there:=λb u q _=>⟨u,k b u q⟩
 fb:=λb xs q=>by rw[UF (v0 q c)];exact q
 gh:=λb u xs q=>by rw[UF (v0 q c)];exact q
 h3:=λb ps q=>⟨#[],by rw[UF (v0 q c),q];simp⟩
theorem Un.write (c:iw (H x)) (i:e=x\/H e=some (.own x)) (k:∀b u,b≠e->h.get? b=some u->h'.get? b=some u) (j:∃u,h'.get? e=some u):Un fs ex H (Uf H x o) h h':=by(
have g:∀b,H b=none->b≠x:=λb n z=>by subst z;rw[n]at c;exact c
have d:∀b,H b=none->b≠e:=λb n z=>by
 subst z;rcases i with r|r
 ·exact g b n r
 ·rw[n]at r;cases r
have hm:∀b u,H b=some u->¬iw (some u)->b≠x:=λb u q l z=>by subst z;rw[q]at c;exact l c
refine⟨λb u q n _ _=>k b u (d b n) q,λb u q n _ _=>⟨u.slots,k b u (d b n) q⟩,λb u q n _=>by rw[UF (g b n)];exact n,λb u q _=>?_,
 λb xs q=>by rw[UF (hm b _ q λz=>z)];exact q,λb u xs q=>by rw[UF (hm b _ q λz=>z)];exact q,λb ps q=>⟨#[],by rw[UF (hm b _ q λz=>z),q];simp⟩⟩
by_cases f:b=e
·subst f;exact j
·exact⟨u,k b u f q⟩)
end
noncomputable def rz (h:s2) (H:Hp):List WF:=(s4 h.objs.size).filter λa=>(H a).isSome
def gi (h:s2) (H:Hp):s2:=NU h (rz h H)
theorem Ha (h:s2) (H:Hp):(gi h H).objs.size=h.objs.size:=Nr _ _
theorem G_(e:h.get? b=some o) (n:H b=none):(gi h H).get? b=some o:=
 Nw _ e λhm=>by
  have q:(H b).isSome=true:=(f5.mp hm).2;rw[n]at q;simp at q
theorem Jb(e:(gi h H).get? b=some o):h.get? b=some o/\H b=none:=by(
have a:h.get? b=some o:=Nz (rz h H) e;refine⟨a,?_⟩;cases q:H b with
|none=>rfl
|some x=>
 have hm:b∈rz h H:=f5.mpr ⟨bR.mpr (cr a),by simp[q]⟩;have z:(gi h H).get? b=none:=Nu (rz h H) hm;rw[z]at e;cases e)
def E8 (g h:s2) (L:WF):List (WF×Obj):=(s4 h.objs.size).filterMap λa=>if a=L\/(g.get? a).isSome=true then none else(h.get? a).map λo=>(a,o)
def d4 (g h:s2) (L d:WF):List (WF×Obj):=(E8 g h L).filter λp=>decide (p.1≠d)
structure Mod (K:wf) (mg:Str->Option Tk) (base:s2):Prop where
 mO:K.In base
 glob:base.Ns cS mg
 blt:∃a,base.Ns wJ a/\∀x:Str,x≠ "__name__"->a x=lL x
 nolimit:base.NoLimit
structure Cx where
 prog:fr
 w:g2
 K:wf
 mg:Str->Option Tk
 base:s2
 A:bJ
 N:List Str
 dt:Go
 jo:Hp
 env:Env
 outer:List Env
 stack:List Env
 ex:List WF
 fn:Str->Bool
 calm:Bool
 pn:List (WF×Obj)
 xe:Tk->Go->Prop
noncomputable def gg (l:List Env):List WF:=l.filterMap (·.frame)
abbrev Cx.fs (X:Cx):List WF:=gg X.outer
def kH (a:d_) (x:Str):Prop:=a.names.lookup x=some .local\/a.names.lookup x=some .cell\/a.names.lookup x=some .free
def Loc (a:d_) (x:Str):Prop:=a.names.lookup x=some .local\/a.names.lookup x=some .cell
def Look (env:Env) (h:s2) (m:Str->Option Tk) (x:Str) (u:Tk):Prop:=
 (env.kindOf x=some .local/\m x=some u)\/((env.kindOf x=some .cell\/env.kindOf x=some .free)/\∃c,env.cells.lookup x=some c/\h.IsCell c (some u))
structure Cx.Ok (X:Cx):Prop where
 mod:Mod X.K X.mg X.base
 kind:X.env.scope.kind=.function
 glob:X.env.globals=cS
 blt:X.env.builtins=wJ
 above:X.dt.heap.objs.size<=X.env.locals
 inj:∀x y c,X.env.cells.lookup x=some c->X.env.cells.lookup y=some c->x=y
 has:∀x,(X.env.kindOf x=some .cell\/X.env.kindOf x=some .free)->∃c,X.env.cells.lookup x=some c
 mx:∀x c,X.fn x=true->X.env.cells.lookup x=some c->X.dt.heap.objs.size<=c
 hd:X.calm=true->X.A.handled=none
 frames:X.A.frames=some X.stack
 rj:X.stack=X.outer\/(X.stack=X.env::X.outer/\X.env.frame=some X.env.locals)
 o3:∀b∈X.ex,b≠X.env.locals/\∀x c,X.env.cells.lookup x=some c->c≠b
 bs:∀b o,X.base.get? b=some o->X.dt.heap.get? b=some o/\X.jo b=none
 hE:X.base.objs.size<=X.dt.heap.objs.size
 mZ:∀b o,X.base.get? b=some o->b∉X.ex
 mF:∀b∈X.ex,b∉X.fs
 fC:X.dt.heap.FunFrames X.base X.outer
 jI:∀b∈X.fs,X.jo b=none
structure Inv (X:Cx) (WP:List (WF×Obj)) (ZB:List (Option W1)) (H:Hp) (s:Go):Prop where
 ok:X.Ok
 os:s.os=X.dt.os
 bare:jd s.gens
 base:Un X.fs X.ex X.jo H X.dt.heap s.heap
 loc:∃m,s.heap.Ns X.env.locals m/\∀(i:Nat) (x:Str) (v:W1),X.N[i]?=some x->ZB[i]?=some (some v)->kH X.env.scope x->∃u,RelV v u/\Look X.env s.heap m x u
 cell:∀x c,X.env.cells.lookup x=some c->∃v,s.heap.IsCell c v
 free:H X.env.locals=none
 e4:∀x c,X.env.cells.lookup x=some c->H c=none
 pin:∀p∈X.pn++WP,s.heap.get? p.1=some p.2/\H p.1=none/\p.1≠X.env.locals/\p.1∉X.fs/\∀v,p.2.data≠.cell v
 ag:aV X.prog X.w H s.heap
 len:ZB.length=X.N.length
section
variable {X:Cx}{WP:List (WF×Obj)}{ZB:List (Option W1)}{H I:Hp}{s:Go}{h':s2}
theorem Cx.Ok.I9(ok:X.Ok) (e:X.base.get? b=some o):b∉X.fs:=λa=>by
 have:=(ok.fC.mem a).1;rw[e]at this;cases this
theorem Inv.bs (XV:Inv X WP ZB H s):∀b o,X.base.get? b=some o->s.heap.get? b=some o/\H b=none:=λb o e=>
 ⟨XV.base.keep b o (XV.ok.bs b o e).1 (XV.ok.bs b o e).2 (XV.ok.I9 e) (XV.ok.mZ b o e),XV.base.free b o (XV.ok.bs b o e).1 (XV.ok.bs b o e).2 (XV.ok.mZ b o e)⟩
theorem Inv.bk (XV:Inv X WP ZB H s):∀b o,X.base.get? b=some o->s.heap.get? b=some o:=λb o e=>(XV.bs b o e).1
theorem Inv.mod (XV:Inv X WP ZB H s):Mod X.K X.mg X.base:=XV.ok.mod
theorem Inv.dY (XV:Inv X WP ZB H s):X.K.In s.heap:=XV.ok.mod.mO.keeps XV.bk
theorem Inv.lt (XV:Inv X WP ZB H s):X.env.locals<s.heap.objs.size:=let ⟨_,a,_⟩:=XV.loc;a.lt
theorem Inv.sz (XV:Inv X WP ZB H s):X.dt.heap.objs.size<=s.heap.objs.size:=dz XV.ok.above (ed XV.lt)
theorem Inv.I' (XV:Inv X WP ZB H s) {a:WF}(h:s.heap.objs.size<=a):a∉X.fs:=λb=>by
 obtain⟨_,o,c,_⟩:=XV.ok.fC.mem b;exact absurd (c_ (cr c) (dz XV.sz h)) (hh _)
theorem Inv.jD (XV:Inv X WP ZB H s):∀x c,X.env.cells.lookup x=some c->c≠X.env.locals:=λx c e z=>by
 obtain⟨v,o,a,hd⟩:=XV.cell x c e;obtain⟨m,⟨o',es,ep,d,b,_⟩,_⟩:=XV.loc;rw[z,d]at a;cases a;rw[b]at hd;cases hd
theorem Inv.fC (XV:Inv X WP ZB H s):s.heap.FunFrames X.base X.outer:=by(
have all:∀(l:List Env),(∀b∈gg l,b∈X.fs)->X.dt.heap.FunFrames X.base l->s.heap.FunFrames X.base l:=by
 intro l
 induction l with
 |nil=>intro _ _;trivial
 |cons env r k=>
  intro d g;obtain⟨f,⟨L,o,hf,h,i,hd⟩,j⟩:=g;have a:L∈X.fs:=d L (by unfold gg;rw[hn,hf];exact kw);obtain⟨m,e⟩:=XV.base.slot L o i (XV.ok.jI L a) a λz=>XV.ok.mF L z a;exact⟨f,⟨L,_,hf,h,e,hd⟩,k (λb c=>d b (by unfold gg;rw[hn,hf];exact o0 _ c)) j⟩
exact all X.outer (λ_ c=>c) XV.ok.fC)
theorem Inv.stack (XV:Inv X WP ZB H s):s.heap.FunFrames X.base X.stack:=by(
rcases XV.ok.rj with e|⟨e,hf⟩
·rw[e];exact XV.fC
·rw[e];obtain⟨m,a,_⟩:=XV.loc;refine .cons (by rw[XV.ok.kind];decide) hf a ?_ XV.fC;exact Heap.get?_none_of_le (dz XV.ok.hE XV.ok.above))
theorem Inv.vI (XV:Inv X WP ZB H s):∀b∈gg X.stack,b∈X.env.locals::X.fs:=λb a=>by
 rcases XV.ok.rj with e|⟨e,hf⟩
 ·rw[e]at a;exact o0 _ a
 ·rw[e]at a;unfold gg at a;rw[hn,hf]at a;exact a
theorem Inv.Bt (XV:Inv X WP ZB H s):∀b∈gg X.stack,H b=none:=λb a=>by
 rcases rs.mp (XV.vI b a)with e|a
 ·rw[e];exact XV.free
 ·obtain⟨_,o,c,_⟩:=XV.ok.fC.mem a;exact XV.base.free b o c (XV.ok.jI b a) λz=>XV.ok.mF b z a
theorem Inv.step{ch:List WF}(XV:Inv X WP ZB H s)
  (t:∀b∈ch,(b∈X.ex\/X.dt.heap.objs.size<=b)/\b≠X.env.locals/\(∀x c,X.env.cells.lookup x=some c->c≠b)/\∀p∈X.pn++WP,p.1≠b)
  (keep:∀b o,b≠X.env.locals->b∉X.fs->b∉ch->s.heap.get? b=some o->H b=none->h'.get? b=some o)
  (slot:∀b o,b≠X.env.locals->b∈X.fs->b∉ch->s.heap.get? b=some o->H b=none->∃C,h'.get? b=some {o with slots:=C}) (free:∀b o,b∉ch->s.heap.get? b=some o->H b=none->I b=none)
  (there:∀b o,b∉ch->s.heap.get? b=some o->∃o',h'.get? b=some o')
  (fb:∀b xs,H b=some (.tup xs)->I b=some (.tup xs)) (gh:∀b o u,H b=some (.aw o u)->I b=some (.aw o u)) (h3:∀b ps,H b=some (.j8 ps)->∃more,I b=some (.j8 (ps++more)))
  (ns:∀m,s.heap.Ns X.env.locals m->h'.Ns X.env.locals m) (ag:aV X.prog X.w I h') (hg:jd g'):
  Inv X WP ZB I {s with heap:=h',gens:=g',drawn:=d',toks:=t'}:=by(
have L:∀b o,X.dt.heap.get? b=some o->b≠X.env.locals:=λb o e=>cb (c_ (cr e) XV.ok.above);have A:∀b o,X.dt.heap.get? b=some o->b∉X.ex->b∉ch:=λb o e a g=>by
 rcases(t b g).1 with z|z
 ·exact a z
 ·exact absurd (c_ (cr e) z) (hh _)
have D:∀x c,X.env.cells.lookup x=some c->∀v,s.heap.IsCell c v->h'.IsCell c v:=λx c e v Y=>by
 obtain⟨o,h,hd⟩:=Y;have y:c∉ch:=λz=>(t c z).2.2.1 x c e rfl;by_cases E:c∈X.fs
 ·obtain⟨C,q⟩:=slot c o (XV.jD x c e) E y h (XV.e4 x c e);exact⟨_,q,hd⟩
 ·exact⟨o,keep c o (XV.jD x c e) E y h (XV.e4 x c e),hd⟩
refine⟨XV.ok,XV.os,hg,⟨λb o e n g a=>?_,λb o e n g a=>?_,λb o e n a=>?_,λb o e a=>?_,λb xs e=>fb b xs (XV.base.fb b xs e),λb o xs e=>gh b o xs (XV.base.gh b o xs e),λb ps e=>?_⟩,?_,λx c e=>?_,?_,λx c e=>?_,λp J=>?_,ag,XV.len⟩
·exact keep b o (L b o e) g (A b o e a) (XV.base.keep b o e n g a) (XV.base.free b o e n a)
·obtain⟨C,f⟩:=XV.base.slot b o e n g a;obtain⟨U,j⟩:=slot b _ (L b o e) g (A b o e a) f (XV.base.free b o e n a);exact⟨U,j⟩
·obtain⟨o',f⟩:=XV.base.there b o e a;exact free b o' (A b o e a) f (XV.base.free b o e n a)
·obtain⟨o',f⟩:=XV.base.there b o e a;exact there b o' (A b o e a) f
·obtain⟨m1,f⟩:=XV.base.h3 b ps e;obtain⟨m2,j⟩:=h3 b _ f;exact⟨m1++m2,by rw[j,Array.append_assoc]⟩
·obtain⟨m,T,Q⟩:=XV.loc;refine⟨m,ns m T,λi x v f j N=>?_⟩;obtain⟨u,r,l⟩:=Q i x v f j N;refine⟨u,r,?_⟩;rcases l with l|⟨k,c,e,z⟩
 ·exact .inl l
 ·exact .inr ⟨k,c,e,D x c e _ z⟩
·obtain⟨v,z⟩:=XV.cell x c e;exact⟨v,D x c e v z⟩
·obtain⟨m,⟨o,_,_,h,_⟩,_⟩:=XV.loc;exact free _ o (λz=>(t _ z).2.1 rfl) h XV.free
·obtain⟨v,o,h,hd⟩:=XV.cell x c e;exact free c o (λz=>(t c z).2.2.1 x c e rfl) h (XV.e4 x c e)
·obtain⟨e,n,ne,nf,d⟩:=XV.pin p J;have y:p.1∉ch:=λz=>(t p.1 z).2.2.2 p J rfl;exact⟨keep p.1 p.2 ne nf y e n,free p.1 p.2 y e n,ne,nf,d⟩)
theorem Inv.un(XV:Inv X WP ZB H s) (u:Un X.fs [] H I s.heap h') (ag:aV X.prog X.w I h'):Inv X WP ZB I {s with heap:=h',toks:=t'}:=by(
obtain⟨m,⟨o,es,ep,c,r⟩,_⟩:=id XV.loc;obtain⟨k,h⟩:=u.any c XV.free (by simp);exact XV.step (g':=s.gens) (d':=s.drawn) (ch:=[]) (λ_ z=>nomatch z) (λb o _ a _ e n=>u.keep b o e n a (by simp)) (λb o _ a _ e n=>u.slot b o e n a (by simp)) (λb o _ e n=>u.free b o e n (by simp)) (λb o _ e=>u.there b o e (by simp)) u.fb u.gh u.h3 (λj hm=>by
 obtain⟨o',g,f,d,i⟩:=hm;rw[c]at d;cases d;exact⟨_,g,f,h,i⟩) ag XV.bare)
theorem Inv.call(XV:Inv X WP ZB H s) (u:Un (gg X.stack) ch H I s.heap h') (ag:aV X.prog X.w I h') (hg:jd g')
  (f:∀b∈ch,(b∈X.ex\/X.dt.heap.objs.size<=b)/\b≠X.env.locals/\(∀x c,X.env.cells.lookup x=some c->c≠b)/\∀p∈X.pn++WP,p.1≠b):
  Inv X WP ZB I {s with heap:=h',gens:=g',drawn:=d',toks:=t'}:=by(
obtain⟨m,⟨o,es,ep,g,r⟩,_⟩:=id XV.loc;obtain⟨t,d⟩:=u.any g XV.free λz=>(f _ z).2.1 rfl;exact XV.step (ch:=ch) f (λb o d k a e n=>u.keep b o e n (λz=>(rs.mp (XV.vI b z)).elim d k) a) (λb o _ _ a e n=>u.any e n a) (λb o a e n=>u.free b o e n a) (λb o a e=>u.there b o e a) u.fb u.gh u.h3 (λq hm=>by
 obtain⟨o',j,i,h,l⟩:=hm;rw[g]at h;cases h;exact⟨_,j,i,d,l⟩) ag hg)
theorem Inv.turned(XV:Inv X WP ZB H s) (k:∀b o,b≠a->s.heap.get? b=some o->h'.get? b=some o) (j:H a=none) (f:a≠X.env.locals)
  (h1:a∈X.ex\/X.dt.heap.objs.size<=a) (h2:∀x c,X.env.cells.lookup x=some c->c≠a) (h:∀p∈X.pn++WP,p.1≠a):Inv X WP ZB H {s with heap:=h',toks:=t'}:=by(
have g:∀b u,H b=some u->b≠a:=λb u e z=>by rw[z,j]at e;cases e
refine XV.step (g':=s.gens) (d':=s.drawn) (ch:=[a]) (λb i=>?_) (λb o _ _ d e _=>k b o (λz=>d (by simp[z])) e) (λb o _ _ d e _=>⟨o.slots,k b o (λz=>d (by simp[z])) e⟩) (λ_ _ _ _ n=>n)
 (λb o d e=>⟨o,k b o (λz=>d (by simp[z])) e⟩) (λ_ _ e=>e) (λ_ _ _ e=>e) (λb ps e=>⟨#[],by rw[e];simp⟩) (λm hm=>?_) (λb u e=>?_) XV.bare
·have e:b=a:=by simpa using i
 subst e;exact⟨h1,f,h2,h⟩
·obtain⟨o,es,ep,l,r⟩:=hm;exact⟨o,es,ep,k _ o (Ne.symm f) l,r⟩
·refine(XV.ag b u e).gX (λc v d q=>k c v ?_ q) (λ_ q=>q) λ_ _ q=>q;rcases d with z|z
 ·rw[z];exact g b u e
 ·exact g c _ z)
theorem Inv.tok (XV:Inv X WP ZB H s) (t:Nat):Inv X WP ZB H {s with toks:=t}:=XV.un (h':=s.heap) (t':=t) Un.refl XV.ag
theorem Inv.kept(XV:Inv X WP ZB H s) (k:∀b u,s.heap.get? b=some u->h'.get? b=some u):Inv X WP ZB H {s with heap:=h',toks:=t'}:=XV.un (Un.kept k) (XV.ag.kept k)
theorem Inv.laid{a:WF}(XV:Inv X WP ZB H s) (k:∀b u,s.heap.get? b=some u->h'.get? b=some u) (c:s.heap.objs.size<=a) (new:bA X.prog X.w (Uf H a o) h' a o):
  Inv X WP ZB (Uf H a o) {s with heap:=h',toks:=t'}:=XV.un (Un.laid k c (XV.ag.fresh c)) (XV.ag.laid k c new)
theorem Inv.write(XV:Inv X WP ZB H s) (d:iw (H x)) (a:e=x\/H e=some (.own x)) (k:∀b u,b≠e->s.heap.get? b=some u->h'.get? b=some u) (c:∃u,h'.get? e=some u)
  (new:bA X.prog X.w (Uf H x o) h' x o):Inv X WP ZB (Uf H x o) {s with heap:=h',toks:=t'}:=XV.un (Un.write d a k c) (XV.ag.write d a k c new)
theorem Inv.weak(XV:Inv X WP ZB H s) (e:a.length=ZB.length) (w:∀(i:Nat) v,a[i]?=some (some v)->ZB[i]?=some (some v)):Inv X WP a H s:=
 ⟨XV.ok,XV.os,XV.bare,XV.base,let ⟨m,g,f⟩:=XV.loc;⟨m,g,λi x v b c d=>f i x v b (w i v c) d⟩,XV.cell,XV.free,XV.e4,XV.pin,XV.ag,e.trans XV.len⟩
theorem Inv.AE(XV:Inv X WP ZB H s) (h:∀p∈b,s.heap.get? p.1=some p.2/\H p.1=none/\p.1≠X.env.locals/\p.1∉X.fs/\∀v,p.2.data≠.cell v):Inv X b ZB H s:=
 ⟨XV.ok,XV.os,XV.bare,XV.base,XV.loc,XV.cell,XV.free,XV.e4,λp a=>(cs.mp a).elim (λz=>XV.pin p (gx _ z)) (h p),XV.ag,XV.len⟩
theorem uC{N:List Str}(e:N.Nodup) {j:Nat}(a:N[i]?=some x) (b:N[j]?=some x):i=j:=by
 obtain⟨h1,c⟩:=aD.mp a;obtain⟨h2,d⟩:=aD.mp b;exact(rM e).mp (c.trans d.symm)
theorem Bv {TW:nS}{A:bJ}{E:Tk->Go->Prop}{i:Nat}{x:Str}{v:W1}{u:Tk}{Q:Unit->Go->Prop}(XV:Inv X WP ZB H s) (OO:X.N.Nodup) (hi:X.N[i]?=some x) (t:Loc X.env.scope x) (r:RelV v u)
  (h:∀s',Inv X WP (ZB.set i (some v)) H s'->(∃a,lT a s.heap s'.heap/\(a=X.env.locals\/X.env.cells.lookup x=some a))->Q () s') (hf:X.fn x=true\/X.env.scope.names.lookup x=some .local:=by first|exact .inl rfl|exact .inr rfl|assumption):wpAny TW A (wN X.env x u) Q E s:=by(
obtain⟨m,OI,OT⟩:=id XV.loc;have OY:(X.env.scope.kind== .class||(X.env.scope.kind== .module&&X.env.locals != X.env.globals))=false:=by rw[XV.ok.kind];rfl
have OS:i<ZB.length:=by rw[XV.len];exact(aD.mp hi).1
have jD:=XV.jD;have OW:∀ {a:WF}{h':s2},(∃o,s.heap.get? a=some o/\H a=none)->lT a s.heap h'->aV X.prog X.w H h':=λ{a h'} OX f b ob e=>by
 obtain⟨_,_,OR⟩:=OX;refine(XV.ag b ob e).gX (λc U l q=>(f.2 c ?_).trans q) (λ_ q=>q) λ_ _ q=>q;rintro rfl;rcases l with rfl|l
 ·rw[OR]at e;cases e
 ·rw[OR]at l;cases l
rcases t with D|D
·refine wpAny_storeName_local D OI (λh' OZ f=>?_) OY;obtain⟨O2,_,_,O0,_⟩:=id OI;refine h _ ⟨XV.ok,XV.os,XV.bare,⟨λb o e n J t=>?_,λb o e n J t=>?_,XV.base.free,λb o e t=>?_,XV.base.fb,XV.base.gh,XV.base.h3⟩,⟨_,OZ,λj y ON g C Y=>?_⟩,λy c e=>?_,XV.free,XV.e4,λp OJ=>?_,OW ⟨O2,O0,XV.free⟩ f,by simpa using XV.len⟩ ⟨_,f,.inl rfl⟩
 ·exact(f.2 b (cb (c_ (cr e) XV.ok.above))).trans (XV.base.keep b o e n J t)
 ·obtain⟨OL,g⟩:=XV.base.slot b o e n J t;exact⟨OL,(f.2 b (cb (c_ (cr e) XV.ok.above))).trans g⟩
 ·obtain⟨o',g⟩:=XV.base.there b o e t;exact⟨o',(f.2 b (cb (c_ (cr e) XV.ok.above))).trans g⟩
 ·by_cases L:j=i
  ·subst L;rw[hi]at g;cases g;rw[v_ OS]at C;cases C;exact⟨u,r,.inl ⟨D,by simp⟩⟩
  ·rw[sU (Ne.symm L)]at C;obtain⟨OM,OK,q⟩:=OT j y ON g C Y;refine⟨OM,OK,?_⟩;rcases q with⟨k,e⟩|⟨k,c,e,z⟩
   ·refine .inl ⟨k,?_⟩;have:y≠x:=λe=>L (uC OO g (e▸hi));simp[this,e]
   ·exact .inr ⟨k,c,e,z.sameBut f (jD y c e)⟩
 ·obtain⟨U,z⟩:=XV.cell y c e;exact⟨U,z.sameBut f (jD y c e)⟩
 ·obtain⟨e,n,ne,nf,d⟩:=XV.pin p OJ;exact⟨(f.2 p.1 ne).trans e,n,ne,nf,d⟩
·have OH:X.fn x=true:=by
  rcases hf with z|z
  ·exact z
  ·rw[z]at D;cases D
 obtain⟨c,l⟩:=XV.ok.has x (.inl D);obtain⟨U,z⟩:=XV.cell x c l;refine wpAny_storeName_cell XV.ok.kind D l z (λh' OP f=>?_);obtain⟨OV,OU,O1⟩:=id z;refine h {s with heap:=h'} ⟨XV.ok,XV.os,XV.bare,⟨λb o e n J t=>?_,λb o e n J t=>?_,XV.base.free,λb o e t=>?_,XV.base.fb,XV.base.gh,XV.base.h3⟩,⟨m,OI.sameBut f (Ne.symm (jD x c l)),λj y ON g C Y=>?_⟩,λy T e=>?_,XV.free,XV.e4,λp OJ=>?_,OW ⟨OV,OU,XV.e4 x c l⟩ f,by simpa using XV.len⟩ ⟨c,f,.inr l⟩
 ·exact(f.2 b (cb (c_ (cr e) (XV.ok.mx x c OH l)))).trans (XV.base.keep b o e n J t)
 ·obtain⟨OL,g⟩:=XV.base.slot b o e n J t;exact⟨OL,(f.2 b (cb (c_ (cr e) (XV.ok.mx x c OH l)))).trans g⟩
 ·obtain⟨o',g⟩:=XV.base.there b o e t;exact⟨o',(f.2 b (cb (c_ (cr e) (XV.ok.mx x c OH l)))).trans g⟩
 ·by_cases L:j=i
  ·subst L;rw[hi]at g;cases g;rw[v_ OS]at C;cases C;exact⟨u,r,.inr ⟨.inl D,c,l,OP⟩⟩
  ·rw[sU (Ne.symm L)]at C;obtain⟨OM,OK,q⟩:=OT j y ON g C Y;refine⟨OM,OK,?_⟩;rcases q with q|⟨k,T,e,O5⟩
   ·exact .inl q
   ·refine .inr ⟨k,T,e,O5.sameBut f ?_⟩;rintro rfl;exact L (uC OO g (XV.ok.inj _ _ _ e l▸hi))
 ·by_cases OQ:T=c
  ·subst OQ;exact⟨_,OP⟩
  ·obtain⟨O4,O6⟩:=XV.cell y T e;exact⟨O4,O6.sameBut f OQ⟩
 ·obtain⟨e,n,ne,nf,d⟩:=XV.pin p OJ;refine⟨(f.2 p.1 ?_).trans e,n,ne,nf,d⟩;intro q;rw[q,OU]at e;have O3:OV=p.2:=b2 e;exact d U (by rw[<- O3];exact O1))
theorem vJ {TW:nS}{A:bJ}{E:Tk->Go->Prop}{i:Nat}{x:Str}{v:W1}{u:Tk}{Q:Unit->Go->Prop}(XV:Inv X WP ZB H s) (b:X.N.Nodup) (hi:X.N[i]?=some x) (c:Loc X.env.scope x) (r:RelV v u)
  (h:∀s',Inv X WP (ZB.set i (some v)) H s'->Q () s') (hf:X.fn x=true\/X.env.scope.names.lookup x=some .local:=by first|exact .inl rfl|exact .inr rfl|assumption):wpAny TW A (wN X.env x u) Q E s:=
 Bv XV b hi c r (λs' a _=>h s' a) hf
theorem Inv.Fx(XV:Inv X WP ZB H s) (d:s'.os=s.os) (u:Un (gg X.stack) ch H I s.heap s'.heap) (ag:aV X.prog X.w I s'.heap) (hg:jd s'.gens)
  (a:∀b∈ch,(b∈X.ex\/X.dt.heap.objs.size<=b)/\b≠X.env.locals/\(∀x c,X.env.cells.lookup x=some c->c≠b)/\∀p∈X.pn++WP,p.1≠b):Inv X WP ZB I s':=by
 obtain⟨h',g',d',t',o'⟩:=s';have e:o'=s.os:=d;subst e;exact XV.call (g':=g') (t':=t') (d':=d') u ag hg a
end
abbrev XK:=Tk->Option WF->Hp->Prop
abbrev St:=List (Option W1)
abbrev VK:=W1->Hp->Prop
abbrev TE:=St->Hp->VK->Prop
abbrev TT:=St->Hp->(Bool->Hp->Prop)->Prop
abbrev TA:=St->Hp->(List W1->Hp->Prop)->Prop
structure Ends where
 nx:St->Hp->Prop
 rt:VK
 bk:St->Hp->Prop:=λ_ _=>False
 ct:St->Hp->Prop:=λ_ _=>False
abbrev TS:=Ends->St->Hp->Prop
def EP (X:Cx) (WP:List (WF×Obj)) (ZB:St) (Q:VK) (u:Tk) (s':Go):Prop:=∃v I,Inv X WP ZB I s'/\RelV v u/\Q v I
def TP (X:Cx) (WP:List (WF×Obj)) (ZB:St) (Q:Bool->Hp->Prop) (b:Bool) (s':Go):Prop:=∃I,Inv X WP ZB I s'/\Q b I
def AP (X:Cx) (WP:List (WF×Obj)) (ZB:St) (Q:List W1->Hp->Prop) (us:List Tk) (s':Go):Prop:=∃vs I,Inv X WP ZB I s'/\ww vs us/\Q vs I
def SP (X:Cx) (WP:List (WF×Obj)) (D:Ends) (f:Flow) (s':Go):Prop:=
 match f with
 |.next=>∃a I,Inv X WP a I s'/\D.nx a I
 |.brk=>∃a I,Inv X WP a I s'/\D.bk a I
 |.cont=>∃a I,Inv X WP a I s'/\D.ct a I
 |.ret u=>∃v a I,Inv X WP a I s'/\RelV v u/\D.rt v I
def PE (X:Cx) (e:s5) (t:TE):Prop:=
 ∀(WP:List (WF×Obj)) (s:Go) (ZB:St) (H:Hp) (Q:VK),Inv X WP ZB H s->t ZB H Q->wpAny (AT X.prog X.w) X.A (eval e X.env) (EP X WP ZB Q) X.xe s
def PT (X:Cx) (e:s5) (t:TT):Prop:=
 ∀(WP:List (WF×Obj)) (s:Go) (ZB:St) (H:Hp) (Q:Bool->Hp->Prop),Inv X WP ZB H s->t ZB H Q->wpAny (AT X.prog X.w) X.A (isTrue e X.env (eval e X.env)) (TP X WP ZB Q) X.xe s
def PW (X:Cx) (e:s5) (t:TT):Prop:=
 ∀(whole:Sem Tk) (WP:List (WF×Obj)) (s:Go) (ZB:St) (H:Hp) (Q:Bool->Hp->Prop),Inv X WP ZB H s->t ZB H Q->wpAny (AT X.prog X.w) X.A (isTrue e X.env whole) (TP X WP ZB Q) X.xe s
theorem PW.pt(h:PW X e t):PT X e t:=h _
def PA (X:Cx) (es:List s5) (t:TA):Prop:=
 ∀(pos:Pos) (WP:List (WF×Obj)) (s:Go) (ZB:St) (H:Hp) (Q:List W1->Hp->Prop),Inv X WP ZB H s->t ZB H Q->wpAny (AT X.prog X.w) X.A (spliced (d9 pos (al es X.env))) (AP X WP ZB Q) X.xe s
def PS (X:Cx) (st:v2) (t:TS):Prop:=
 ∀(WP:List (WF×Obj)) (s:Go) (ZB:St) (H:Hp) (D:Ends),Inv X WP ZB H s->t D ZB H->wpAny (AT X.prog X.w) X.A (exec st X.env) (SP X WP D) X.xe s
def eF (X:Cx) (st:List v2) (t:TS):Prop:=
 ∀(WP:List (WF×Obj)) (s:Go) (ZB:St) (H:Hp) (D:Ends),Inv X WP ZB H s->t D ZB H->wpAny (AT X.prog X.w) X.A (execs st X.env) (SP X WP D) X.xe s
theorem wP(h:wpAny TW A t Q E s) (c:∀a s,Q a s->b a s):wpAny TW A t b E s:=eT h c λ_ _ x=>x
section
variable {X:Cx}
def bY (i:Nat):TE:=λZB H Q=>∃v,ZB[i]?=some (some v)/\Q v H
def tC (v:W1):TE:=λ_ H Q=>Q v H
theorem KL {i:Nat}{x:Str}{pos:Pos}(f:X.N[i]?=some x) (hv:kH X.env.scope x) (hd:(x==("__debug__":Str))=false:=by decide) (g:(x==("__classdict__":Str))=false:=by decide):PE X (.Name x pos) (bY i):=by(
intro WP s ZB H Q XV h;obtain⟨v,e,h⟩:=h;obtain⟨m,k,j⟩:=XV.loc;obtain⟨u,r,l⟩:=j i x v f e hv;have fin:EP X WP ZB Q u s:=⟨v,H,XV,r,h⟩;rcases l with⟨a,hm⟩|⟨a,c,b,d⟩
·exact wK (CT XV.ok.kind a k hm fin) hd
·rcases a with a|a
 ·exact wK (CU XV.ok.kind a b d fin) hd
 ·exact wK (wpAny_loadName_free XV.ok.kind a b d fin g) hd)
theorem EQ {i j pos}:PE X (.Constant (.int i) j pos) (tC (.int i)):=λ_ _ _ H _ XV h=>wpAny_Constant_int ⟨.int i,H,XV.tok _,⟨_,O⟩,h⟩
theorem m' {b j pos}:PE X (.Constant (.bool b) j pos) (tC (.bl b)):=λ_ _ _ H _ XV h=>Constant_bool ⟨.bl b,H,XV,O,h⟩
theorem uS {j pos}:PE X (.Constant .none j pos) (tC .ak):=λ_ _ _ H _ XV h=>Constant_none ⟨.ak,H,XV,O,h⟩
theorem Az {x j pos}:PE X (.Constant (.str x) j pos) (tC (.str x)):=λ_ _ _ H _ XV h=>Calls.Constant_str ⟨.str x,H,XV.tok _,⟨_,O⟩,h⟩
def Gl (X:Cx) (x:Str):Prop:=X.env.kindOf x=some .globalImplicit
theorem mQ {E:Tk->Go->Prop}{WP:List (WF×Obj)}{s:Go}{ZB:St}{H:Hp}{x:Str}{u:Tk}{pos:Pos}{Q:Tk->Go->Prop}(XV:Inv X WP ZB H s) (hg:Gl X x) (hm:X.mg x=some u) (h:Q u s)
  (hd:(x==("__debug__":Str))=false:=by decide):wpAny (AT X.prog X.w) X.A (eval (.Name x pos) X.env) Q E s:=
 El XV.ok.kind hg (Calls.loadGlobal_global (by rw[XV.ok.glob];exact XV.mod.glob.keeps XV.bk) hm h) hd
theorem k1 {E:Tk->Go->Prop}{WP:List (WF×Obj)}{s:Go}{ZB:St}{H:Hp}{x:Str}{u:Tk}{pos:Pos}{Q:Tk->Go->Prop}(XV:Inv X WP ZB H s) (hg:Gl X x) (hm:X.mg x=none) (hv:lL x=some u) (h:Q u s)
  (a:x≠ "__name__":=by decide) (hd:(x==("__debug__":Str))=false:=by decide):wpAny (AT X.prog X.w) X.A (eval (.Name x pos) X.env) Q E s:=by
 obtain⟨b,h1,h2⟩:=XV.mod.blt;exact El XV.ok.kind hg (Calls.loadGlobal_builtin (by rw[XV.ok.glob];exact XV.mod.glob.keeps XV.bk) hm (by rw[XV.ok.blt];exact h1.keeps XV.bk) ((h2 x a).trans hv) h) hd
theorem KG {x:Str}{v:W1}{u:Tk}{pos:Pos}(hg:Gl X x) (hm:X.mg x=some u) (r:RelV v u) (hd:(x==("__debug__":Str))=false:=by decide):PE X (.Name x pos) (tC v):=
 λ_ _ _ H _ XV h=>mQ XV hg hm ⟨v,H,XV,r,h⟩ hd
variable {a b:s5}{ta tb:TE}{pos:Pos}
def PC (X:Cx) (op:nT) (a b:s5) (t:TE):Prop:=
 ∀(WP:List (WF×Obj)) (s:Go) (ZB:St) (H:Hp) (Q:VK),Inv X WP ZB H s->t ZB H Q->
  wpAny (AT X.prog X.w) X.A (eval a X.env) (λv c=>wpAny (AT X.prog X.w) X.A (eval b X.env) (λu d=>wpAny (AT X.prog X.w) X.A (dR op v u) (EP X WP ZB Q) X.xe d) X.xe c) X.xe s
theorem I6(b:s5) (h:op≠.In) (h2:op≠.NotIn):kg op b=false:=by(
have c:(op==CmpOp.In)=false:=by cases op<;>first|rfl|exact absurd rfl h
have d:(op==CmpOp.NotIn)=false:=by cases op<;>first|rfl|exact absurd rfl h2
cases b<;>simp[kg,c,d])
def tB (t:TE):TT:=λZB H Q=>t ZB H λx H1=>∃c,x=.bl c/\Q c H1
theorem AG {op:nT}{t:TE}(h:PC X op a b t) (h1:kg op b=false:=by first|exact I6 _ (by decide) (by decide)|rfl):PT X (.Compare a [op] [b] pos) (tB t):=by
 intro WP s ZB H Q XV hw;refine CM (wP (h WP s ZB H _ XV hw) λv j h1=>wP h1 λu k h2=>wP h2 λc l i=>Do i λx H1 e g f=>?_) h1;obtain⟨d,rfl,q⟩:=f;cases g;exact i2 ⟨H1,e,q⟩
theorem cz {e:s5}{t:TE}(h:PE X e t) (f:∀whole,isTrue e X.env whole=(do let v <-whole;se e.pos;ki [v] (truthy v)):=by intro _;rfl):PT X e (tB t):=by
 intro WP s ZB H Q XV hw;refine isTrue_plain (wP (h WP s ZB H _ XV hw) λv k j=>Do j λx H1 c i g=>?_) (f _);obtain⟨d,rfl,q⟩:=g;cases i;exact i2 ⟨H1,c,q⟩
variable {tA rm:TT}{d4:List s5}
def Mw (t u:TT):TT:=λZB H Q=>t ZB H λc H1=>if c=true then u ZB H1 Q else Q false H1
def BE (t u:TT):TT:=λZB H Q=>t ZB H λc H1=>if c=true then Q true H1 else u ZB H1 Q
def BD (t:TT):TT:=λZB H Q=>t ZB H λc H1=>Q (!c) H1
theorem nk (d:PT X a tA):PW X (.BoolOp .And [a] pos) tA:=by(
intro g WP s ZB H Q XV h;refine D' (wP (d WP s ZB H Q XV h) λc f e=>?_);cases c with
|true=>exact isTrue_and_nil e
|false=>exact e)
theorem gU (d:PT X a tA):PW X (.BoolOp .Or [a] pos) tA:=by(
intro g WP s ZB H Q XV h;refine isTrue_or (wP (d WP s ZB H Q XV h) λc f e=>?_);cases c with
|false=>exact isTrue_or_nil e
|true=>exact e)
theorem nj (f:PT X a tA) (g:PW X (.BoolOp .And (b::d4) pos) rm):PW X (.BoolOp .And (a::b::d4) pos) (Mw tA rm):=by(
intro j WP s ZB H Q XV h;refine D' (wP (f WP s ZB H _ XV h) λc i k=>jV k λH1 d e=>?_);cases c with
|true=>exact g j WP i ZB H1 Q d e
|false=>exact⟨H1,d,e⟩)
theorem ew (f:PT X a tA) (g:PW X (.BoolOp .Or (b::d4) pos) rm):PW X (.BoolOp .Or (a::b::d4) pos) (BE tA rm):=by(
intro j WP s ZB H Q XV h;refine isTrue_or (wP (f WP s ZB H _ XV h) λc i k=>jV k λH1 d e=>?_);cases c with
|true=>exact⟨H1,d,e⟩
|false=>exact g j WP i ZB H1 Q d e)
theorem bQ (d:PT X a tA):PT X (.UnaryOp .Not a pos) (BD tA):=by
 intro WP s ZB H Q XV h;exact isTrue_not (d WP s ZB H (λc H1=>Q (!c) H1) XV h)
def Mx (ta tb:TE):TE:=λZB H Q=>ta ZB H λx H1=>∃c,x=.bl c/\if c=true then tb ZB H1 Q else Q (.bl false) H1
theorem KJ{op} (h:PE X a t):PE X (.BoolOp op [a] pos) t:=λWP s ZB H Q XV hw=>BoolOp_one (h WP s ZB H Q XV hw)
theorem uP (f:PE X a ta) (g:PE X (.BoolOp .And (b::d4) pos) tb):PE X (.BoolOp .And (a::b::d4) pos) (Mx ta tb):=by(
intro WP s ZB H Q XV h;refine BoolOp_and (wP (f WP s ZB H _ XV h) λv j k=>Do k λx H1 e i d=>?_);obtain⟨c,rfl,d⟩:=d;cases i;refine i2 ?_;cases c with
|true=>exact g WP j ZB H1 Q e d
|false=>exact⟨.bl false,H1,e,O,d⟩)
def MJ (t:TT) (ta tb:TE):TE:=λZB H Q=>t ZB H λc H1=>if c=true then ta ZB H1 Q else tb ZB H1 Q
theorem KH(k:PT X c tA) (i:PE X a ta) (j:PE X b tb):PE X (.IfExp c a b pos) (MJ tA ta tb):=by(
intro WP s ZB H Q XV h;refine wpAny_IfExp (wP (k WP s ZB H _ XV h) λd g l=>jV l λH1 e f=>?_);cases d with
|true=>exact i WP g ZB H1 Q e f
|false=>exact j WP g ZB H1 Q e f)
end
def TD (K:wf) (H:Hp) (a:WF) (xs:List W1):Prop:=
 Rd H a (.lst xs)\/
  ∃(o:Obj) (Op:Array Tk) (n:Nat),K.lookup a=some o/\o.cls=.type "list" /\o.dict=none/\o.data=.seq Op n/\Op.size<=Gc/\ww xs Op.toList
def pm (K:wf) (H:Hp) (a:WF) (xs:List W1):Prop:=
 Rd H a (.tup xs)\/
  ∃(o:Obj) (Op:Array Tk) (n:Nat),K.lookup a=some o/\o.cls=.type "tuple" /\o.data=.seq Op n/\Op.size<=Gc/\ww xs Op.toList
noncomputable def E6:Tk->Option W1
 |.none=>some .ak
 |.bool b=>some (.bl b)
 |.int i _=>some (.int i)
 |.str x _=>some (.str x)
 |.bytes b _=>some (.fy b)
 |.float b _=>some (.o9 b)
 |.ref a=>some (.ref a)
 |.type n=>some (.ty n)
 |_=>none
theorem RelV.abs(r:RelV x u):E6 u=some x:=by(
cases x with
|ak=>cases r;rfl
|bl _=>cases r;rfl
|int _=>obtain⟨t,rfl⟩:=r;rfl
|str _=>obtain⟨t,rfl⟩:=r;rfl
|fy _=>obtain⟨t,rfl⟩:=r;rfl
|o9 _=>obtain⟨t,rfl⟩:=r;rfl
|ref _=>cases r;rfl
|ty _=>cases r;rfl)
theorem RelV.inj(r:RelV x u) (q:RelV y u):x=y:=b2 (r.abs.symm.trans q.abs)
theorem ww.inj(h:ww xs us) (k:ww ys us):xs=ys:=by(
induction h generalizing ys with
|nil=>cases k;rfl
|cons r t a=>cases k with|cons b t'=>rw[r.inj b,a t'])
section
variable {X:Cx}{WP:List (WF×Obj)}{ZB:St}{H:Hp}{s:Go}{a:WF}{xs ys:List W1}
theorem TD.of {K:wf}(h:H a=some (.lst xs)):TD K H a xs:=.inl (.inl h)
theorem pm.of {K:wf}(h:H a=some (.tup xs)):pm K H a xs:=.inl (.inl h)
theorem Inv.list (XV:Inv X WP ZB H s) (h:TD X.K H a xs):∃Op:List Tk,ww xs Op/\PlainL s.heap a Op.toArray/\xs.length<=Gc:=by(
rcases h with h|⟨o,Op,n,c,b,hd,d,hz,r⟩
·obtain⟨z,Op,n,r,e⟩:=h.ok XV.ag;exact⟨Op,r,⟨_,n,e,O,O,O⟩,z⟩
·refine⟨Op.toList,r,⟨o,n,XV.dY a o c,b,hd,by simpa using d⟩,?_⟩;have e:=r.length;simp only[sP]at e;lia)
theorem Inv.tuple (XV:Inv X WP ZB H s) (h:pm X.K H a xs):∃Op:List Tk,ww xs Op/\jf s.heap a Op.toArray/\xs.length<=Gc:=by(
rcases h with h|⟨o,Op,n,c,b,d,hz,r⟩
·obtain⟨z,Op,r,p⟩:=h.ok XV.ag;exact⟨Op,r,p,z⟩
·refine⟨Op.toList,r,⟨o,XV.dY a o c,b,n,by simpa using d⟩,?_⟩;have e:=r.length;simp only[sP]at e;lia)
theorem Inv.px (XV:Inv X WP ZB H s) (h:TD X.K H a xs) (h':TD X.K H a ys):xs=ys:=by(
obtain⟨Op,r,⟨o,n,e,_,_,d⟩,_⟩:=XV.list h;obtain⟨its',f,⟨o',g,b,_,_,d'⟩,_⟩:=XV.list h';rw[e]at b;cases b;rw[d]at d';injection d' with c _;have:Op=its':=by simpa using cM Ec c
subst this;exact r.inj f)
theorem Inv.vU (XV:Inv X WP ZB H s) (h:pm X.K H a xs) (h':pm X.K H a ys):xs=ys:=by(
obtain⟨Op,r,⟨o,e,_,n,d⟩,_⟩:=XV.tuple h;obtain⟨its',f,⟨o',b,_,g,d'⟩,_⟩:=XV.tuple h';rw[e]at b;cases b;rw[d]at d';injection d' with c _;have:Op=its':=by simpa using cM Ec c
subst this;exact r.inj f)
end
noncomputable abbrev Cx.g7 (X:Cx) (E:Tk->Go->Prop):Cx:= {X with xe:=E}
noncomputable abbrev Cx.m4 (X:Cx):Cx:=X.g7 λ_ _=>False
theorem Cx.Ok.g7 {X:Cx}(ok:X.Ok) (E:Tk->Go->Prop):(X.g7 E).Ok:=
 ⟨ok.mod,ok.kind,ok.glob,ok.blt,ok.above,ok.inj,ok.has,ok.mx,ok.hd,ok.frames,ok.rj,ok.o3,ok.bs,ok.hE,ok.mZ,ok.mF,ok.fC,ok.jI⟩
theorem Cx.Ok.i0{X:Cx}(ok:(X.g7 E).Ok):X.Ok:=
 ⟨ok.mod,ok.kind,ok.glob,ok.blt,ok.above,ok.inj,ok.has,ok.mx,ok.hd,ok.frames,ok.rj,ok.o3,ok.bs,ok.hE,ok.mZ,ok.mF,ok.fC,ok.jI⟩
section
variable {X:Cx}{WP:List (WF×Obj)}{ZB:St}{H:Hp}{s:Go}{E:Tk->Go->Prop}
theorem Inv.g7 (XV:Inv X WP ZB H s) (E:Tk->Go->Prop):Inv (X.g7 E) WP ZB H s:=⟨XV.ok.g7 E,XV.os,XV.bare,XV.base,XV.loc,XV.cell,XV.free,XV.e4,XV.pin,XV.ag,XV.len⟩
theorem Inv.i0 (XV:Inv (X.g7 E) WP ZB H s):Inv X WP ZB H s:=⟨XV.ok.i0,XV.os,XV.bare,XV.base,XV.loc,XV.cell,XV.free,XV.e4,XV.pin,XV.ag,XV.len⟩
theorem SP.i0(h:SP (X.g7 E) WP D f s'):SP X WP D f s':=by(
cases f with
|next=>obtain⟨a,I,XV,q⟩:=h;exact⟨a,I,XV.i0,q⟩
|brk=>obtain⟨a,I,XV,q⟩:=h;exact⟨a,I,XV.i0,q⟩
|cont=>obtain⟨a,I,XV,q⟩:=h;exact⟨a,I,XV.i0,q⟩
|ret u=>obtain⟨v,a,I,XV,r,q⟩:=h;exact⟨v,a,I,XV.i0,r,q⟩)
theorem eF.m4{st:List v2}(h:eF X.m4 st t):eF X st t:=λWP s ZB H D XV hw=>
 eT (h WP s ZB H D (XV.g7 _) hw) (λ_ _ q=>q.i0) λ_ _ z=>ef z
end
section
variable {X:Cx}{st:v2}{d4:List v2}{t u:TS}{e:s5}{te:TE}{pos:Pos}
def rr:TS:=λD ZB H=>D.nx ZB H
def lE (t u:TS):TS:=λD ZB H=>t {D with nx:=u D} ZB H
theorem ii:eF X [] rr:=λ_ _ ZB H _ XV h=>rZ ⟨ZB,H,XV,h⟩
theorem On (h1:PS X st t) (h2:eF X d4 u):eF X (st::d4) (lE t u):=by(
intro WP s ZB H D XV h;refine C0 (wP (h1 WP s ZB H {D with nx:=u D} XV h) λf b q=>?_);cases f with
|next=>
 obtain⟨c,I,a,q⟩:=q;exact h2 WP b c I D a q
|ret v=>exact q
|brk=>exact q
|cont=>exact q)
theorem Fa (h1:PS X st t):eF X [st] t:=by(
intro WP s ZB H D XV h;refine C0 (wP (h1 WP s ZB H D XV h) λf a q=>?_);cases f with
|next=>exact rZ q
|ret v=>exact q
|brk=>exact q
|cont=>exact q)
theorem Inv.quiet{ZB:St}(XV:Inv X WP ZB H s):Dj X.env=false:=by simp[Dj,XV.ok.kind]
def BB (te:TE):TS:=λD ZB H=>te ZB H λ_ H1=>D.nx ZB H1
theorem ca (b:PE X e te) (c:lO e none pos.line X.env=pure false:=by rfl):PS X (.Expr e pos) (BB te):=by
 intro WP s ZB H D XV h;exact wpAny_Expr_any (wP (b WP s ZB H _ XV h) λv i f=>Do f λx H1 a g d=>⟨ZB,H1,a,d⟩) XV.quiet c
def BF (te:TE):TS:=λD ZB H=>te ZB H D.rt
theorem tt (b:PE X e te):PS X (.Return (some e) pos) (BF te):=by
 intro WP s ZB H D XV h;exact wpAny_Return_some (wP (b WP s ZB H _ XV h) λv g f=>Do f λx H1 a d c=>⟨x,ZB,H1,a,d,c⟩)
def vK (c:TT) (t u:TS):TS:=λD ZB H=>c ZB H λb H1=>if b=true then t D ZB H1 else u D ZB H1
theorem jp(l:PT X c tc) (j:eF X a t) (k:eF X b u):PS X (.If c a b pos) (vK tc t u):=by(
intro WP s ZB H D XV h;refine wpAny_If (wP (l WP s ZB H _ XV h) λd i m=>jV m λH1 f g=>?_);cases d with
|true=>exact j WP i ZB H1 D f g
|false=>exact k WP i ZB H1 D f g)
end
abbrev TG:=W1->St->Hp->(St->Hp->Prop)->Prop
abbrev jv:=List W1->St->Hp->(St->Hp->Prop)->Prop
def PG (X:Cx) (b:s5) (t:TG):Prop:=
 ∀(WP:List (WF×Obj)) (s:Go) (ZB:St) (H:Hp) (v:W1) (u:Tk) (Q:St->Hp->Prop),Inv X WP ZB H s->RelV v u->t v ZB H Q->
  wpAny (AT X.prog X.w) X.A (kj b X.env u) (λ_ s'=>∃a I,Inv X WP a I s'/\Q a I) X.xe s
def oJ (X:Cx) (ts:List s5) (t:jv):Prop:=
 ∀(WP:List (WF×Obj)) (s:Go) (ZB:St) (H:Hp) (vs:List W1) (us:List Tk) (Q:St->Hp->Prop),Inv X WP ZB H s->ww vs us->t vs ZB H Q->
  wpAny (AT X.prog X.w) X.A (assignInOrder ((lM ts X.env).map (·.2)) us) (λ_ s'=>∃a I,Inv X WP a I s'/\Q a I) X.xe s
abbrev ti:=W1->W1->W1->Hp->(Hp->Prop)->Prop
def x_ (X:Cx) (t:ti):Prop:=
 ∀(WP:List (WF×Obj)) (s:Go) (ZB:St) (H:Hp) (o i v:W1) (ov a u:Tk) (Q:Hp->Prop),Inv X WP ZB H s->RelV o ov->RelV i a->RelV v u->t o i v H Q->
  wpAny (AT X.prog X.w) X.A (wY ov a u) (λ_ s'=>∃I,Inv X WP ZB I s'/\Q I) X.xe s
abbrev oM:=W1->W1->Hp->VK->Prop
def s_ (X:Cx) (op:wU) (t:oM):Prop:=
 ∀(WP:List (WF×Obj)) (s:Go) (ZB:St) (H:Hp) (x y:W1) (v u:Tk) (Q:VK),Inv X WP ZB H s->RelV x v->RelV y u->t x y H Q->
  wpAny (AT X.prog X.w) X.A (wO op v u) (EP X WP ZB Q) X.xe s
section
variable {X:Cx}{pos:Pos}
def bh (i:Nat):TG:=λv ZB H Q=>Q (ZB.set i (some v)) H
theorem KO {i:Nat}{x:Str}(b:X.N.Nodup) (hi:X.N[i]?=some x) (c:Loc X.env.scope x) (hf:X.fn x=true\/X.env.scope.names.lookup x=some .local:=by first|exact .inl rfl|exact .inr rfl|assumption):PG X (.Name x pos) (bh i):=by
 intro WP s ZB H v u Q XV r h;exact CW (vJ XV b hi c r (λs' a=>⟨_,H,a,h⟩) hf)
def t9:jv:=λvs ZB H Q=>vs=[]/\Q ZB H
def kX (t:TG) (u:jv):jv:=λvs ZB H Q=>∃v r,vs=v::r/\t v ZB H λa I=>u r a I Q
theorem cx:oJ X [] t9:=by
 intro WP s ZB H vs us Q XV r h;obtain⟨e,h⟩:=h;subst e;cases r;exact assignInOrder_nil ⟨ZB,H,XV,h⟩
theorem re {e:s5}{es:List s5}{t:TG}{u:jv}(h1:PG X e t) (h2:oJ X es u)
  (c:(lM (e::es) X.env).map (·.2)=kj e X.env::(lM es X.env).map (·.2):=by rfl):oJ X (e::es) (kX t u):=by(
intro WP s ZB H vs us Q XV r h;obtain⟨v,k,b,h⟩:=h;subst b;cases r with
|cons r f=>
 rw[c];refine assignInOrder_cons (wP (h1 WP s ZB H _ _ _ XV r h) λ_ g i=>uK i λj H1 a d=>?_);exact h2 WP g j H1 _ _ Q a f d)
def ua (K:wf) (n:Nat) (t:jv):TG:=λv ZB H Q=>∃a xs,v=.ref a/\pm K H a xs/\xs.length=n/\t xs ZB H Q
theorem cw {es:List s5}{k:Nat}{t:jv}{n:Nat}(g:X.calm=true) (h:oJ X es t)
  (j:(lM es X.env).length=n:=by rfl) (m:(lM es X.env).findIdx? (·.1)=none:=by rfl):PG X (.Tuple es k pos) (ua X.K n t):=by
 intro WP s ZB H v u Q XV r hw;obtain⟨a,xs,f,l,i,hw⟩:=hw;subst f;cases r;obtain⟨Op,c,p,hz⟩:=XV.tuple l;refine assign_Tuple_tuple (XV.ok.hd g) p (by simp[j,<-i,c.length]) m λh' q=>?_;have d:Inv X WP ZB H {s with heap:=h'}:=XV.kept (t':=s.toks) λb o e=>q b o (cb (cr e)) e;exact h WP _ ZB H xs _ Q d (by simpa using c) hw
def t_ (to b:TE) (t:ti):TG:=λv ZB H Q=>to ZB H λo H1=>b ZB H1 λi H2=>t o i v H2 λa=>Q ZB a
theorem lj {o i:s5}{to b:TE}{t:ti}(j:PE X o to) (hi:PE X i b) (k:x_ X t)
  (g:∀v,kj (.Subscript o i pos) X.env v=(do
   let ov <-ki [v] (eval o X.env)
   let a <-ki [v,ov] (eval i X.env)
   se pos
   ki [v,ov,a] (wY ov a v)
   release [v,ov,a] []):=by intro _;rfl):PG X (.Subscript o i pos) (t_ to b t):=by
 intro WP s ZB H v u Q XV r h;rw[g];refine IR (i4 (wP (j WP s ZB H _ XV h) λov w A=>Do A λx H1 d p l=>?_));refine IR (i4 (wP (hi WP w ZB H1 _ d l) λa z C=>Do C λy H2 e q m=>?_));refine IR (wF (IR (i4 (wP (k WP z ZB H2 x y v ov a u _ e p q r m) λ_ E D=>jV D λc f n=>?_))));exact wpAny_release ⟨ZB,c,f,n⟩
def hY (te:TE) (g:TG):TS:=λD ZB H=>te ZB H λx H1=>g x ZB H1 D.nx
theorem dI {tg e:s5}{te:TE}{g:TG}(b:PE X e te) (hg:PG X tg g) (c:swapsWithSole [tg] e pos.line X.env=pure false:=by rfl) (hw:swappedStores [tg] e X.env=pure none:=by rfl)
  (h1:(lM [tg] X.env).map (·.2)=[kj tg X.env]:=by rfl):PS X (.Assign [tg] e pos) (hY te g):=by
 intro WP s ZB H D XV h;refine wpAny_Assign_stores (wP (b WP s ZB H _ XV h) λv i j=>Do j λx H1 a f d=>?_) c hw;rw[h1];exact wP (hg WP i ZB H1 x v _ a f d) λ_ k q=>q
theorem K1 {i:Nat}{x:Str}{e:s5}{te:TE}{eN:Pos}(c:X.N.Nodup) (hi:X.N[i]?=some x) (g:Loc X.env.scope x) (d:PE X e te) (f:lO e (some (.Name x eN)) pos.line X.env=pure false:=by rfl) (hf:X.fn x=true\/X.env.scope.names.lookup x=some .local:=by first|exact .inl rfl|exact .inr rfl|assumption):
  PS X (.Assign [.Name x eN] e pos) (hY te (bh i)):=by
 intro WP s ZB H D XV h;refine wpAny_Assign_Name (wP (d WP s ZB H _ XV h) λv m l=>Do l λy H1 a k j=>?_) f;exact vJ a c hi g k (λn b=>⟨_,H1,b,j⟩) hf
def My (i:Nat) (te:TE) (a:oM):TS:=λD ZB H=>∃x,ZB[i]?=some (some x)/\te ZB H λy H1=>a x y H1 λz H2=>D.nx (ZB.set i (some z)) H2
theorem uU {i:Nat}{x:Str}{e:s5}{te:TE}{op:wU}{d:oM}{eN:Pos}(o:X.N.Nodup) (hi:X.N[i]?=some x) (b:Loc X.env.scope x) (t:PE X e te) (J:s_ X op d) (hf:X.fn x=true\/X.env.scope.names.lookup x=some .local:=by first|exact .inl rfl|exact .inr rfl|assumption):
  PS X (.AugAssign (.Name x eN) op e pos) (My i te d):=by(
intro WP s ZB H D XV h;obtain⟨v,n,h⟩:=h;obtain⟨m,E,C⟩:=XV.loc;have OJ:kH X.env.scope x:=by rcases b with k|k;exact .inl k;exact .inr (.inl k)
obtain⟨u,r,l⟩:=C i x v hi n OJ;refine wpAny_AugAssign_Name ?_;have go:wpAny (AT X.prog X.w) X.A (eval e X.env) (λw OH=>wpAny (AT X.prog X.w) X.A (wO op u w) (λr OI=>wpAny (AT X.prog X.w) X.A (wN X.env x r) (λ_=>SP X WP D .next) X.xe OI) X.xe OH) X.xe s:=by
 refine wP (t WP s ZB H _ XV h) λw Y OK=>Do OK λy H1 f T L=>?_;refine wP (J WP Y ZB H1 v y u w _ f r T L) λz OM OL=>Do OL λOO H2 g U Q=>?_;exact vJ g o hi b U (λON j=>⟨_,H2,j,Q⟩) hf
rcases l with⟨a,hm⟩|⟨a,c,p,q⟩
·exact CT XV.ok.kind a E hm go
·rcases a with a|a
 ·exact CU XV.ok.kind a p q go
 ·rcases b with k|k
  ·have:X.env.scope.names.lookup x=some .free:=a;rw[k]at this;cases this
  ·have:X.env.scope.names.lookup x=some .free:=a;rw[k]at this;cases this)
def zv (f:Int->Int->Int):oM:=λx y H Q=>∃i j,x=.int i/\y=.int j/\Q (.int (f i j)) H
theorem Ho:s_ X .Add (zv λi j=>i+j):=by
 intro WP s ZB H x y v u Q XV c d h;obtain⟨i,j,a,b,q⟩:=h;subst a;subst b;obtain⟨t,rfl⟩:=c;obtain⟨t',rfl⟩:=d;exact D9 ⟨.int _,H,XV.tok _,⟨_,O⟩,q⟩
theorem zw:s_ X .Sub (zv λi j=>i-j):=by
 intro WP s ZB H x y v u Q XV c d h;obtain⟨i,j,a,b,q⟩:=h;subst a;subst b;obtain⟨t,rfl⟩:=c;obtain⟨t',rfl⟩:=d;exact isub_int ⟨.int _,H,XV.tok _,⟨_,O⟩,q⟩
end
section
variable {X:Cx}{pos:Pos}
def MM (c:TT) (tb:TS):TS:=λD ZB H=>∃W:Nat->St->Hp->Prop,(∃m,W m ZB H)/\∀m ZB H,W m ZB H->
 c ZB H λb H1=>if b=true then ∃N:St->Hp->Prop,(∀d I,N d I->∃a,a<m/\W a d I)/\tb {D with nx:=N,ct:=N,bk:=D.nx} ZB H1 else D.nx ZB H1
theorem ll(p:PassesOwn (AT X.prog X.w) X.A X.env X.xe) (u:PT X c tc) (t:eF X body tb):PS X (.While c body [] pos) (MM tc tb):=by(
intro WP s ZB H D XV h;obtain⟨W,⟨x,C⟩,turn⟩:=h;refine wpAny_While (codeAny_whileLoop (λn s'=>∃q I,Inv X WP q I s'/\W n q I) ?_ x ⟨ZB,H,XV,C⟩);rintro n y ⟨i,H1,r,E⟩;refine kf p (wP (u WP y i H1 _ r (turn n i H1 E)) λb z J=>jV J λH2 m e=>?_);cases b with
|true=>
 obtain⟨N,o,e⟩:=e;rw[No rfl];refine kf p (wP (t WP z i H2 _ m e) λf L g=>?_);cases f with
 |next=>
  obtain⟨d,a,j,n3⟩:=g;obtain⟨k,hm,l⟩:=o d a n3;exact⟨k,hm,d,a,j,l⟩
 |cont=>
  obtain⟨d,a,j,n3⟩:=g;obtain⟨k,hm,l⟩:=o d a n3;exact⟨k,hm,d,a,j,l⟩
 |brk=>exact g
 |ret v=>exact g
|false=>
 rw[Ps cc];exact rZ ⟨i,H2,m,e⟩)
end
structure It where
 go:Nat->Hp->Prop
 eQ:Nat->Hp->W1->Hp->Prop
 stop:Nat->Hp->Prop
def fo (X:Cx) (WP:List (WF×Obj)) (H:Hp) (b:WF):Prop:=
 H b=none/\b≠X.env.locals/\b∉X.fs/\(b∈X.ex\/X.dt.heap.objs.size<=b)/\(∀x c,X.env.cells.lookup x=some c->c≠b)/\∀p∈X.pn++WP,p.1≠b
theorem Inv.kU{ZB:St}{b:WF}(XV:Inv X WP ZB H s) (a:s.heap.objs.size<=b) (d:I b=none):fo X WP I b:=by(
refine⟨d,sr (c_ XV.lt a),XV.I' a,.inr (dz XV.sz a),λx c e z=>?_,λp f z=>?_⟩
·obtain⟨v,q⟩:=XV.cell x c e;exact absurd (c_ q.lt (by rw[z];exact a)) (hh _)
·exact absurd (c_ (cr (XV.pin p f).1) (by rw[z];exact a)) (hh _))
structure hC (P:fr) (w:g2) (K:wf) (tg:s5) (J:It) (fp:List WF) (c:WF) (a:Nat->s2->Prop):Prop where
 mem:c∈fp
 obj:∀i h,a i h->∀b∈fp,∃o,h.get? b=some o/\∀v,o.data≠.cell v
 keep:∀i h h',a i h->(∀b∈fp,∀o,h.get? b=some o->h'.get? b=some o)->a i h'
 item:∀(X:Cx),X.prog=P->X.w=w->X.K=K->X.calm=true->∀(i:Nat) (WP:List (WF×Obj)) (s:Go) (ZB:St) (H:Hp) (E:Tk->Go->Prop),Inv X WP ZB H s->(∀b∈fp,fo X WP H b)->a i s.heap->J.go i H->
  wpAny (AT P w) X.A (eU (.ref c)) (λr d=>∃u,r=some u/\
   wpAny (AT P w) X.A (r0 tg (.ref c) u) (λ_ e=>∃x I,Inv X WP ZB I e/\RelV x u/\J.eQ i H x I/\a (i+1) e.heap/\∀b∈fp,I b=none) E d) E s
 done:∀(X:Cx),X.prog=P->X.w=w->X.K=K->X.calm=true->∀(i:Nat) (WP:List (WF×Obj)) (s:Go) (ZB:St) (H:Hp) (E:Tk->Go->Prop),Inv X WP ZB H s->(∀b∈fp,fo X WP H b)->a i s.heap->J.stop i H->
  wpAny (AT P w) X.A (eU (.ref c)) (λr d=>r=none/\Inv X WP ZB H d) E s
 self:∀(A:bJ) (i:Nat) (s:Go) (Q:Tk->Go->Prop) (E:Tk->Go->Prop),a i s.heap->Q (.ref c) s->wpAny (AT P w) A (sh (.ref c)) Q E s
abbrev TI:=St->Hp->(It->Hp->Prop)->Prop
def s9 (X:Cx) (WP:List (WF×Obj)) (ZB:St) (tg:s5) (R:It->Hp->Prop) (e:Tk) (c:Go):Prop:=
 ∃(a:WF) (fp:List WF) (d:Nat->s2->Prop) (J:It) (I:Hp),e=.ref a/\Inv X WP ZB I c/\hC X.prog X.w X.K tg J fp a d/\d 0 c.heap/\(∀b∈fp,fo X WP I b)/\R J I
def PI (X:Cx) (tg bx:s5) (b:TI):Prop:=
 ∀(WP:List (WF×Obj)) (s:Go) (ZB:St) (H:Hp) (R:It->Hp->Prop),Inv X WP ZB H s->b ZB H R->
  wpAny (AT X.prog X.w) X.A (eval bx X.env) (λv a=>wpAny (AT X.prog X.w) X.A (sh v) (s9 X WP ZB tg R) X.xe a) X.xe s
theorem kZ(d:s.heap.get? e=some o) (b:o.cls=.type n) (hd:o.data=.fields vs)
  (c:["enumerate","zip","dict_itemiterator","dict_reverseitemiterator","odict_iterator","itertools.zip_longest","itertools.pairwise"].contains n=false) (a:Q () s):wpAny TW A (r0 tg (.ref e) u) Q E s:=by(
unfold r0;cases tg<;>first
 |exact t3 a
 |(cases u<;>first
   |exact t3 a
   |(refine IR (Dm d ?_);rw[b,hd];show wpAny TW A (if(["enumerate","zip","dict_itemiterator","dict_reverseitemiterator","odict_iterator","itertools.zip_longest","itertools.pairwise"].contains n&&vs[0]?==some (hb _))=true then _ else _) Q E s;rw[Ps (by intro h;rw[c,xm]at h;cases h)];exact t3 a)))
def cO (K:wf) (a:WF):It:=
 ⟨λi H=>∃xs x,TD K H a xs/\xs[i]?=some x,λi H x I=>I=H/\∀xs,TD K H a xs->xs[i]?=some x,λi H=>∃xs,TD K H a xs/\xs.length<=i⟩
def mj (K:wf) (a:WF):It:=
 ⟨λi H=>∃xs x,pm K H a xs/\xs[i]?=some x,λi H x I=>I=H/\∀xs,pm K H a xs->xs[i]?=some x,λi H=>∃xs,pm K H a xs/\xs.length<=i⟩
def jq (lo:Int) (n:Nat):It:=⟨λi _=>i<n,λi H x I=>I=H/\x=.int (lo+i),λi _=>n<=i⟩
theorem MW {P:fr}{w:g2}{K:wf}{tg:s5}(a g:WF):hC P w K tg (cO K a) [g] g (λi h=>h.IsListIter g a i) where
 mem:=by simp
 obj:=λi h st b f=>by
  have e:b=g:=by simpa using f
  subst e;obtain⟨o,e,c,d⟩:=st;exact⟨o,e,λv z=>by rw[d]at z;cases z⟩
 keep:=λi h h' st k=>st.at λo e=>k g (by simp) o e
 item:=by
  intro X y hw t D i WP s ZB H E XV hf st hg;subst y hw t;obtain⟨xs,x,j,A⟩:=hg;obtain⟨Op,C,p,hz⟩:=XV.list j;obtain⟨u,hu,U⟩:=C.get A;obtain⟨l,m,Q,n,q,r⟩:=hf g (by simp);refine wpAny_pyNext_list_item st p.isList (x:=u) (by simpa using hu) λh' J Y=>?_;have L:Inv X WP ZB H {s with heap:=h'}:=XV.turned (t':=s.toks) (λb o f e=>(Y.2 b f).trans e) l m n q r;obtain⟨o,e,c,d⟩:=id J;exact⟨u,O,kZ (s:= {s with heap:=h'}) e c d (by decide) ⟨x,H,L,U,⟨O,λys T=>by rw[XV.px T j];exact A⟩,J,λb f=>(hf b f).1⟩⟩
 done:=by
  intro X y hw t D i WP s ZB H E XV hf st hg;subst y hw t;obtain⟨xs,j,A⟩:=hg;obtain⟨Op,C,p,hz⟩:=XV.list j;obtain⟨l,m,Q,n,q,r⟩:=hf g (by simp);have OH:=C.length;exact wpAny_pyNext_list_end (XV.ok.hd D) st p.isList (by simp;lia) λh' N=>⟨O,XV.turned (t':=s.toks) (λb o f e=>N b o f e) l m n q r⟩
 self:=λ_ _ _ _ _ st h=>wpAny_pyIter_listiter st h
theorem MZ {P:fr}{w:g2}{K:wf}{tg:s5}(a g:WF):hC P w K tg (mj K a) [g] g (λi h=>h.IsTupleIter g a i) where
 mem:=by simp
 obj:=λi h st b f=>by
  have e:b=g:=by simpa using f
  subst e;obtain⟨o,e,c,d⟩:=st;exact⟨o,e,λv z=>by rw[d]at z;cases z⟩
 keep:=λi h h' st k=>st.at λo e=>k g (by simp) o e
 item:=by
  intro X y hw t D i WP s ZB H E XV hf st hg;subst y hw t;obtain⟨xs,x,j,A⟩:=hg;obtain⟨Op,C,p,hz⟩:=XV.tuple j;obtain⟨u,hu,U⟩:=C.get A;obtain⟨l,m,Q,n,q,r⟩:=hf g (by simp);refine wpAny_pyNext_tuple_item st (show s.heap.IsTuple a Op.toArray from p) (x:=u) (by simpa using hu) λh' J Y=>?_;have L:Inv X WP ZB H {s with heap:=h'}:=XV.turned (t':=s.toks) (λb o f e=>(Y.2 b f).trans e) l m n q r;obtain⟨o,e,c,d⟩:=id J;exact⟨u,O,kZ (s:= {s with heap:=h'}) e c d (by decide) ⟨x,H,L,U,⟨O,λys T=>by rw[XV.vU T j];exact A⟩,J,λb f=>(hf b f).1⟩⟩
 done:=by
  intro X y hw t D i WP s ZB H E XV hf st hg;subst y hw t;obtain⟨xs,j,A⟩:=hg;obtain⟨Op,C,p,hz⟩:=XV.tuple j;obtain⟨l,m,Q,n,q,r⟩:=hf g (by simp);have OH:=C.length;exact wpAny_pyNext_tuple_end (XV.ok.hd D) st (show s.heap.IsTuple a Op.toArray from p) (by simp;lia) λh' N=>⟨O,XV.turned (t':=s.toks) (λb o f e=>N b o f e) l m n q r⟩
 self:=λ_ _ _ _ _ st h=>wpAny_pyIter_tupleiter st h
theorem MX {P:fr}{w:g2}{K:wf}{tg:s5}(a:WF) (lo:Int) (n:Nat):hC P w K tg (jq lo n) [a] a (λi h=>r7 h a (lo+(i:Nat)*1) ((n:Int)-(i:Nat)) 1) where
 mem:=by simp
 obj:=λi h st b c=>by
  have e:b=a:=by simpa using c
  subst e;exact⟨_,st,λv z=>by
   have C:Data.fields _=Data.cell v:=z;cases C⟩
 keep:=λi h h' st k=>k a (by simp) _ st
 item:=by
  intro X p hw m q i WP s ZB H E XV hf st hg;subst p hw m;obtain⟨d,f,y,g,j,l⟩:=hf a (by simp);have W:=Walks.range (prog:=X.prog) (w:=X.w) (XV.ok.hd q) a lo 1 n;refine W.item i s _ _ hg st λv h' tk hv r A=>?_;obtain⟨t,rfl⟩:=hv;have u:Inv X WP ZB H {s with heap:=h',toks:=tk}:=XV.turned (λb o c e=>A b o (by simpa using c) e) d f g j l;refine⟨_,O,kZ (s:= {s with heap:=h',toks:=tk}) (n:="range_iterator") r rfl rfl (by decide) ⟨.int (lo+i),H,u,⟨t,?_⟩,⟨O,O⟩,r,λb c=>(hf b c).1⟩⟩;rw[Int.mul_one]
 done:=by
  intro X p hw m q i WP s ZB H E XV hf st hg;subst p hw m;obtain⟨d,f,y,g,j,l⟩:=hf a (by simp);exact CJ (XV.ok.hd q) st (by have:n<=i:=hg;lia) λh' x=>⟨O,XV.turned (t':=s.toks) (λb o c e=>x b o c e) d f g j l⟩
 self:=λ_ _ _ _ _ st h=>CK st h
section
variable {X:Cx}{tg:s5}
def ug (K:wf) (tl:TE):TI:=λZB H R=>tl ZB H λx H1=>∃a,x=.ref a/\(∃xs,TD K H1 a xs)/\R (cO K a) H1
def Hf (K:wf) (tl:TE):TI:=λZB H R=>tl ZB H λx H1=>∃a,x=.ref a/\(∃xs,pm K H1 a xs)/\R (mj K a) H1
theorem cy(g:PE X l tl):PI X tg l (ug X.K tl):=by(
intro WP s ZB H R XV h;refine wP (g WP s ZB H _ XV h) λv d m=>Do m λx H1 c k j=>?_;obtain⟨a,e,⟨xs,i⟩,q⟩:=j;subst e;cases k;obtain⟨Op,n,p,hz⟩:=c.list i;refine nL p.isList ?_;refine⟨d.heap.objs.size,[d.heap.objs.size],_,_,H1,O,c.kept (t':=d.toks) λb o e=>ln _ e,MW a _,⟨_,bc _ rfl,O,O⟩,λb f=>?_,q⟩;have e:b=d.heap.objs.size:=by simpa using f
subst e;exact c.kU (tz _) (c.ag.fresh (tz _)))
theorem KR(g:PE X l tl):PI X tg l (Hf X.K tl):=by(
intro WP s ZB H R XV h;refine wP (g WP s ZB H _ XV h) λv c m=>Do m λx H1 d k j=>?_;obtain⟨a,e,⟨xs,i⟩,q⟩:=j;subst e;cases k;obtain⟨Op,n,p,hz⟩:=d.tuple i;refine wpAny_pyIter_tuple (show c.heap.IsTuple a Op.toArray from p) ?_;refine⟨c.heap.objs.size,[c.heap.objs.size],_,_,H1,O,d.kept (t':=c.toks) λb o e=>ln _ e,MZ a _,⟨_,bc _ rfl,O,O⟩,λb f=>?_,q⟩;have e:b=c.heap.objs.size:=by simpa using f
subst e;exact d.kU (tz _) (d.ag.fresh (tz _)))
theorem AL{ZB:St}{lo:Int}(XV:Inv X WP ZB H s) (h1: -(2^62)<=lo) (h2:lo<2^62) (f: -(2^62)<=hi) (g:hi<2^62)
  (q:R (jq lo (hi-lo).toNat) H):wpAny (AT X.prog X.w) X.A (sh (.ref s.heap.objs.size)) (s9 X WP ZB tg R) E {s with heap:=s.heap.push {cls:=.type "range",data:=.fields #[.int lo t,.int hi u,.int 1 v]},toks:=tk}:=by(
refine CV (IsRange.new ..) (small_one h1 h2 f g) ?_;have a:Inv X WP ZB H {s with heap:=s.heap.push {cls:=.type "range",data:=.fields #[.int lo t,.int hi u,.int 1 v]},toks:=tk}:=XV.kept λb o e=>ln _ e;refine⟨(s.heap.push {cls:=.type "range",data:=.fields #[.int lo t,.int hi u,.int 1 v]}).objs.size,[(s.heap.push {cls:=.type "range",data:=.fields #[.int lo t,.int hi u,.int 1 v]}).objs.size],_,_,H,O,
 a.kept (t':=tk) λb o e=>ln _ e,MX _ lo (hi-lo).toNat,?_,λb h=>?_,q⟩
·have c:lo+((0:Nat):Int)*1=lo:=by simp
 have d:(((hi-lo).toNat:Nat):Int)-((0:Nat):Int)=xH lo hi 1:=by rw[rangeSize_one];split<;>lia
 show r7 _ _ (lo+((0:Nat):Int)*1) ((((hi-lo).toNat:Nat):Int)-((0:Nat):Int)) 1;rw[c,d];exact bc _ rfl
·have e:b=(s.heap.push {cls:=.type "range",data:=.fields #[.int lo t,.int hi u,.int 1 v]}).objs.size:=by simpa using h
 subst e;exact a.kU (tz _) (a.ag.fresh (tz _)))
def Hc (ta:TA):TI:=λZB H R=>ta ZB H λvs H1=>∃j:Int,vs=[.int j]/\ -(2^62)<=j/\j<2^62/\R (jq 0 j.toNat) H1
def Hd (ta:TA):TI:=λZB H R=>ta ZB H λvs H1=>∃i j:Int,vs=[.int i,.int j]/\(-(2^62)<=i/\i<2^62/\ -(2^62)<=j/\j<2^62)/\R (jq i (j-i).toNat) H1
theorem ng {a:s5}{ta:TA}{p pos:Pos}(hg:Gl X "range") (hm:X.mg "range"=none) (d:PA X [a] ta) (f:al [a] X.env=[(false,eval a X.env)]:=by rfl):PI X tg (.Call (.Name "range" p) [a] [] pos) (Hc ta):=by(
intro WP s ZB H R XV h;refine sN (k1 XV hg hm xx (od (wP (d pos WP s ZB H _ XV h) λus m l=>Do l λvs H1 c i b=>?_) f rfl));obtain⟨j,e,b,g,q⟩:=b;subst e;cases i with
|cons r k=>
 cases k;obtain⟨t,rfl⟩:=r;exact call_range_1 (AL c (by lia) (by lia) b g (by simpa using q)))
theorem KP {a b:s5}{ta:TA}{p pos:Pos}(hg:Gl X "range") (hm:X.mg "range"=none) (k:PA X [a,b] ta) (l:al [a,b] X.env=[(false,eval a X.env),(false,eval b X.env)]:=by rfl) (f:al [b] X.env=[(false,eval b X.env)]:=by rfl):
  PI X tg (.Call (.Name "range" p) [a,b] [] pos) (Hd ta):=by(
intro WP s ZB H R XV h;refine sN (k1 XV hg hm xx (od (wP (k pos WP s ZB H _ XV h) λus y x=>Do x λvs H1 g w c=>?_) (by rw[l,f]) (by rw[f];rfl)));obtain⟨i,j,e,⟨c,m,n,o⟩,q⟩:=c;subst e;cases w with
|cons r d=>
 cases d with
 |cons u d=>
  cases d;obtain⟨t,rfl⟩:=r;obtain⟨t',rfl⟩:=u;exact call_range_2 (AL g c m n o q))
def MI (c:TI) (g:TG) (tb:TS):TS:=λD ZB H=>c ZB H λJ H1=>∃W:Nat->Nat->St->Hp->Prop,(∃m,W 0 m ZB H1)/\∀i m ZB H,W i m ZB H->
 (J.stop i H/\D.nx ZB H)\/(J.go i H/\∃N:St->Hp->Prop,(∀b I,N b I->∃a,a<m/\W (i+1) a b I)/\∀x I,J.eQ i H x I->g x ZB I λd H2=>tb {D with nx:=N,ct:=N,bk:=D.nx} d H2)
def nh (fp:List WF) (h:s2):List (WF×Obj):=fp.filterMap λb=>(h.get? b).map λo=>(b,o)
theorem uz(a:b∈fp) (e:h.get? b=some o):(b,o)∈nh fp h:=oB.mpr ⟨b,a,by rw[e];rfl⟩
theorem Jc(d:p∈nh fp h):p.1∈fp/\h.get? p.1=some p.2:=by(
obtain⟨b,c,e⟩:=oB.mp d;cases q:h.get? b with
|none=>rw[q]at e;cases e
|some o=>
 rw[q]at e;have a:(b,o)=p:=b2 e;subst a;exact⟨c,q⟩)
theorem Inv.pinned{ZB:St}(XV:Inv X WP ZB H s) (hf:∀b∈fp,fo X WP H b) (i:∀b∈fp,∃o,s.heap.get? b=some o/\∀v,o.data≠.cell v):Inv X (WP++nh fp s.heap) ZB H s:=
 XV.AE λp j=>(cs.mp j).elim (λz=>XV.pin p (fY _ z)) λz=>by
  obtain⟨c,e⟩:=Jc z;obtain⟨f,g,h,_⟩:=hf p.1 c;obtain⟨o,a,d⟩:=i p.1 c;rw[e]at a;cases a;exact⟨e,f,g,h,d⟩
theorem Inv.rB{ZB:St}(XV:Inv X (WP++pl) ZB H s):Inv X WP ZB H s:=XV.AE λp a=>XV.pin p (fY _ (gx _ a))
theorem cH {bx:s5}{body:List v2}{OL:TI}{g:TG}{tb:TS}{pos:Pos}(p:PassesOwn (AT X.prog X.w) X.A X.env X.xe) (J:X.calm=true) (hi:PI X tg bx OL) (hg:PG X tg g) (j:eF X body tb)
  (OW:∀x,rX bx X.env x=pure x:=by intro _;rfl):PS X (.For tg bx body [] pos) (MI OL g tb):=by(
intro WP s ZB H Pg XV h;refine wpAny_For (wP (hi WP s ZB H _ XV h) λv Pl h1=>wP h1 λPk Pm h2=>?_) OW;obtain⟨Pj,fp,OK,Ph,H2,e,ON,T,O5,Y,W,⟨OY,O6⟩,turn⟩:=h2;subst e;have L:∀ {I:Hp},(∀b∈fp,I b=none)->∀b∈fp,fo X WP I b:=λOV b j=>⟨OV b j,(Y b j).2⟩;refine codeAny_forLoop_any (λn s'=>∃i q I,Inv X WP q I s'/\OK i s'.heap/\(∀b∈fp,I b=none)/\W i n q I) ?_ OY ⟨0,ZB,H2,ON,O5,λb j=>(Y b j).1,O6⟩;rintro n OH ⟨i,t,y,U,OJ,D,O7⟩;rcases turn i n t y O7 with⟨stop,O0⟩|⟨go,N,OU,step⟩
·refine kf p (wP (T.done X rfl rfl rfl J i WP OH t y X.xe U (L D) OJ stop) λr O3 Pa=>?_);obtain⟨z,OO⟩:=Pa;subst z;exact rZ ⟨t,y,OO,O0⟩
·refine kf p (wP (T.item X rfl rfl rfl J i WP OH t y X.xe U (L D) OJ go) λr O3 Pb=>?_);obtain⟨u,z,OT⟩:=Pb;subst z;refine kf p (wP OT λ_ OI Pc=>Do Pc λx Q OP O1 Pe=>?_);obtain⟨O_,E,OS⟩:=Pe;have OQ:=OP.pinned (L OS) (T.obj _ _ E);refine kf p (wP (hg _ OI t Q x u _ OQ O1 (step x Q O_)) λ_ O4 Pd=>uK Pd λPf OM OR OZ=>?_);refine kf p (wP (j _ O4 Pf OM _ OR OZ) λf C l=>?_);have again:∀ {k:St}{a:Hp},Inv X (WP++nh fp OI.heap) k a C->N k a->∃m,m<n/\∃i q I,Inv X WP q I C/\OK i C.heap/\(∀b∈fp,I b=none)/\W i m q I:=λ{k a} c n7=>by
  obtain⟨OX,hm,O8⟩:=OU k a n7;refine⟨OX,hm,i+1,k,a,c.rB,T.keep _ _ _ E λb j o e=>(c.pin (b,o) (fY _ (fY _ (uz j e)))).1,λb j=>?_,O8⟩;obtain⟨o,e,d⟩:=T.obj _ _ E b j;exact(c.pin (b,o) (fY _ (fY _ (uz j e)))).2.1
 cases f with
 |next=>obtain⟨k,a,c,n7⟩:=l;exact again c n7
 |cont=>obtain⟨k,a,c,n7⟩:=l;exact again c n7
 |brk=>obtain⟨k,a,c,l⟩:=l;exact⟨k,a,c.rB,l⟩
 |ret v=>obtain⟨O9,k,a,c,O2,l⟩:=l;exact⟨O9,k,a,c.rB,O2,l⟩)
end
theorem gM{K:wf}{g:TG}{tb:TS}{D:Ends}(Pv:Nat->St->Hp->Prop) (h0:Pv 0 ZB H) (h:∀i ZB H,i<=xs.length->Pv i ZB H->TD K H a xs)
  (j:∀i x ZB H,xs[i]?=some x->Pv i ZB H->g x ZB H λc H2=>tb {D with nx:=Pv (i+1),ct:=Pv (i+1),bk:=D.nx} c H2) (hd:∀ZB H,Pv xs.length ZB H->D.nx ZB H):
  ∃W:Nat->Nat->St->Hp->Prop,(∃m,W 0 m ZB H)/\∀i m ZB H,W i m ZB H->
   ((cO K a).stop i H/\D.nx ZB H)\/((cO K a).go i H/\∃N:St->Hp->Prop,(∀b I,N b I->∃f,f<m/\W (i+1) f b I)/\∀x I,(cO K a).eQ i H x I->g x ZB I λc H2=>tb {D with nx:=N,ct:=N,bk:=D.nx} c H2):=by(
refine⟨λi m ZB H=>m=xs.length-i/\i<=xs.length/\Pv i ZB H,⟨xs.length,by simp,f4 _,h0⟩,?_⟩;rintro i m ZB H ⟨rfl,hi,p⟩;have q:=h i ZB H hi p;by_cases d:i<xs.length
·refine .inr ⟨⟨xs,xs[i],q,by simp[d]⟩,Pv (i+1),λb I k=>⟨xs.length-(i+1),by lia,O,d,k⟩,λx I y=>?_⟩;obtain⟨e,y⟩:=y;subst e;exact j i x ZB _ (y xs q) p
·have e:i=xs.length:=by lia
 subst e;exact .inl ⟨⟨xs,q,tz _⟩,hd ZB H p⟩)
theorem GU{K:wf}{g:TG}{tb:TS}{D:Ends}(Pv:Nat->St->Hp->Prop) (h0:Pv 0 ZB H) (h:∀i ZB H,i<=xs.length->Pv i ZB H->pm K H a xs)
  (j:∀i x ZB H,xs[i]?=some x->Pv i ZB H->g x ZB H λc H2=>tb {D with nx:=Pv (i+1),ct:=Pv (i+1),bk:=D.nx} c H2) (hd:∀ZB H,Pv xs.length ZB H->D.nx ZB H):
  ∃W:Nat->Nat->St->Hp->Prop,(∃m,W 0 m ZB H)/\∀i m ZB H,W i m ZB H->
   ((mj K a).stop i H/\D.nx ZB H)\/((mj K a).go i H/\∃N:St->Hp->Prop,(∀b I,N b I->∃f,f<m/\W (i+1) f b I)/\∀x I,(mj K a).eQ i H x I->g x ZB I λc H2=>tb {D with nx:=N,ct:=N,bk:=D.nx} c H2):=by(
refine⟨λi m ZB H=>m=xs.length-i/\i<=xs.length/\Pv i ZB H,⟨xs.length,by simp,f4 _,h0⟩,?_⟩;rintro i m ZB H ⟨rfl,hi,p⟩;have q:=h i ZB H hi p;by_cases d:i<xs.length
·refine .inr ⟨⟨xs,xs[i],q,by simp[d]⟩,Pv (i+1),λb I k=>⟨xs.length-(i+1),by lia,O,d,k⟩,λx I y=>?_⟩;obtain⟨e,y⟩:=y;subst e;exact j i x ZB _ (y xs q) p
·have e:i=xs.length:=by lia
 subst e;exact .inl ⟨⟨xs,q,tz _⟩,hd ZB H p⟩)
theorem kT{lo:Int}{g:TG}{tb:TS}{D:Ends}(Pv:Nat->St->Hp->Prop) (h0:Pv 0 ZB H)
  (f:∀i ZB H,i<n->Pv i ZB H->g (.int (lo+i)) ZB H λc H2=>tb {D with nx:=Pv (i+1),ct:=Pv (i+1),bk:=D.nx} c H2) (hd:∀ZB H,Pv n ZB H->D.nx ZB H):
  ∃W:Nat->Nat->St->Hp->Prop,(∃m,W 0 m ZB H)/\∀i m ZB H,W i m ZB H->
   ((jq lo n).stop i H/\D.nx ZB H)\/((jq lo n).go i H/\∃N:St->Hp->Prop,(∀b I,N b I->∃d,d<m/\W (i+1) d b I)/\∀x I,(jq lo n).eQ i H x I->g x ZB I λc H2=>tb {D with nx:=N,ct:=N,bk:=D.nx} c H2):=by(
refine⟨λi m ZB H=>m=n-i/\i<=n/\Pv i ZB H,⟨n,by simp,f4 _,h0⟩,?_⟩;rintro i m ZB H ⟨rfl,hi,p⟩;by_cases a:i<n
·refine .inr ⟨a,Pv (i+1),λb I h=>⟨n-(i+1),by lia,O,a,h⟩,λx I y=>?_⟩;obtain⟨e,y⟩:=y;subst e y;exact f i ZB _ a p
·have e:i=n:=by lia
 subst e;exact .inl ⟨tz _,hd ZB H p⟩)
abbrev R2:=W1->W1->Hp->VK->Prop
def bO (X:Cx) (f:Tk->Tk->Sem Tk) (r:R2):Prop:=
 ∀(WP:List (WF×Obj)) (s:Go) (ZB:St) (H:Hp) (x y:W1) (v u:Tk) (Q:VK),Inv X WP ZB H s->RelV x v->RelV y u->r x y H Q->
  wpAny (AT X.prog X.w) X.A (f v u) (EP X WP ZB Q) X.xe s
def tj (X:Cx) (f:Tk->Sem Tk) (r:W1->Hp->VK->Prop):Prop:=
 ∀(WP:List (WF×Obj)) (s:Go) (ZB:St) (H:Hp) (x:W1) (v:Tk) (Q:VK),Inv X WP ZB H s->RelV x v->r x H Q->
  wpAny (AT X.prog X.w) X.A (f v) (EP X WP ZB Q) X.xe s
def hs (X:Cx) (f:Tk) (r:List W1->Hp->VK->Prop):Prop:=
 ∀(WP:List (WF×Obj)) (s:Go) (ZB:St) (H:Hp) (xs:List W1) (us:List Tk) (Q:VK),Inv X WP ZB H s->ww xs us->r xs H Q->
  wpAny (AT X.prog X.w) X.A (call f us) (EP X WP ZB Q) X.xe s
def hZ (r:R2) (ta tb:TE):TE:=λZB H Q=>ta ZB H λx H1=>tb ZB H1 λy H2=>r x y H2 Q
def vP (r:W1->Hp->VK->Prop) (ta:TE):TE:=λZB H Q=>ta ZB H λx H1=>r x H1 Q
def rI (C:Int->Int->Prop) (g:Int->Int->W1):R2:=λx y H Q=>∃i j,x=.int i/\y=.int j/\C i j/\Q (g i j) H
def d3 (g:Int->Int->W1):R2:=λx y H Q=>∃i j,x=.int i/\y=.int j/\Q (g i j) H
def rU (g:Int->W1):W1->Hp->VK->Prop:=λx H Q=>∃i,x=.int i/\Q (g i) H
section
variable {X:Cx}{a b c:s5}{ta tb tc:TE}{pos:Pos}
theorem tF(i:PE X a ta) (j:PE X b tb) {ZB:St}{R:W1->W1->Hp->Prop}(XV:Inv X WP ZB H s)
  (h:ta ZB H λx H1=>tb ZB H1 λy H2=>R x y H2) {f:Tk->Tk->Sem Tk}
  (hf:∀v u d x y H2,Inv X WP ZB H2 d->RelV x v->RelV y u->R x y H2->wpAny (AT X.prog X.w) X.A (f v u) Q X.xe d):
  wpAny (AT X.prog X.w) X.A (eval a X.env) (λv p=>wpAny (AT X.prog X.w) X.A (eval b X.env) (λu q=>wpAny (AT X.prog X.w) X.A (f v u) Q X.xe q) X.xe p) X.xe s:=by
 refine wP (i WP s ZB H _ XV h) λv o r=>Do r λx H1 e m k=>?_;refine wP (j WP o ZB H1 _ e k) λu d t=>Do t λy H2 g n l=>?_;exact hf v u d x y H2 g m n l
theorem kt(g:bO X (ha op) r) (e:PE X a ta) (f:PE X b tb):PE X (.BinOp a op b pos) (hZ r ta tb):=by
 intro WP s ZB H Q XV h;exact wpAny_BinOp (tF e f XV h λv u k x y H2 d i j q=>g WP k ZB H2 x y v u Q d i j q)
theorem eL(f:tj X (unaryOp op) r) (e:PE X a ta):PE X (.UnaryOp op a pos) (vP r ta):=by
 intro WP s ZB H Q XV h;exact UnaryOp_ (wP (e WP s ZB H _ XV h) λv j k=>Do k λx H1 d i g=>f WP j ZB H1 x v Q d i g)
theorem pM{g:Int->Int->Int}
  (rule:∀(i j:Int) (t u:Tok) (s:Go) (Q:Tk->Go->Prop) (E:Tk->Go->Prop),C i j->Q (.int (g i j) s.toks) {s with toks:=s.toks+1}->wpAny (AT X.prog X.w) X.A (f (.int i t) (.int j u)) Q E s):
  bO X f (rI C λi j=>.int (g i j)):=by
 intro WP s ZB H x y v u Q XV e k h;obtain⟨i,j,rfl,rfl,d,q⟩:=h;obtain⟨t,rfl⟩:=e;obtain⟨t',rfl⟩:=k;exact rule i j t t' s _ _ d ⟨.int (g i j),H,XV.tok _,⟨_,O⟩,q⟩
theorem uJ{g:Int->Int->Int}
  (rule:∀(i j:Int) (t u:Tok) (s:Go) (Q:Tk->Go->Prop) (E:Tk->Go->Prop),Q (.int (g i j) s.toks) {s with toks:=s.toks+1}->wpAny (AT X.prog X.w) X.A (f (.int i t) (.int j u)) Q E s):
  bO X f (d3 λi j=>.int (g i j)):=by
 intro WP s ZB H x y v u Q XV d e h;obtain⟨i,j,rfl,rfl,q⟩:=h;obtain⟨t,rfl⟩:=d;obtain⟨t',rfl⟩:=e;exact rule i j t t' s _ _ ⟨.int (g i j),H,XV.tok _,⟨_,O⟩,q⟩
theorem pL{g:Int->Int->Bool}
  (rule:∀(i j:Int) (t u:Tok) (s:Go) (Q:Tk->Go->Prop) (E:Tk->Go->Prop),Q (.bool (g i j)) s->wpAny (AT X.prog X.w) X.A (f (.int i t) (.int j u)) Q E s):
  bO X f (d3 λi j=>.bl (g i j)):=by
 intro WP s ZB H x y v u Q XV d e h;obtain⟨i,j,rfl,rfl,q⟩:=h;obtain⟨t,rfl⟩:=d;obtain⟨t',rfl⟩:=e;exact rule i j t t' s _ _ ⟨.bl (g i j),H,XV,O,q⟩
def EA (i j:Int):Prop:=0<j/\j<1073741824
def sY (i j:Int):Prop:=(-(2^64)<i/\i<2^64)\/(-(2^64)<j/\j<2^64)
theorem sY.ok(h:sY i j):IntMulOk i j:=by(
rcases h with⟨h1,h2⟩|⟨h1,h2⟩
·exact .of_left (Dc h1 h2)
·exact .of_right (Dc h1 h2))
theorem M4 (k:Nat):(0:Int)<=2^k:=by
 rw[two_pow_cast];exact D2 _
theorem bG:bO X (ha .Add) (d3 λi j=>.int (i+j)):=uJ λ_ _ _ _ _ _ _ q=>add_int q
theorem gP:bO X (ha .Sub) (d3 λi j=>.int (i-j)):=uJ λ_ _ _ _ _ _ _ q=>sub_int q
theorem Kc:bO X (ha .Mult) (rI sY λi j=>.int (i*j)):=pM λ_ _ _ _ _ _ _ d q=>mul_int q d.ok
theorem Ka:bO X (ha .FloorDiv) (rI EA λi j=>.int (i/j)):=pM λi j _ _ _ _ _ d q=>by
 have h1:(0:Int)<j:=d.1;have h2:j<1073741824:=d.2;exact floordiv_int (by lia) (by rw[D1 i (by lia)];exact q) (.inl (PyProof.noPylong_small (by lia)))
theorem Kb:bO X (ha .Mod) (rI (λ_ j=>0<j) λi j=>.int (i%j)):=pM λi j _ _ _ _ _ d q=>by
 have h1:(0:Int)<j:=d;exact mod_int' (by lia) (by rw[Int.fmod_eq_emod_of_nonneg i (by lia)];exact q)
theorem Kf:bO X (ha .RShift) (rI (λ_ j=>0<=j) λi j=>.int (i/2^j.toNat)):=pM λi j _ _ _ _ _ d q=>
 rshift_int d (by rw[D1 i (M4 _)];exact q)
theorem J_:bO X (ha .BitAnd) (d3 λi j=>.int (sR i j)):=uJ λ_ _ _ _ _ _ _ q=>and_int q
theorem M6{g:Int->Int}
  (rule:∀(i:Int) (t:Tok) (s:Go) (Q:Tk->Go->Prop) (E:Tk->Go->Prop),Q (.int (g i) s.toks) {s with toks:=s.toks+1}->wpAny (AT X.prog X.w) X.A (f (.int i t)) Q E s):
  tj X f (rU λi=>.int (g i)):=by
 intro WP s ZB H x v Q XV d h;obtain⟨i,rfl,q⟩:=h;obtain⟨t,rfl⟩:=d;exact rule i t s _ _ ⟨.int (g i),H,XV.tok _,⟨_,O⟩,q⟩
theorem eP:tj X (unaryOp .USub) (rU λi=>.int (-i)):=M6 λ_ _ _ _ _ q=>neg_int q
end
noncomputable def Bh:W1->W1->Bool
 |.ak,.ak=>true|.ak,.int _=>true|.int _,.ak=>true|.ak,.bl _=>true|.bl _,.ak=>true|.ak,.str _=>true|.str _,.ak=>true
 |.int _,.int _=>true|.bl _,.bl _=>true|.str _,.str _=>true|.fy _,.fy _=>true
 |.int _,.str _=>true|.str _,.int _=>true|.bl _,.str _=>true|.str _,.bl _=>true
 |_,_=>false
def Lf:R2:=λx y H Q=>Bh x y=true/\Q (.bl (decide (x=y))) H
def Lj:R2:=λx y H Q=>Bh x y=true/\Q (.bl (!decide (x=y))) H
theorem yW:decide (W1.int i=W1.int j)=(i==j):=by
 rw[sv];simp
theorem yU:decide (W1.bl i=W1.bl j)=(i==j):=by
 rw[sv];simp
theorem yX:decide (W1.str i=W1.str j)=(i==j):=by
 rw[sv];simp
theorem yV:decide (W1.fy i=W1.fy j)=(i.toList==j.toList):=by
 rw[sv];cases i;cases j;simp
section
variable {X:Cx}{a b c:s5}{ta tb tc:TE}{pos:Pos}
theorem aT{ZB:St}(XV:Inv X WP ZB H s) (q:Q (.bl k) H) (e:k=d):EP X WP ZB Q (.bool d) s:=by
 subst e;exact⟨.bl k,H,XV,O,q⟩
theorem c0:bO X (dR .Eq) Lf:=by(
intro WP s ZB H x y v u Q XV f d h;obtain⟨e,q⟩:=h;cases x with
|ak=>
 cases f;cases y with
 |ak=>cases d;exact Of (aT XV q (by simp))
 |bl j=>cases d;exact Og (aT XV q (by simp))
 |int j=>obtain⟨t',rfl⟩:=d;exact Om (aT XV q (by simp))
 |str j=>obtain⟨t',rfl⟩:=d;exact Oo (aT XV q (by simp))
 |_=>exact absurd (show false=true from e) cc
|bl i=>
 cases f;cases y with
 |ak=>cases d;exact Oh (aT XV q (by simp))
 |bl j=>cases d;exact eq_bool (aT XV q yU)
 |str j=>obtain⟨t',rfl⟩:=d;exact Oy (aT XV q (by simp))
 |_=>exact absurd (show false=true from e) cc
|int i=>
 obtain⟨t,rfl⟩:=f;cases y with
 |ak=>cases d;exact Oq (aT XV q (by simp))
 |int j=>obtain⟨t',rfl⟩:=d;exact eq_int (aT XV q yW)
 |str j=>obtain⟨t',rfl⟩:=d;exact OC (aT XV q (by simp))
 |_=>exact absurd (show false=true from e) cc
|str i=>
 obtain⟨t,rfl⟩:=f;cases y with
 |ak=>cases d;exact Ot (aT XV q (by simp))
 |bl j=>cases d;exact Oz (aT XV q (by simp))
 |int j=>obtain⟨t',rfl⟩:=d;exact OD (aT XV q (by simp))
 |str j=>obtain⟨t',rfl⟩:=d;exact eq_str (aT XV q yX)
 |_=>exact absurd (show false=true from e) cc
|fy i=>
 obtain⟨t,rfl⟩:=f;cases y with
 |fy j=>obtain⟨t',rfl⟩:=d;exact NL (aT XV q yV)
 |_=>exact absurd (show false=true from e) cc
|_=>cases y<;>exact absurd (show false=true from e) cc)
theorem Kd:bO X (dR .NotEq) Lj:=by(
intro WP s ZB H x y v u Q XV f d h;obtain⟨e,q⟩:=h;cases x with
|ak=>
 cases f;cases y with
 |ak=>cases d;exact Oi (aT XV q (by simp))
 |bl j=>cases d;exact Oj (aT XV q (by simp))
 |int j=>obtain⟨t',rfl⟩:=d;exact Ou (aT XV q (by simp))
 |str j=>obtain⟨t',rfl⟩:=d;exact Ov (aT XV q (by simp))
 |_=>exact absurd (show false=true from e) cc
|bl i=>
 cases f;cases y with
 |ak=>cases d;exact Ol (aT XV q (by simp))
 |bl j=>cases d;exact ne_bool (aT XV q (cM not yU))
 |str j=>obtain⟨t',rfl⟩:=d;exact OA (aT XV q (by simp))
 |_=>exact absurd (show false=true from e) cc
|int i=>
 obtain⟨t,rfl⟩:=f;cases y with
 |ak=>cases d;exact Ow (aT XV q (by simp))
 |int j=>obtain⟨t',rfl⟩:=d;exact ne_int (aT XV q (cM not yW))
 |str j=>obtain⟨t',rfl⟩:=d;exact OE (aT XV q (by simp))
 |_=>exact absurd (show false=true from e) cc
|str i=>
 obtain⟨t,rfl⟩:=f;cases y with
 |ak=>cases d;exact Ox (aT XV q (by simp))
 |bl j=>cases d;exact OB (aT XV q (by simp))
 |int j=>obtain⟨t',rfl⟩:=d;exact OF (aT XV q (by simp))
 |str j=>obtain⟨t',rfl⟩:=d;exact ne_str (aT XV q (cM not yX))
 |_=>exact absurd (show false=true from e) cc
|fy i=>
 obtain⟨t,rfl⟩:=f;cases y with
 |fy j=>obtain⟨t',rfl⟩:=d;exact NM (aT XV q (cM not yV))
 |_=>exact absurd (show false=true from e) cc
|_=>cases y<;>exact absurd (show false=true from e) cc)
theorem d1:bO X (dR .Lt) (d3 λi j=>.bl (decide (i<j))):=pL λ_ _ _ _ _ _ _ q=>D_ q
theorem cv:bO X (dR .LtE) (d3 λi j=>.bl (decide (i<=j))):=pL λ_ _ _ _ _ _ _ q=>le_int q
theorem m6:bO X (dR .Gt) (d3 λi j=>.bl (decide (j<i))):=pL λ_ _ _ _ _ _ _ q=>gt_int q
theorem k8:bO X (dR .GtE) (d3 λi j=>.bl (decide (j<=i))):=pL λ_ _ _ _ _ _ _ q=>ge_int q
theorem Ke:bO X (dR .IsNot) (λx y H Q=>y=.ak/\Q (.bl (!decide (x=.ak))) H):=by(
intro WP s ZB H x y v u Q XV d e h;obtain⟨rfl,q⟩:=h;cases e;refine isnot_none_gen (aT XV q ?_);cases x<;>first
 |(cases d;rfl)
 |(obtain⟨t,rfl⟩:=d;rfl))
theorem li (b:s5) {op:nT}(h:op≠.In:=by decide) (h2:op≠.NotIn:=by decide):kg op b=false:=by(
have d:(op==CmpOp.In)=false:=by cases op<;>first|rfl|exact absurd rfl h
have e:(op==CmpOp.NotIn)=false:=by cases op<;>first|rfl|exact absurd rfl h2
cases b<;>simp[kg,d,e])
theorem p1(g:bO X (dR op) r) (e:PE X a ta) (f:PE X b tb) (hm:kg op b=false):PE X (.Compare a [op] [b] pos) (hZ r ta tb):=by
 intro WP s ZB H Q XV h;exact wpAny_Compare1 (tF e f XV h λv u k x y H2 d i j q=>g WP k ZB H2 x y v u Q d i j q) hm
def rx (t:TE):TT:=λZB H Q=>t ZB H λx I=>∃k,x=.bl k/\Q k I
theorem ga(m:bO X (dR op) r) (j:PE X a ta) (l:PE X b tb) (hm:kg op b=false):PT X (.Compare a [op] [b] pos) (rx (hZ r ta tb)):=by(
intro WP s ZB H Q XV h;refine CM (wP (j WP s ZB H _ XV h) λv A D=>Do D λx H1 f q n=>wP (l WP A ZB H1 _ f n) λu C E=>Do E λy H2 g t o=>
 wP (m WP C ZB H2 x y v u _ g q t o) λc N J=>Do J λz d i w L=>?_) hm
obtain⟨k,e,p⟩:=L;subst e;cases w;exact i2 ⟨d,i,p⟩)
def ro (r f:R2) (ta tb tc:TE):TE:=λZB H Q=>ta ZB H λx H1=>tb ZB H1 λy H2=>r x y H2 λz d=>∃k,z=.bl k/\
 (if k=true then tc ZB d λg e=>f y g e Q else Q (.bl false) d)
theorem p0 {op f:nT}{r l:R2}(C:bO X (dR op) r) (D:bO X (dR f) l) (t:PE X a ta) (w:PE X b tb) (A:PE X c tc)
  (hm:lastMarks [op,f] [b,c]=false:=by with_unfolding_all rfl):PE X (.Compare a [op,f] [b,c] pos) (ro r l ta tb tc):=by(
intro WP s ZB H Q XV h;refine Compare_chain (wP (t WP s ZB H _ XV h) λv Y OM=>Do OM λx H1 o N E=>chain_link (wP (w WP Y ZB H1 _ o E) λu OH ON=>Do ON λy H2 p m J=>
 wP (C WP OH ZB H2 x y v u _ p N m J) λd OI OO=>Do OO λz g i T OQ=>?_)) hm
obtain⟨k,e,j⟩:=OQ;subst e;cases T;refine i2 ?_;cases k with
|false=>exact ite_ff ⟨.bl false,g,i,O,j⟩
|true=>exact ite_tt (chain_last (wP (A WP OI ZB g _ i j) λOK OJ OP=>Do OP λOL n q U L=>D WP OJ ZB n y OL u OK Q q m U L)))
theorem jZ {op f:nT}{r l:R2}(L:bO X (dR op) r) (N:bO X (dR f) l) (D:PE X a ta) (E:PE X b tb) (J:PE X c tc)
  (hm:lastMarks [op,f] [b,c]=false:=by with_unfolding_all rfl):PT X (.Compare a [op,f] [b,c] pos) (rx (ro r l ta tb tc)):=by(
intro WP s ZB H Q XV h;refine isTrue_chain (wP (D WP s ZB H _ XV h) λv ON OT=>Do OT λx H1 p OJ U=>test_link (wP (E WP ON ZB H1 _ p U) λu OO OU=>Do OU λy H2 q m Y=>
 wP (L WP OO ZB H2 x y v u _ q OJ m Y) λd OP OV=>Do OV λz g i OK OY=>?_)) hm
obtain⟨k,e,j⟩:=OY;subst e;cases OK;refine i2 ?_;cases k with
|false=>
 obtain⟨O0,A,T⟩:=j;cases A;exact ite_ff ⟨g,i,T⟩
|true=>
 refine ite_tt (test_last (wP (J WP OP ZB g _ i j) λOR OQ OW=>Do OW λOS n t OL OH=>wP (N WP OQ ZB n y OS u OR _ t m OL OH) λd' O2 OX=>Do OX λO3 o w OM OZ=>?_));obtain⟨O1,C,OI⟩:=OZ;subst C;cases OM;exact i2 ⟨o,w,OI⟩)
theorem pv:(Gc:Nat)<2^63:=by rw[h7];decide
theorem vals1(r:ww [x] us):∃u,us=[u]/\RelV x u:=by(
cases r with
|cons d e=>cases e;exact⟨_,O,d⟩)
theorem vals2(r:ww [x,y] us):∃u d,us=[u,d]/\RelV x u/\RelV y d:=by(
cases r with
|cons e f=>
 cases f with
 |cons g h=>cases h;exact⟨_,_,O,e,g⟩)
theorem yI (e:X.calm=true):hs X (.builtin "min") (λxs H Q=>∃i j,xs=[.int i,.int j]/\Q (.int (if j<i then j else i)) H):=by(
intro WP s ZB H xs us Q XV r h;obtain⟨i,j,rfl,q⟩:=h;obtain⟨u,f,rfl,⟨t,rfl⟩,⟨t',rfl⟩⟩:=vals2 r;refine min_two_ints (XV.ok.hd e) λh' tk k=>⟨_,H,XV.kept k,?_,q⟩;by_cases d:j<i
·rw[No d,No d];exact⟨_,O⟩
·rw[Ps d,Ps d];exact⟨_,O⟩)
end
structure ju (h:s2) (x dx C:WF) (mA:Str->Option Tk):Prop where
 obj:h.get? x=some (i_ C dx)
 ns:h.Ns1 dx mA
 ne:dx≠x
theorem Iq{h:s2}(n:h.Ns1 dx mA):∃b,h.get? dx=some b/\∀name,sk name b=some (mA name):=by(
obtain⟨o,es,ep,g,hd,d,_,hm⟩:=n;refine⟨o,g,λname=>?_⟩;have e:=hm name;unfold nsFind findBy at e;rw[<- Array.find?_toList]at e;unfold sk;rw[hd];dsimp only;split
·rename_i y q;rw[q]at e;exact cM some e
·rename_i q;rw[q]at e;have a:es.toList.any (·.refKey)=false:=by
  rw[List.any_eq_false];intro y i;obtain⟨z,t,f⟩:=d y (l4.mp i);simp[DictEntry.refKey,f]
 have c:¬es.toList.any (·.refKey)=true:=by rw[a];exact cc
 rw[Ps c];exact cM some e)
theorem ju.look(XV:ju h x dx C mA):∃a,NW h x (i_ C dx) C (some a)/\∀name,sk name a=some (mA name):=
 let ⟨a,c,b⟩:=Iq XV.ns
 ⟨a,⟨XV.obj,O,O,c⟩,b⟩
section
variable {prog:fr}{w:g2}{A:bJ}{E:Tk->Go->Prop}{s:Go}{K:wf}{x dx C f:WF}{mA:Str->Option Tk}{name:Str}{v:Tk}
theorem G3(X:K.In s.heap) (XV:ju s.heap x dx C mA) (hg:nU K C name=true) (b:sj K C=true)
  (a:fS K (.ref C) name=some none) (hv:mA name=some v) (d:Dz v=true) (h:Q v {s with toks:=s.toks+1}):
  wpAny (AT prog w) A (wZ (.ref x) name e) Q E s:=by
 obtain⟨g,J,c⟩:=XV.look;exact NG X J (w6 hg).1 (Nx b a rfl (by rw[c,hv])) d h
theorem G4(X:K.In s.heap) (XV:ju s.heap x dx C mA) (hg:nU K C name=true)
  (hf:fS K (.ref C) name=some (some (.ref f))) (b:nV K (.ref f)=true) (hv:mA name=none) (h:Q (.ref f,[.ref x]) s):
  wpAny (AT prog w) A (r' (.ref x) name pl) Q E s:=by
 obtain⟨c,J,a⟩:=XV.look;exact NH X J (w6 hg).1 (w6 hg).2 hf (gu.mp b) (by show(sk name c).map (·.isSome)=some false;rw[a,hv];rfl) h
theorem Mm(X:K.In s.heap) (XV:ju s.heap x dx C mA)
  (n:fS K (.ref C) "__setattr__"=some (some (.builtin "object.__setattr__"))) (m:w9 K C=true) (o:w_ K C name=some none) (k:sj K C=true)
  (hw:wG mA ns) (hsz:ns.length<=Gc)
  (h:∀h',ju h' x dx C (λy=>if y=name then some v else mA y)->lT dx s.heap h'->Q () {s with heap:=h',toks:=s.toks+2}):
  wpAny (AT prog w) A (setAttr (.ref x) name v) Q E s:=by
 obtain⟨H,J,z⟩:=XV.look;refine NI X J n (NN (s:= {s with toks:=s.toks+1}) (r:=none) X J m o λb=>?_);obtain⟨q,e,i⟩:=NO k;have p:s.heap.get? x=some ⟨.ref C,some dx,.plain,#[]⟩:=XV.obj;refine IR (t3 (IR (IR (wpAny_loadPart p (IR (PySem.W.Looks.here (s:= {s with toks:=s.toks+1}) (Ny X e) ?_))))));rw[i];refine t3 (a:=some dx) (IR (t3 (IR ?_)));refine wpAny_nsSet1 (s:= {s with toks:=s.toks+1}) XV.ns λh' c d=>?_;obtain⟨D,u,t,l,j,g⟩:=c.count (PySem.Within.cons name v hw);refine IR (wpAny_lookBehind l (by rw[j];exact pastItsLine_dict (dz g (by rw[bt];lia))) ?_);exact t3 (h _ ⟨(d.2 _ (Ne.symm XV.ne)).trans XV.obj,c,XV.ne⟩ d)
theorem Iw(X:K.In s.heap) (hm:w' K C=true)
  (hi:fS K (.ref C) "__init__"=some (some (.ref f))) (hf:NX K (.ref f)=some (.type "function"))
  (h:codeAny (AT prog w) (A.under (.builtin "type.__call__" ⟨.ref C::vs,a⟩)) (.call (.ref f) ⟨.ref (s.heap.objs.size+1)::vs,a⟩) (NQ (s.heap.objs.size+1) R)
   {s with heap:=(s.heap.push ib).push (i_ C s.heap.objs.size)}):
  codeAny (AT prog w) A (.call (.ref C) ⟨vs,a⟩) R s:=by
 obtain⟨b,g,d,t,os⟩:=s;exact NK (NR X hm) (Nv X hi) (λself=>NV X self hf) (.inl rfl) h
end
noncomputable def rc (f:Str) (v:W1):List (Str×W1)->List (Str×W1)
 |[]=>[(f,v)]
 |(g,x)::r=>if g=f then(g,v)::r else(g,x)::rc f v r
theorem z5 (f g:Str) (v:W1):∀fs:List (Str×W1),(rc f v fs).lookup g=if g=f then some v else fs.lookup g
 |[]=>by
  show jl g [(f,v)]=_;by_cases h:g=f
  ·have a:(g==f)=true:=gu.mpr h;simp only[jl,a,No h]
  ·have a:(g==f)=false:=lK.mpr h;simp only[jl,a,Ps h]
 |(k,x)::r=>by
  have c:=z5 f g v r;rw[show rc f v ((k,x)::r)=(if k=f then(k,v)::r else(k,x)::rc f v r) from rfl];by_cases b:k=f
  ·rw[No b];by_cases h:g=k
   ·have a:(g==k)=true:=gu.mpr h;simp only[jl,a,No (h.trans b)]
   ·have a:(g==k)=false:=lK.mpr h;simp only[jl,a,Ps (λe:g=f=>h (e.trans b.symm))]
  ·rw[Ps b];by_cases h:g=k
   ·have a:(g==k)=true:=gu.mpr h;simp only[jl,a,Ps (λe:g=f=>b (h.symm.trans e))]
   ·have a:(g==k)=false:=lK.mpr h;simp only[jl,a];exact c
theorem uo (f:Str) (v:W1):∀fs:List (Str×W1),f∈(rc f v fs).map (·.1)/\∀g,g∈fs.map (·.1)->g∈(rc f v fs).map (·.1)
 |[]=>⟨by simp[rc],λg h=>by simp at h⟩
 |(k,x)::r=>by
  obtain⟨b,c⟩:=uo f v r;rw[show rc f v ((k,x)::r)=(if k=f then(k,v)::r else(k,x)::rc f v r) from rfl];by_cases a:k=f
  ·rw[No a];subst a;exact⟨by simp,λg h=>by simpa using h⟩
  ·rw[Ps a];refine⟨?_,λg h=>?_⟩
   ·rw[m0];exact o0 _ b
   ·rw[m0]at h⊢;rcases rs.mp h with e|e
    ·exact rs.mpr (.inl e)
    ·exact o0 _ (c g e)
theorem zY (f:Str) (v:W1):∀fs:List (Str×W1),(rc f v fs).length<=fs.length+1
 |[]=>by simp[rc]
 |(k,x)::r=>by
  have b:=zY f v r;rw[show rc f v ((k,x)::r)=(if k=f then(k,v)::r else(k,x)::rc f v r) from rfl];by_cases a:k=f
  ·rw[No a,bt,bt];lia
  ·rw[Ps a,bt,bt];lia
theorem dg.some_of(r:dg (some v) o):∃u,o=some u/\RelV v u:=by(
cases o with
|none=>exact(show False from r).elim
|some u=>exact⟨u,O,r⟩)
theorem dg.none_of(r:dg none o):o=none:=by(
cases o with
|none=>rfl
|some u=>exact(show False from r).elim)
theorem G9(r:RelV v u):Dz u=true:=by(
cases v with
|ak=>cases(show u=Value.none from r);rfl
|bl b=>cases(show u=sD b from r);rfl
|int i=>obtain⟨t,e⟩:=(show ∃t,u=ij i t from r);cases e;rfl
|str x=>obtain⟨t,e⟩:=(show ∃t,u=Value.str x t from r);cases e;rfl
|fy b=>obtain⟨t,e⟩:=(show ∃t,u=DU b t from r);cases e;rfl
|o9 b=>obtain⟨t,e⟩:=(show ∃t,u=DV b t from r);cases e;rfl
|ref a=>cases(show u=em a from r);rfl
|ty n=>cases(show u=DW n from r);rfl)
section
variable {P:fr}{w:g2}{H I:Hp}{h h':s2}{a C dx:WF}{fs kW:List (Str×W1)}
theorem ui (ag:aV P w H h) (e:H a=some (.ins C dx fs)):∃mA,ju h a dx C mA/\(∀f,dg (fs.lookup f) (mA f))/\wG mA (fs.map (·.1))/\fs.length<=1000/\H dx=some (.own a):=by
 obtain⟨d,z,ne,ob,mA,n,r,q⟩:=(show bA P w H h a (.ins C dx fs) from ag a _ e);exact⟨mA,⟨ob,n,ne⟩,r,q,z,d⟩
end
structure cE (K:wf) (C:WF):Prop where
 pg:nU K C D0=true
 hd:sj K C=true
 po:w9 K C=true
 sa:fS K (.ref C) "__setattr__"=some (some (.builtin "object.__setattr__"))
theorem cE.get{K:wf}(c:cE K C) (f:Str):nU K C f=true:=c.pg
def ao (K:wf) (C:WF) (f:Str):Prop:=fS K (.ref C) f=some none
theorem ao.MP{K:wf}(n:ao K C f):w_ K C f=some none:=by
 unfold w_;rw[show fS K (.ref C) f=some none from n];rfl
structure cf (K:wf) (C:WF) (m:Str) (f:WF):Prop where
 at_:fS K (.ref C) m=some (some (.ref f))
 fn:nV K (.ref f)=true
 kp:cV K (.ref f)=true
section
variable {X:Cx}{WP:List (WF×Obj)}{ZB:St}{H:Hp}{s:Go}{a C dx:WF}{fs:List (Str×W1)}{f:Str}{v:W1}{A:bJ}{E:Tk->Go->Prop}
theorem zl(XV:Inv X WP ZB H s) (e:H a=some (.ins C dx fs)) (c:cE X.K C) (n:ao X.K C f) (l:fs.lookup f=some v)
  (h:∀u s',Inv X WP ZB H s'->RelV v u->Q u s'):wpAny (AT X.prog X.w) A (wZ (.ref a) f b) Q E s:=by
 obtain⟨mA,gt,r,_,_,_⟩:=ui XV.ag e;obtain⟨u,hu,d⟩:=dg.some_of (v:=v) (o:=mA f) (by rw[<- l];exact r f);exact G3 XV.dY gt (c.get f) c.hd n hu (G9 d) (h u _ (XV.tok _) d)
theorem zm(XV:Inv X WP ZB H s) (e:H a=some (.ins C dx fs)) (c:cE X.K C) (k:cf X.K C m g) (l:fs.lookup m=none)
  (h:Q (.ref g,[.ref a]) s):wpAny (AT X.prog X.w) A (r' (.ref a) m pl) Q E s:=by
 obtain⟨mA,gt,r,_,_,_⟩:=ui XV.ag e;have b:mA m=none:=dg.none_of (by rw[<- l];exact r m);exact G4 XV.dY gt (c.get m) k.at_ k.fn b h
theorem Bj(XV:Inv X WP ZB H s) (e:H a=some (.ins C dx fs)) (c:cE X.K C) (n:ao X.K C f) (t:fs.length<1000) (m:RelV y u)
  (h:∀s',Inv X WP ZB (Uf H a (.ins C dx (rc f y fs))) s'->Q () s'):wpAny (AT X.prog X.w) A (setAttr (.ref a) f u) Q E s:=by(
obtain⟨mA,gt,r,j,_,i⟩:=ui XV.ag e;have hz:(fs.map (·.1)).length<=Gc:=by rw[FM,h7];lia
refine Mm XV.dY gt c.sa c.po n.MP c.hd j hz λh' d p=>h _ ?_;have hd:∃o,h'.get? dx=some o:=let ⟨o,_,_,k,_⟩:=d.ns;⟨o,k⟩;refine XV.write (x:=a) (e:=dx) (by rw[e];exact True.intro) (.inr i) (λb q l z=>(p.2 b l).trans z) hd ?_;refine⟨by rw[UF gt.ne];exact i,?_,gt.ne,d.obj,_,d.ns,λg=>?_,λg hg=>?_⟩
·have:=zY f y fs;lia
·show dg ((rc f y fs).lookup g) (if g=f then some u else mA g);rw[z5];by_cases q:g=f
 ·rw[No q,No q];exact m
 ·rw[Ps q,Ps q];exact r g
·by_cases q:g=f
 ·rw[q];exact(uo f y fs).1
 ·refine(uo f y fs).2 g (j g λz=>hg ?_);show(if g=f then some u else mA g)=none;rw[Ps q];exact z)
theorem Inv.made (XV:Inv X WP ZB H s):Inv X WP ZB (Uf (Uf H s.heap.objs.size (.own (s.heap.objs.size+1))) (s.heap.objs.size+1) (.ins C s.heap.objs.size []))
  {s with heap:=(s.heap.push ib).push (i_ C s.heap.objs.size)}:=by(
have c:(s.heap.push ib).get? s.heap.objs.size=some ib:=bc s.heap rfl;have g:((s.heap.push ib).push (i_ C s.heap.objs.size)).get? (s.heap.objs.size+1)=some (i_ C s.heap.objs.size):=by
 have:=bc (s.heap.push ib) (o:=i_ C s.heap.objs.size) rfl
 rwa [cU]at this
have h:(s.heap.push ib).Ns s.heap.objs.size (λ_=>none):=⟨ib,#[],_,c,O,(λe i=>absurd i (by simp)),λ_=>rfl⟩;have d:=XV.laid (a:=s.heap.objs.size) (o:=.own (s.heap.objs.size+1)) (h':=s.heap.push ib) (t':=s.toks) (λb u q=>ln _ q) (tz _) ⟨_,c⟩;refine d.laid (a:=s.heap.objs.size+1) (o:=.ins C s.heap.objs.size []) (t':=s.toks) (λb u q=>ln _ q) (kn (cU _ _)) ?_;have ne:s.heap.objs.size≠s.heap.objs.size+1:=cb (so _);refine⟨by rw[UF ne,KE],f4 _,ne,g,λ_=>none,(Heap.Ns1.of_empty h).at λo q=>ln _ q,λ_=>True.intro,λy j=>absurd rfl j⟩)
theorem Ff(b:nO e f env (eval e env)=eval e env)
  (h:wpAny (AT prog w) A (eval e env) (λo c=>wpAny (AT prog w) A (wZ o f true) Q E c) E s):wpAny (AT prog w) A (eval (.Attribute e f pos) env) Q E s:=
 Attribute_any_ h (by rw[arm_eval_Attribute,b])
end
def rq (K:wf) (ta:TE) (f:Str):TE:=λZB H Q=>ta ZB H λx H1=>∃a C dx fs v,x=.ref a/\H1 a=some (.ins C dx fs)/\cE K C/\ao K C f/\fs.lookup f=some v/\Q v H1
def A_ (K:wf) (ta tv:TE) (f:Str):TS:=λD ZB H=>tv ZB H λy H1=>ta ZB H1 λx H2=>∃a C dx fs,x=.ref a/\H2 a=some (.ins C dx fs)/\cE K C/\ao K C f/\fs.length<1000/\
 D.nx ZB (Uf H2 a (.ins C dx (rc f y fs)))
def x7 (X:Cx) (op:wU) (a:W1->W1->Hp->VK->Prop):Prop:=
 ∀(WP:List (WF×Obj)) (s:Go) (ZB:St) (H:Hp) (x y:W1) (u v:Tk) (Q:VK),Inv X WP ZB H s->RelV x u->RelV y v->a x y H Q->wpAny (AT X.prog X.w) X.A (wO op u v) (EP X WP ZB Q) X.xe s
def LO (K:wf) (ta tv:TE) (d:W1->W1->Hp->VK->Prop) (f:Str):TS:=λD ZB H=>ta ZB H λx H1=>∃a C dx fs v,x=.ref a/\H1 a=some (.ins C dx fs)/\cE K C/\ao K C f/\fs.lookup f=some v/\
 tv ZB H1 λy H2=>d v y H2 λz b=>∃c kW,b a=some (.ins C c kW)/\kW.length<1000/\D.nx ZB (Uf b a (.ins C c (rc f z kW)))
section
variable {X:Cx}{o e d7:s5}{f:Str}{pos eN lI:Pos}{ta tv:TE}
theorem wS (j:PE X e ta) (i:nO e f X.env (eval e X.env)=eval e X.env):PE X (.Attribute e f pos) (rq X.K ta f):=by
 intro WP s ZB H Q XV h;refine Ff i (wP (j WP s ZB H _ XV h) λu t p=>Do p λx H1 b m r=>?_);obtain⟨a,C,dx,fs,v,ex,g,c,n,l,q⟩:=r;subst ex;obtain rfl:u=em a:=m;exact zl b g c n l λy w d k=>⟨v,H1,d,k,q⟩
theorem bq (j:PE X o ta) (hv:PE X d7 tv) (k:lO d7 (some (.Attribute o f eN)) pos.line X.env=pure false):PS X (.Assign [.Attribute o f eN] d7 pos) (A_ X.K ta tv f):=by
 intro WP s ZB H D XV h;refine plainObj_wpAny_Assign_Attribute (wP (hv WP s ZB H _ XV h) λu t w=>Do w λy H1 b r q=>wP (j WP t ZB H1 _ b q) λov E z=>Do z λx H2 d p A=>?_) k;obtain⟨a,C,dx,fs,ex,i,c,n,l,m⟩:=A;subst ex;obtain rfl:ov=em a:=p;exact Bj d i c n l r λJ g=>⟨ZB,_,g,m⟩
theorem K0(p:PE X o ta) (hv:PE X d7 tv) (r:x7 X op A):PS X (.AugAssign (.Attribute o f lI) op d7 pos) (LO X.K ta tv A f):=by
 intro WP s ZB H OK XV h;refine wpAny_AugAssign_AttributeAny (wP (p WP s ZB H _ XV h) λov ON Y=>Do Y λx H1 b J OI=>?_);obtain⟨a,C,dx,fs,v,ex,k,c,n,l,q⟩:=OI;subst ex;obtain rfl:ov=em a:=J;refine zl b k c n l λu Q d E=>wP (hv WP Q ZB H1 _ d q) λU T D=>Do D λy H2 g L t=>wP (r WP T ZB H2 v y u U _ g E L t) λOQ OO OH=>Do OH λz OL i N OJ=>?_;obtain⟨OM,kW,m,l',w⟩:=OJ;exact Bj i m c n l' N λOP j=>⟨ZB,_,j,w⟩
def Lb:W1->W1->Hp->VK->Prop:=λx y H Q=>∃i j,x=.int i/\y=.int j/\Q (.int (i+j)) H
theorem Hh:x7 X .Add Lb:=by
 rintro WP s ZB H x y u v Q XV a b ⟨i,j,rfl,rfl,q⟩;obtain⟨t,rfl⟩:=(show ∃t,u=ij i t from a);obtain⟨t',rfl⟩:=(show ∃t',v=ij j t' from b);exact D9 ⟨.int (i+j),H,XV.tok _,⟨_,O⟩,q⟩
end
structure bC (k:Nat) (A:bJ):Prop where
 hd:A.handled=none
 dp:A.depth+3*k+5<C5
 un:A.units+16*k+200<cT
theorem bC.mono {j k:Nat}{A:bJ}(r:bC k A) (h:j<=k:=by decide):bC j A:=⟨r.hd,by have:=r.dp;lia,by have:=r.un;lia⟩
theorem bC.deeper(r:bC (k+1) A) (env:Env):bC k (A.deeper env):=
 ⟨r.hd,by have:=r.dp;show A.depth+1+3*k+5<_;lia,by have:=r.un;show A.units+3+16*k+200<_;lia⟩
theorem Iv{A:bJ}:(A.under (.builtin "type.__call__" ⟨.ref C::us,a⟩)).depth=A.depth+1:=by
 first|rfl|simp[xN,Code.weight,Code.isCreation,Code.isGuard,Code.isCaller,Code.frames,Code.isFrame,guardIds]
theorem Iy{A:bJ}:(A.under (.builtin "type.__call__" ⟨.ref C::us,a⟩)).units=A.units+1:=by
 first|rfl|simp[xN,Code.cUnits,Code.frames,Code.isFrame]
theorem bC.make(r:bC (k+1) A) (C:WF) (us:List Tk) (a:List (Str×Tk)):bC k (A.under (.builtin "type.__call__" ⟨.ref C::us,a⟩)):=
 ⟨r.hd,by have:=r.dp;rw[Iv];lia,by have:=r.un;rw[Iy];lia⟩
theorem bC.depth(r:bC k A):A.depth<C5:=by have:=r.dp;lia
theorem bC.units(r:bC k A):A.units+64<cT:=by have:=r.un;lia
def j7:TA:=λ_ H Q=>Q [] H
def rp (ta:TE) (tr:TA):TA:=λZB H Q=>ta ZB H λx H1=>tr ZB H1 λxs H2=>Q (x::xs) H2
section
variable {X:Cx}{e:s5}{es:List s5}{te:TE}{t:TA}{pos:Pos}
theorem PP:PA X [] j7:=λ_ _ _ _ H Q XV h=>En ⟨[],H,XV,.nil,h⟩
theorem UV (c:PE X e te) (d:PA X es t) (f:al (e::es) X.env=(false,eval e X.env)::al es X.env:=by rfl):PA X (e::es) (rp te t):=by
 intro pos WP s ZB H Q XV h;rw[f];show wpAny _ _ (spliced ((false,eval e X.env)::d9 pos (al es X.env))) _ _ s;refine xJ (wP (c WP s ZB H _ XV h) λu l m=>Do m λx H1 a j g=>?_);exact wP (d pos WP l ZB H1 _ a g) λus o n=>Do n λxs H2 b k i=>⟨x::xs,H2,b,.cons j k,i⟩
def ML (t:TA):TE:=λZB H Q=>t ZB H λxs H1=>xs.length<=Gc/\∀p,H1 p=none->Q (.ref p) (Uf H1 p (.tup xs))
def vL (t:TA):TE:=λZB H Q=>t ZB H λxs H1=>xs.length<=Gc/\∀p,H1 p=none->Q (.ref p) (Uf H1 p (.lst xs))
theorem bX {f} (h:PA X es t):PE X (.Tuple es f pos) (ML t):=by
 intro WP s ZB H Q XV d;refine wpAny_Tuple_spliced (wP (h pos WP s ZB H _ XV d) λus a ⟨xs,H1,c,r,z,q⟩=>⟨by rw[<- r.length];exact z,?_⟩);have hf:H1 a.heap.objs.size=none:=c.ag.fresh (tz _);refine⟨.ref a.heap.objs.size,Uf H1 a.heap.objs.size (.tup xs),c.laid (t':=a.toks) (λb u e=>ln _ e) (tz _) ?_,O,q _ hf⟩;exact⟨z,us,r,⟨_,bc _ rfl,O,_,O⟩⟩
theorem db (h:PA X es t):PE X (.List es pos) (vL t):=by
 intro WP s ZB H Q XV d;refine wpAny_List_spliced (wP (h pos WP s ZB H _ XV d) λus a ⟨xs,H1,c,r,z,q⟩=>⟨by rw[<- r.length];exact z,?_⟩);have hf:H1 a.heap.objs.size=none:=c.ag.fresh (tz _);refine⟨.ref a.heap.objs.size,Uf H1 a.heap.objs.size (.lst xs),c.laid (t':=a.toks) (λb u e=>ln _ e) (tz _) ?_,O,q _ hf⟩;exact⟨z,us,0,r,bc _ rfl⟩
end
abbrev Sp:=List W1->Hp->VK->XK->Prop
abbrev kB:=List Env->Hp->Go->XK->Tk->Go->Prop
structure jn (P:fr) (w:g2) (K:wf) (mg:Str->Option Tk) (base:s2) (A:bJ) (outer:List Env) (s:Go) (H:Hp):Prop where
 frames:A.frames=some outer
 mod:Mod K mg base
 bs:∀b o,base.get? b=some o->s.heap.get? b=some o/\H b=none
 hE:base.objs.size<=s.heap.objs.size
 fC:s.heap.FunFrames base outer
 jI:∀b∈gg outer,H b=none
 ag:aV P w H s.heap
 bare:jd s.gens
def CE (outer:List Env) (P:fr) (w:g2) (H:Hp) (s:Go) (Q:VK) (u:Tk) (s':Go):Prop:=
 ∃v I,s'.os=s.os/\jd s'.gens/\Un (gg outer) [] H I s.heap s'.heap/\aV P w I s'.heap/\RelV v u/\Q v I
def CR (CX:kB) (outer:List Env) (P:fr) (w:g2) (H:Hp) (s:Go) (Q:VK) (E:XK) (r:Result) (s':Go):Prop:=
 match r with
 |.ok (.ret u)=>CE outer P w H s Q u s'
 |.ok _=>False
 |.error e=>CX outer H s E e s'
structure AC (P:fr) (w:g2) (K:wf) (mg:Str->Option Tk) (base:s2) (CX:kB) (k:Nat) (f:WF) (fd:lP) (ps:List Str) (sp:Sp):Prop where
 len:∀vs H Q E,sp vs H Q E->vs.length=ps.length
 run:∀(A:bJ) (outer:List Env) (s:Go) (H:Hp) (args:Args) (us:List Tk) (vs:List W1) (Q:VK) (E:XK),bC k A->jn P w K mg base A outer s H->nQ s fd args (ps.zip us)->ww vs us->sp vs H Q E->
  codeAny (AT P w) A (.call (.ref f) args) (CR CX outer P w H s Q E) s
theorem jn.make{K:wf}(e:jn P w K mg base A outer s H) (C:WF) (us:List Tk) (a:List (Str×Tk)):
  jn P w K mg base (A.under (.builtin "type.__call__" ⟨.ref C::us,a⟩)) outer s H:=⟨by first|exact e.frames|(simpa [xN,Code.envs,Code.isFrame,pushEnvs]using e.frames),e.mod,e.bs,e.hE,e.fC,e.jI,e.ag,e.bare⟩
section
variable {X:Cx}{WP:List (WF×Obj)}{ZB:St}{H:Hp}{s s':Go}
theorem Inv.y5 (XV:Inv X WP ZB H s):jn X.prog X.w X.K X.mg X.base X.A X.stack s H:=
 ⟨XV.ok.frames,XV.ok.mod,XV.bs,dz XV.ok.hE XV.sz,XV.stack,XV.Bt,XV.ag,XV.bare⟩
theorem Inv.after(XV:Inv X WP ZB H s) (h:CE X.stack X.prog X.w H s Q u s'):EP X WP ZB Q u s':=by
 obtain⟨v,I,os,bare,un,ag,r,q⟩:=h;obtain⟨a,g,d,t,c⟩:=s';obtain rfl:c=s.os:=os;exact⟨v,I,XV.call (h':=a) (g':=g) (d':=d) (t':=t) (ch:=[]) un ag bare (λb z=>absurd z (by simp)),r,q⟩
end
def MB (sp:Sp) (cg:List W1) (E:XK) (t:TA):TE:=λZB H Q=>t ZB H λvs H1=>sp (vs++cg) H1 Q E
def vM (C:WF) (m:Str) (sp:Sp) (cg:List W1) (E:XK) (ta:TE) (t:TA):TE:=λZB H Q=>ta ZB H λx H1=>∃a dx fs,x=.ref a/\H1 a=some (.ins C dx fs)/\fs.lookup m=none/\
 t ZB H1 λvs H2=>sp (x::(vs++cg)) H2 Q E
def BC (C:WF) (sp:Sp) (cg:List W1) (E:XK) (t:TA):TE:=λZB H Q=>t ZB H λvs H1=>∀x dx,H1 x=none->H1 dx=none->dx≠x->
 sp (.ref x::(vs++cg)) (Uf (Uf H1 dx (.own x)) x (.ins C dx [])) (λv H2=>v=.ak/\Q (.ref x) H2) E
def Binds (K:wf) (fd:lP) (ps:List Str) (ds:List Tk):Prop:=
 ∀(s:Go) (us:List Tk),K.In s.heap->(us++ds).length=ps.length->nQ s fd ⟨us,[]⟩ (ps.zip (us++ds))
theorem Binds.all{K:wf}(h:∀us:List Tk,us.length=ps.length->wV fd ⟨us,[]⟩=pure (ps.zip us)):Binds K fd ps []:=λs us _ a=>by
 rw[fm]at a⊢;exact .of_eq (h us a)
def iy (CX:kB) (X:Cx) (E:XK):Prop:=∀(WP:List (WF×Obj)) (ZB:St) (H:Hp) (s:Go) (e:Tk) (s':Go),Inv X WP ZB H s->CX X.stack H s E e s'->X.xe e s'
section
variable {X:Cx}{CX:kB}{k:Nat}{f C:WF}{fd:lP}{ps:List Str}{sp:Sp}{cg:List W1}{ds:List Tk}{E:XK}{x m:Str}{p pos dA:Pos}{e o:s5}{es:List s5}{ta:TE}{t:TA}
theorem u'{ZB:St}(F:AC X.prog X.w X.K X.mg X.base CX k f fd ps sp) (g:bC k X.A) (c:Binds X.K fd ps ds) (hd:ww cg ds) (i:iy CX X E)
  (XV:Inv X WP ZB H s) (r:ww vs us) (h:sp (vs++cg) H Q E):wpAny (AT X.prog X.w) X.A (call (.ref f) us) (EP X WP ZB Q) X.xe s:=by(
have b:ww (vs++cg) (us++ds):=r.append hd;have d:(us++ds).length=ps.length:=by rw[<- b.length];exact F.len _ _ _ _ h
refine Dn (r6 (F.run X.A X.stack s H ⟨us,[]⟩ (us++ds) (vs++cg) Q E g XV.y5 (c s us XV.dY d) b h) λr s' a=>?_);cases r with
|error e=>exact i WP ZB H s e s' XV a
|ok fl=>
 cases fl with
 |ret u=>exact XV.after a
 |next=>exact ef a
 |brk=>exact ef a
 |cont=>exact ef a)
theorem ge (F:AC X.prog X.w X.K X.mg X.base CX k f fd ps sp) (l:bC k X.A) (hg:Gl X x) (hm:X.mg x=some (.ref f)) (i:cV X.K (.ref f)=true) (c:Binds X.K fd ps ds) (hd:ww cg ds) (n:iy CX X E)
  (b:PA X (e::es) t) (d:(x==("__debug__":Str))=false:=by decide) (g:al (e::es) X.env=(false,eval e X.env)::al es X.env:=by rfl) (j:(d9 pos (al es X.env)).any (·.1)=false:=by rfl):
  PE X (.Call (.Name x p) (e::es) [] pos) (MB sp cg E t):=by
 intro WP s ZB H Q XV h;refine nI (mQ XV hg hm ?_ d);refine w7 (h₀:=X.base) XV.ok.mod.mO i (wP (b pos WP s ZB H _ XV h) λus y u=>Do u λvs H1 a r q=>⟨a.dY,?_⟩) g j;exact u' F l c hd n a r q
theorem aA {pl:Sem Bool}(n:PE X o ta) (c:cE X.K C) (hm:cf X.K C m f) (F:AC X.prog X.w X.K X.mg X.base CX k f fd ps sp) (z:bC k X.A) (j:Binds X.K fd ps ds) (hd:ww cg ds) (L:iy CX X E) (i:PA X (e::es) t)
  (D:al (e::es) X.env=(false,eval e X.env)::al es X.env:=by rfl) (y:(d9 pos (al es X.env)).any (·.1)=false:=by rfl)
  (J:eval (.Call (.Attribute o m dA) (e::es) [] pos) X.env=(do
   let ov <-eval o X.env
   se dA.atName
   let (f,first) <-ki [ov] (r' ov m pl)
   callWith pos f first (d9 pos (al (e::es) X.env)) (sd pos (r8 [] X.env))):=by rfl):
  PE X (.Call (.Attribute o m dA) (e::es) [] pos) (vM C m sp cg E ta t):=by
 intro WP s ZB H Q XV h;refine Dx (pl:=pl) (wP (n WP s ZB H _ XV h) λu U Y=>Do Y λx H1 b T OI=>?_) J;obtain⟨a,dx,fs,ex,g,l,q⟩:=OI;subst ex;obtain rfl:u=em a:=T;refine zm b g c hm l ?_;refine w7 (first:=[.ref a]) (h₀:=X.base) XV.ok.mod.mO hm.kp (wP (i pos WP U ZB H1 _ b q) λus OJ OH=>Do OH λvs H2 d r N=>⟨d.dY,?_⟩) D y;exact u' (us:=.ref a::us) (vs:=.ref a::vs) F z j hd L d (.cons rfl r) N
theorem lg {pl:Sem Bool}(i:PE X o ta) (c:cE X.K C) (hm:cf X.K C m f) (F:AC X.prog X.w X.K X.mg X.base CX k f fd ps sp) (j:bC k X.A) (g:Binds X.K fd ps ds) (hd:ww cg ds) (r:iy CX X E)
  (n:eval (.Call (.Attribute o m dA) [] [] pos) X.env=(do
   let ov <-eval o X.env
   se dA.atName
   let (f,first) <-ki [ov] (r' ov m pl)
   callWith pos f first (d9 pos (al [] X.env)) (sd pos (r8 [] X.env))):=by rfl):
  PE X (.Call (.Attribute o m dA) [] [] pos) (vM C m sp cg E ta j7):=by
 intro WP s ZB H Q XV h;refine Dx (pl:=pl) (wP (i WP s ZB H _ XV h) λu J z=>Do z λx H1 b y D=>?_) n;obtain⟨a,dx,fs,ex,d,l,q⟩:=D;subst ex;obtain rfl:u=em a:=y;refine zm b d c hm l ?_;exact Dy (first:=[.ref a]) b.dY hm.kp (u' (us:=[.ref a]) (vs:=[.ref a]) F j g hd r b (.cons rfl .nil) q)
structure Mk (K:wf) (C f:WF):Prop where
 makes:w' K C=true
 init:fS K (.ref C) "__init__"=some (some (.ref f))
 fn:nV K (.ref f)=true
 kp:cV K (.ref C)=true
theorem A6{ZB:St}(TW:Mk X.K C f) (F:AC X.prog X.w X.K X.mg X.base CX k f fd ps sp) (n:bC (k+1) X.A) (j:Binds X.K fd ps ds) (hd:ww cg ds)
  (q:iy CX X E) (XV:Inv X WP ZB H s) (r:ww vs us)
  (h:∀x dx,H x=none->H dx=none->dx≠x->sp (.ref x::(vs++cg)) (Uf (Uf H dx (.own x)) x (.ins C dx [])) (λv H2=>v=.ak/\Q (.ref x) H2) E):
  wpAny (AT X.prog X.w) X.A (call (.ref C) us) (EP X WP ZB Q) X.xe s:=by(
have c:=h (s.heap.objs.size+1) s.heap.objs.size (XV.ag.fresh (ie _)) (XV.ag.fresh (tz _)) (cb (so _));have b:=Inv.made (C:=C) XV;have d:ww (W1.ref (s.heap.objs.size+1)::(vs++cg)) (em (s.heap.objs.size+1)::(us++ds)):=.cons rfl (r.append hd);have l:(em (s.heap.objs.size+1)::us++ds).length=ps.length:=by
 have e:=d.length;rw[F.len _ _ _ _ c]at e;exact e.symm
refine Dn (Iw (f:=f) XV.dY TW.makes TW.init (gu.mp TW.fn) (r6 (F.run _ X.stack _ _ ⟨em (s.heap.objs.size+1)::us,[]⟩ (em (s.heap.objs.size+1)::(us++ds)) _ _ E (n.make C us [])
 (b.y5.make C us []) (j _ (em (s.heap.objs.size+1)::us) b.dY l) d c) λr s' a=>?_))
cases r with
|error e=>exact q WP ZB _ _ e s' b a
|ok fl=>
 cases fl with
 |ret u=>
  obtain⟨v,I,g,z,i,y⟩:=b.after a;subst i;exact⟨z,⟨W1.ref (s.heap.objs.size+1),I,g,O,y⟩⟩
 |next=>exact ef a
 |brk=>exact ef a
 |cont=>exact ef a)
theorem hN (TW:Mk X.K C f) (F:AC X.prog X.w X.K X.mg X.base CX k f fd ps sp) (j:bC (k+1) X.A) (hg:Gl X x) (hm:X.mg x=some (.ref C)) (c:Binds X.K fd ps ds) (hd:ww cg ds) (l:iy CX X E)
  (b:PA X (e::es) t) (d:(x==("__debug__":Str))=false:=by decide) (g:al (e::es) X.env=(false,eval e X.env)::al es X.env:=by rfl) (i:(d9 pos (al es X.env)).any (·.1)=false:=by rfl):
  PE X (.Call (.Name x p) (e::es) [] pos) (BC C sp cg E t):=by
 intro WP s ZB H Q XV h;refine nI (mQ XV hg hm ?_ d);refine w7 (h₀:=X.base) XV.ok.mod.mO TW.kp (wP (b pos WP s ZB H _ XV h) λus u n=>Do n λvs H1 a r q=>⟨a.dY,?_⟩) g i;exact A6 TW F j c hd l a r q
theorem KI (TW:Mk X.K C f) (F:AC X.prog X.w X.K X.mg X.base CX k f fd ps sp) (c:bC (k+1) X.A) (hg:Gl X x) (hm:X.mg x=some (.ref C)) (a:Binds X.K fd ps ds) (hd:ww cg ds) (d:iy CX X E)
  (b:(x==("__debug__":Str))=false:=by decide):PE X (.Call (.Name x p) [] [] pos) (BC C sp cg E j7):=by
 intro WP s ZB H Q XV h;refine nI (mQ XV hg hm ?_ b);exact Dy XV.dY TW.kp (A6 (us:=[]) TW F c a hd d XV .nil h)
end
structure pu (N P:List Str) (a:d_):Prop where
 kind:a.kind=.function
 co:a.isCoroutine=false
 gen:a.isGenerator=false
 nd:N.Nodup
 pre:N.take P.length=P
 par:∀x∈P,a.names.lookup x=some .local\/a.names.lookup x=some .cell
 I_:∀y∈a.names,y.2≠.free
theorem yx{kindOf:Str->Option d8}:∀ {binds:List (Str×Tk)}{m:Str->Option Tk},(∀v,(x,v)∉binds)->i8 kindOf binds m x=m x
 |[],_,_=>rfl
 |(n,v)::r,m,h=>by
  unfold i8;rw[yx λw hw=>h w (o0 _ hw)];split
  ·have:x≠n:=by rintro rfl;exact h v kw
   simp[this]
  ·rfl
theorem yv{kindOf:Str->Option d8}:∀ {binds:List (Str×Tk)}{m:Str->Option Tk},(∀v,(x,v)∉binds)->i9 kindOf binds m x=m x
 |[],_,_=>rfl
 |(n,v)::r,m,h=>by
  unfold i9;rw[yv λw hw=>h w (o0 _ hw)];split
  ·rfl
  ·have:x≠n:=by rintro rfl;exact h v kw
   simp[this]
theorem yw{kindOf:Str->Option d8}:∀ {P:List Str}{vs:List Tk}{i:Nat}{m:Str->Option Tk},P.Nodup->P[i]?=some x->vs[i]?=some v->kindOf x=some .local->
  i8 kindOf (P.zip vs) m x=some v
 |[],_,_,_,_,h,_,_=>by simp at h
 |_::_,[],_,_,_,_,h,_=>by simp at h
 |p::P,w::vs,0,m,nd,h1,h2,a=>by
  simp at h1 h2;subst h1;subst h2;show i8 kindOf ((p,w)::P.zip vs) m p=_;unfold i8;rw[yx λv hv=>(iq.mp nd).1 (wq hv).1,No a];simp
 |p::P,w::vs,i+1,m,nd,h1,h2,a=>by
  show i8 kindOf ((p,w)::P.zip vs) m x=_;unfold i8;exact yw (i:=i) (iq.mp nd).2 (by simpa using h1) (by simpa using h2) a
theorem yu{kindOf:Str->Option d8}:∀ {P:List Str}{vs:List Tk}{i:Nat}{m:Str->Option Tk},P.Nodup->P[i]?=some x->vs[i]?=some v->kindOf x≠some .local->
  i9 kindOf (P.zip vs) m x=some v
 |[],_,_,_,_,h,_,_=>by simp at h
 |_::_,[],_,_,_,_,h,_=>by simp at h
 |p::P,w::vs,0,m,nd,h1,h2,a=>by
  simp at h1 h2;subst h1;subst h2;show i9 kindOf ((p,w)::P.zip vs) m p=_;unfold i9;rw[yv λv hv=>(iq.mp nd).1 (wq hv).1,Ps a];simp
 |p::P,w::vs,i+1,m,nd,h1,h2,a=>by
  show i9 kindOf ((p,w)::P.zip vs) m x=_;unfold i9;exact yu (i:=i) (iq.mp nd).2 (by simpa using h1) (by simpa using h2) a
noncomputable def start (N:List Str) (vs:List W1):St:=vs.map some++f8 (N.length-vs.length) none
noncomputable def jE (CX:kB) (P:fr) (w:g2) (K:wf) (mg:Str->Option Tk) (base:s2) (N:List Str) (b:Str) (scope:d_) (f:WF) (a:Tk) (A:bJ) (outer:List Env) (s:Go) (H:Hp) (E:XK):Cx where
 prog:=P
 w:=w
 K:=K
 mg:=mg
 base:=base
 A:=A.deeper (hl b scope s.heap.objs.size f a)
 N:=N
 dt:=s
 jo:=H
 env:=hl b scope s.heap.objs.size f a
 outer:=outer
 stack:=hl b scope s.heap.objs.size f a::outer
 ex:=[]
 calm:=true
 fn:=λ_=>true
 pn:=[]
 xe:=λe s'=>wpAny (AT P w) (A.deeper (hl b scope s.heap.objs.size f a)) (leaving (hl b scope s.heap.objs.size f a) e) (λ_ c=>CX outer H s E e c) (λd c=>CX outer H s E d c) s'
theorem yL{a:d_}(h:a.names.lookup x=some .cell):∃c,(cJ n a.names []).lookup x=some c:=by
 have q:=Dw a.names n [] (.inl h);exact DL.mp q
theorem Hn{K:wf}
  (S:pu N ps scope) (hd:A.handled=none) (d:jn P w K mg base A outer s H) (T:vs.length=ps.length) (r:ww vs us)
  (x:InCallC s s.heap.objs.size (i8 (hl o scope s.heap.objs.size f l).kindOf (ps.zip us) λ_=>none) (cJ (s.heap.objs.size+1) scope.names []) (i9 (hl o scope s.heap.objs.size f l).kindOf (ps.zip us) λ_=>none) L):
  Inv (jE CX P w K mg base N o scope f l A outer s H E) [] (start N vs) H L:=by(
have U:ps.length<=N.length:=by have:=cM cC S.pre;rw[aP]at this;lia
obtain⟨h1,tk,rfl,t⟩:=x.done;have m:∀b:WF,b∉(jE CX P w K mg base N o scope f l A outer s H E).ex:=λb z=>absurd (show b∈([]:List WF) from z) (by simp);refine⟨⟨d.mod,S.kind,O,O,tz _,λy z c h1 h2=>?_,λy g=>?_,λy c _ h=>?_,λ_=>hd,Around.frames_deeper d.frames,.inr ⟨O,O⟩,λb z=>absurd z (m b),d.bs,d.hE,λb _ _=>m b,λb z=>absurd z (m b),d.fC,d.jI⟩,
 rfl,d.bare,Un.kept t,⟨_,x.toInCall.ns,λi y v h1 h2 Q=>?_⟩,λy c h=>⟨_,x.cell y c h⟩,d.ag.fresh (tz _),λy c h=>?_,λp j=>absurd (show p∈([]:List (WF×Obj)) from j) (by simp),d.ag.kept t,?_⟩
·exact name_of_addr x.apart (eA h1) (eA h2)
·have g:scope.names.lookup y=some .cell\/scope.names.lookup y=some .free:=g;rcases g with g|g
 ·exact yL g
 ·exact absurd rfl (S.I_ _ (eA g))
·exact ed (x.above y c (eA h))
·have hi:i<vs.length:=by
  unfold start at h2;by_cases hi:i<vs.length
  ·exact hi
  ·rw[oq (by simpa using hi)]at h2;rw[ou]at h2;split at h2<;>cases h2
 have D:vs[i]?=some v:=by
  unfold start at h2;rw[ot (by simpa using hi),pr]at h2;cases e:vs[i]? with
  |none=>rw[e]at h2;cases h2
  |some a=>rw[e]at h2;cases h2;rfl
 obtain⟨u,hu,J⟩:=r.get D;have j:ps[i]?=some y:=by
  rw[<- S.pre,Cd (by lia)];exact h1
 have C:ps.Nodup:=by rw[<- S.pre];exact S.nd.sublist (List.take_sublist _ _)
 refine⟨u,J,?_⟩;rcases S.par y (pi j)with k|k
 ·exact .inl ⟨k,yw C j hu k⟩
 ·obtain⟨c,e⟩:=yL (n:=s.heap.objs.size+1) k;refine .inr ⟨.inl k,c,e,?_⟩;have q:=x.cell y c e;rw[yu C j hu (by show scope.names.lookup y≠_;rw[k];decide)]at q;exact q
·exact d.ag.fresh (ed (x.above y c (eA h)))
·unfold start;show _=N.length;rw[ls,FM,List.length_replicate];lia)
theorem GP{K:wf}{kV:Tk}(lk:K.lookup f=some ⟨OO,OP,.func (fT name d params body scope C kV D ON z a ct),OQ⟩) (U:lU K a d=true) (S:pu N ps scope)
  (len:∀vs H Q E,sp vs H Q E->vs.length=ps.length)
  (T:∀(A:bJ) (outer:List Env) (s:Go) (H:Hp) (vs:List W1) (Q:VK) (E:XK),bC k (A.deeper (hl d scope s.heap.objs.size f a))->sp vs H Q E->
   ∃t,eF (jE CX P w K mg base N d scope f a A outer s H E) body t/\t {nx:=λ_ I=>Q .ak I,rt:=Q} (start N vs) H):
  AC P w K mg base CX (k+1) f (fT name d params body scope C kV D ON z a ct) ps sp:=by(
refine⟨len,λA outer s H args us vs Q E i g L r m=>?_⟩;have OI:=len _ _ _ _ m;have l:K.In s.heap:=g.mod.mO.keeps λb o e=>(g.bs b o e).1;have OM:s.heap.NoLimit:=g.mod.nolimit.keeps λb o e=>(g.bs b o e).1;have OH:∀y∈ps.zip us,scope.names.lookup y.1=some .local\/(scope.names.lookup y.1=some .cell/\((cJ (s.heap.objs.size+1) scope.names []).lookup y.1).isSome=true):=λ⟨n,v⟩ OL=>by
 rcases S.par n (wq OL).1 with q|q
 ·exact .inl q
 ·exact .inr ⟨q,Dw _ _ _ (.inl q)⟩
refine codeAny_call_function i.depth (l _ _ lk) rfl S.co S.gen rfl (NA l U) (L _ _ _ _ ?_);refine wpAny_newFunctionEnv_cells S.kind OH λenv Y p x=>?_;subst Y;refine⟨OM.keeps x.toInCall.keep,codeAny_func ?_⟩;obtain⟨t,OK,OJ⟩:=T A outer s H vs Q E (i.deeper _) m;have XV:Inv (jE CX P w K mg base N d scope f a A outer s H E) [] (start N vs) H p:=Hn S i.hd g OI r x;refine eT (OK [] p (start N vs) H _ XV OJ) (λfl s' c=>?_) λe s' c=>c;have fin:∀ {h:St}{I:Hp}{v:W1}{u:Tk},Inv (jE CX P w K mg base N d scope f a A outer s H E) [] h I s'->RelV v u->Q v I->CE outer P w H s Q u s':=
 λ{h I v u} J j q=>⟨v,I,J.os,J.bare,J.base,J.ag,j,q⟩
cases fl with
|ret u=>
 obtain⟨v,h,I,J,j,q⟩:=c;exact fin J j q
|next=>
 obtain⟨h,I,J,q⟩:=c;exact fin (v:=W1.ak) (u:=Value.none) J rfl q
|brk=>
 obtain⟨_,_,_,q⟩:=c;exact ef q
|cont=>
 obtain⟨_,_,_,q⟩:=c;exact ef q)
section
variable {X:Cx}{x:Str}{p pos:Pos}{e:s5}{es:List s5}{t:TA}{id T:String}{r:List W1->Hp->VK->Prop}
def BA (r:List W1->Hp->VK->Prop) (t:TA):TE:=λZB H Q=>t ZB H λvs H1=>r vs H1 Q
theorem a0 (c:hs X (.builtin id) r) (hg:Gl X x) (hm:X.mg x=none) (hv:lL x=some (.builtin id)) (b:PA X (e::es) t) (g:x≠ "__name__":=by decide) (d:(x==("__debug__":Str))=false:=by decide)
  (f:al (e::es) X.env=(false,eval e X.env)::al es X.env:=by rfl) (i:(d9 pos (al es X.env)).any (·.1)=false:=by rfl):PE X (.Call (.Name x p) (e::es) [] pos) (BA r t):=by
 intro WP s ZB H Q XV h;refine nI (k1 XV hg hm hv ?_ g d);exact N' (wP (b pos WP s ZB H _ XV h) λus l m=>Do m λvs H1 a k j=>c WP l ZB H1 vs us Q a k j) f i
theorem pZ (c:hs X (.type T) r) (hg:Gl X x) (hm:X.mg x=none) (hv:lL x=some (.type T)) (b:PA X (e::es) t) (g:x≠ "__name__":=by decide) (d:(x==("__debug__":Str))=false:=by decide)
  (f:al (e::es) X.env=(false,eval e X.env)::al es X.env:=by rfl) (i:(d9 pos (al es X.env)).any (·.1)=false:=by rfl):PE X (.Call (.Name x p) (e::es) [] pos) (BA r t):=by
 intro WP s ZB H Q XV h;refine nI (k1 XV hg hm hv ?_ g d);exact od (wP (b pos WP s ZB H _ XV h) λus l m=>Do m λvs H1 a k j=>c WP l ZB H1 vs us Q a k j) f i
end
end L2
namespace HT
open PySem PyProof.Rows
noncomputable def lexLt:List Int->List Int->Bool
 |[],[]=>false
 |[],_::_=>true
 |_::_,[]=>false
 |x::xs,y::ys=>if x=y then lexLt xs ys else decide (x<y)
theorem k2 (x y:Int) (xs ys:List Int):lexLt (x::xs) (y::ys)=if x=y then lexLt xs ys else decide (x<y):=rfl
theorem z0:lexLt [] []=false:=rfl
theorem Io (y:Int) (ys:List Int):lexLt [] (y::ys)=true:=rfl
theorem Im (x:Int) (xs:List Int):lexLt (x::xs) []=false:=rfl
theorem F8 (A:bJ) (s:Go) (a:Int) (t:Tok) (c:Int) (u:Tok):∃e,SeqAt.EqAt A s (.int a t) (.int c u) e/\(e=true↔a=c):=
 ⟨(a==c),SeqAt.EqAt.int_int a t c u,by simp⟩
theorem Ln (A:bJ) (s:Go) (a:Int) (t:Tok) (c:Int) (u:Tok) (prog:fr) (w:g2) (E:Tk->Go->Prop) (Q:Tk->Go->Prop) (h:Q (.bool (decide (a<c))) s):
  wpAny (AT prog w) A (wH .Lt (.int a t) (.int c u)) Q E s:=
 (D_ h:wpAny (AT prog w) A (dR .Lt (.int a t) (.int c u)) Q E s)
section
open PySem.SeqAt
open PySem.AutoSeq1 (wpAny_loadPart')
open PySem.MeetsSeq PySem.MeetsSeq2 PySem.MeetsSeq3
theorem MT (l b:WF) (i j:Array Tk) (n n2:Nat) (J L:Option WF) (OM ON:Array (Option Tk)) (ns ms:List Int) (hi:cD i.toList ns) (H:cD j.toList ms):
  Meets (h8.«tuple.__lt__» ⟨[.ref l,.ref b],[]⟩)
   (λ_ R s=>s.heap.get? l=some {cls:=.type "tuple",dict:=J,data:=.seq i n,slots:=OM}/\s.heap.get? b=some {cls:=.type "tuple",dict:=L,data:=.seq j n2,slots:=ON}/\
    R (.ok (.ret (.bool (lexLt ns ms)))) s):=
 .of_wp λprog w A R s h=>by
  obtain⟨p,g,d,tk,os⟩:=s;obtain⟨T,N,h⟩:=h;have OQ:=AutoSeq1.sub_tuple_tuple;have OR:i.size=ns.length:=by rw[<- hi.length];simp
  have OS:j.size=ms.length:=by rw[<- H.length];simp
  wp_walk using wpAny_loadPart' T,wpAny_loadPart' N,wpAny_forIn_list _ (λd4 b s'=>b.1=none/\s'=⟨p,g,d,tk,os⟩/\∃(vs z:List Tk) (m k:List Int),d4=vs.zip z/\
   cD vs m/\cD z k/\m.length+j.size=k.length+i.size/\R (.ok (.ret (.bool (lexLt m k)))) ⟨p,g,d,tk,os⟩) _
  case turn=>
   rintro⟨y,x⟩ d4 b s' ⟨C,rfl,vs,z,m,k,hz,D,r,o,f⟩;cases D with
   |nil=>rw[List.zip_nil_left]at hz;cases hz
   |cons a t OH=>
    cases r with
    |nil=>rw[List.zip_nil_right]at hz;cases hz
    |cons c u OI=>
     rw[oC]at hz;injection hz with OL U;injection OL with OK OJ;subst OK OJ;rw[k2]at f;simp only[bt]at o;obtain⟨e,Q,E⟩:=F8 A.in1 ⟨p,g,d,tk,os⟩ a t c u;refine IR (Q prog w _ _ ?_);cases e with
     |true=>
      rw[No (E.mp rfl)]at f
      wp_walk
      exact⟨O,O,_,_,_,_,U,OH,OI,by lia,f⟩
     |false=>
      rw[Ps (λq=>absurd (E.mpr q) cc)]at f;have Y:=Ln A.in1 ⟨p,g,d,tk,os⟩ a t c u prog w
      wp_walk using Y
      exact⟨_,O,by simpa using f⟩
  case fin=>
   rintro⟨OO,OP⟩ s' ⟨C,rfl,vs,z,m,k,hz,D,r,o,f⟩;simp only at C;subst C;have hv:lexLt m k=decide (i.size<j.size):=by
    cases D with
    |nil=>
     cases r with
     |nil=>
      simp only[ky]at o;rw[z0];exact(sn (by lia)).symm
     |cons c u hw=>
      simp only[ky,bt]at o;rw[Io];exact(sK (by lia)).symm
    |cons a t hv=>
     cases r with
     |nil=>
      simp only[ky,bt]at o;rw[Im];exact(sn (by lia)).symm
     |cons c u hw=>
      rw[oC]at hz;cases hz
   rw[hv]at f
   wp_walk
   exact⟨_,O,by simpa [Builtin.Tuple.tupleCompareSizes]using f⟩
  case h=>
   exact⟨O,O,i.toList,j.toList,ns,ms,O,hi,H,by lia,h⟩
end
section
variable {prog:fr}{w:g2}{A:bJ}{E:Tk->Go->Prop}{s:Go}
theorem z6(p:jf s.heap l g) (m:jf s.heap b i) (hi:cD g.toList ns) (o:cD i.toList ms)
  (hu:A.units<cT) (h:Q (.bool (lexLt ns ms)) s):wpAny (AT prog w) A (dR .Lt (.ref l) (.ref b)) Q E s:=by(
obtain⟨⟨cls,j,data,q⟩,e,a,n,hd⟩:=id p;obtain⟨⟨t,k,data2,r⟩,f,c,n2,d⟩:=id m;simp only at a hd c d;subst a hd c d;exact richCompare_meets_room (op:=.Lt) ⟨_,e,O⟩ ⟨_,f,O⟩ N5 N4 (N3 _ _) (MT l b g i n n2 j k q r ns ms hi o)
 ⟨e,f,show sD (lexLt ns ms)≠Value.notImplemented/\Q (.bool (lexLt ns ms)) s from⟨(λx=>nomatch x),h⟩⟩ hu)
noncomputable def dM (n d:Nat):Option Int->Nat
 |none=>d
 |some v=>if v<0 then(v+(n:Int)).toNat else min v.toNat n
theorem A' (n d:Nat):dM n d none=d:=rfl
theorem qB (n d k:Nat):dM n d (some (k:Int))=min k n:=by
 show(if(k:Int)<0 then((k:Int)+(n:Int)).toNat else min (k:Int).toNat n)=min k n;rw[Ps (by lia),ee]
end
end HT
namespace L2
open PySem PySem.Spec PyProof.Rows
abbrev TO:=St->Hp->(Option Int->Hp->Prop)->Prop
def PO (X:Cx) (e:Option s5) (t:TO):Prop:=
 ∀(WP:List (WF×Obj)) (s:Go) (ZB:St) (H:Hp) (Q:Option Int->Hp->Prop),Inv X WP ZB H s->t ZB H Q->
  wpAny (AT X.prog X.w) X.A (evalPart e X.env) (λu s'=>∃o I,Inv X WP ZB I s'/\w1 u o/\Q o I) X.xe s
def ru:TO:=λ_ H Q=>Q none H
def rv (t:TE):TO:=λZB H Q=>t ZB H λx H1=>∃i,x=.int i/\Q (some i) H1
theorem intsAre_of:∀ {us:List Tk},ww (ns.map W1.int) us->cD us ns:=by(
induction ns with
|nil=>intro us r;rw[hr]at r;cases r;exact .nil
|cons n ns a=>
 intro us r;rw[m0]at r;cases r with
 |cons b c=>
  obtain⟨t,e⟩:=b;subst e;exact .cons n t (a c))
section
variable {X:Cx}{e:s5}{te:TE}{lo hi:Option s5}{tl th:TO}{pos p2:Pos}
theorem fI:PO X none ru:=by
 intro WP s ZB H Q XV h;rw[Dd];exact t3 ⟨none,H,XV,.none,h⟩
theorem d2 (h:PE X e te):PO X (some e) (rv te):=by
 intro WP s ZB H Q XV hw;rw[evalPart_some];refine wP (h WP s ZB H _ XV hw) λu f d=>Do d λx H1 a c b=>?_;obtain⟨i,rfl,q⟩:=b;obtain⟨t,rfl⟩:=c;exact⟨some i,H1,a,.int i t,q⟩
def x' (X:Cx) (r:W1->Option Int->Option Int->Hp->VK->Prop):Prop:=
 ∀(WP:List (WF×Obj)) (s:Go) (ZB:St) (H:Hp) (x:W1) (v b c:Tk) (lo hi:Option Int) (a:WF) (Q:VK),Inv X WP ZB H s->RelV x v->s.heap.IsSliceOf a b c .none->w1 b lo->w1 c hi->r x lo hi H Q->
  ∃T id,Dp (.type T) "__getitem__"=pure (some (.builtin id))/\s.TypeIs v T/\wpAny (AT X.prog X.w) X.A (lQ v (.ref a)) (EP X WP ZB Q) X.xe s
def BG (r:W1->Option Int->Option Int->Hp->VK->Prop) (te:TE) (tl th:TO):TE:=λZB H Q=>te ZB H λx H1=>tl ZB H1 λl H2=>th ZB H2 λu a=>r x l u a Q
theorem nc(o:x' X r) (m:PE X e te) (n:PO X lo tl) (hu:PO X hi th):PE X (.Subscript e (.Slice lo hi none p2) pos) (BG r te tl th):=by
 intro WP s ZB H Q XV h;refine sJ (wP (m WP s ZB H _ XV h) λv E L=>Do L λx H1 g D y=>?_);refine Dk (wP (n WP E ZB H1 _ g y) λc J N=>Do N λl H2 i pl z=>wP (hu WP J ZB H2 _ i z) λd a U=>Do U λu f j t C=>?_);rw[Dd];refine t3 ?_;have k:Inv X WP ZB f {a with heap:=a.heap.push {cls:=.type "slice",data:=.fields #[c,d,.none]}}:=j.kept (t':=a.toks) λb ob q=>ln _ q;obtain⟨T,id,hT,p,hg⟩:=o WP {a with heap:=a.heap.push {cls:=.type "slice",data:=.fields #[c,d,.none]}} ZB f x v c d l u a.heap.objs.size Q k D (Heap.IsSliceOf.new ..) pl t C;show wpAny (AT X.prog X.w) X.A (sH e (.Slice lo hi none p2) v (.ref a.heap.objs.size)) (EP X WP ZB Q) X.xe {a with heap:=a.heap.push {cls:=.type "slice",data:=.fields #[c,d,.none]}};exact tail_any (ops:=[.ref a.heap.objs.size,v]) p hT hg (by with_unfolding_all rfl)
noncomputable def eI (xs:List W1) (lo hi:Option Int):List W1:=(xs.drop (HT.dM xs.length 0 lo)).take (HT.dM xs.length xs.length hi-HT.dM xs.length 0 lo)
theorem FL (xs:List W1) (lo hi:Option Int):(eI xs lo hi).length<=xs.length:=by
 unfold eI;rw[aP,jj];lia
end
noncomputable def e7 (n:Nat) (i:Int):Option Nat:=if 0<=i then(if i<n then some i.toNat else none)else if -(n:Int)<=i then some (i+n).toNat else none
noncomputable def dW {a:Type}(xs:List a) (i:Int):Option a:=(e7 xs.length i).bind λj=>xs[j]?
theorem zz(h:e7 n i=some j):seqIndex? i n=some j/\j<n/\ -(n:Int)<=i/\i<n:=by(
unfold e7 at h;by_cases h0:0<=i
·rw[No h0]at h;by_cases h1:i<n
 ·rw[No h1]at h;have e:i.toNat=j:=b2 h;exact⟨by rw[wI h0 h1,e],by lia,by lia,h1⟩
 ·rw[Ps h1]at h;cases h
·rw[Ps h0]at h;by_cases h1: -(n:Int)<=i
 ·rw[No h1]at h;have e:(i+n).toNat=j:=b2 h;exact⟨by rw[seqIndex_neg (by lia) h1,e],by lia,h1,by lia⟩
 ·rw[Ps h1]at h;cases h)
theorem yk(h:dW xs i=some v):∃j,seqIndex? i xs.length=some j/\xs[j]?=some v/\j<xs.length/\ -(xs.length:Int)<=i/\i<xs.length:=by(
unfold dW at h;cases e:e7 xs.length i with
|none=>rw[e]at h;cases h
|some j=>
 rw[e]at h;obtain⟨h1,h2,a,b⟩:=zz e;exact⟨j,h1,h,h2,a,b⟩)
theorem lv{j:Nat}(h:xs[j]?=some v):dW xs (j:Int)=some v:=by(
have a:j<xs.length:=(aD.mp h).1;have e:e7 xs.length (j:Int)=some j:=by
 unfold e7;rw[No (by lia),No (by lia)];simp
unfold dW;rw[e];exact h)
theorem oS(xs:List b) (v:b):dW (xs++[v]) (-1)=some v:=by(
have a:(xs++[v]).length=xs.length+1:=by simp
have e:e7 (xs++[v]).length (-1)=some xs.length:=by
 unfold e7;rw[a,Ps (by decide),No (by lia)]
 congr 1
 lia
unfold dW;rw[e];show(xs++[v])[xs.length]?=some v;simp)
def EC (b:s5):Prop:=∀o i,r9 b false o i=w0 [o,i] (lQ o i)
def sZ (X:Cx) (r:R2):Prop:=
 ∀(d7 a:s5) (WP:List (WF×Obj)) (s:Go) (ZB:St) (H:Hp) (x y:W1) (v u:Tk) (Q:VK),Inv X WP ZB H s->RelV x v->RelV y u->r x y H Q->
  r9 a false v u=w0 [v,u] (lQ v u)->wpAny (AT X.prog X.w) X.A (sH d7 a v u) (EP X WP ZB Q) X.xe s
def s6 (X:Cx) (id:String) (r:W1->List W1->Hp->VK->Prop):Prop:=
 ∀(WP:List (WF×Obj)) (s:Go) (ZB:St) (H:Hp) (x:W1) (xs:List W1) (v:Tk) (us:List Tk) (Q:VK),Inv X WP ZB H s->RelV x v->ww xs us->r x xs H Q->
  wpAny (AT X.prog X.w) X.A (call (.builtin id) (v::us)) (EP X WP ZB Q) X.xe s
section
variable {X:Cx}{a b:s5}{ta tb:TE}{pos:Pos}
theorem xz {r:R2}(f:sZ X r) (d:PE X a ta) (e:PE X b tb) (g:EC b:=by exact λ_ _=>rfl):PE X (.Subscript a b pos) (hZ r ta tb):=by
 intro WP s ZB H Q XV h;exact sJ (tF d e XV h λv u k x y H2 c i j q=>f a b WP k ZB H2 x y v u Q c i j q (g _ _))
def AH (K:wf):R2:=λx y H Q=>∃p xs i v,x=.ref p/\y=.int i/\TD K H p xs/\dW xs i=some v/\Q v H
def AI (K:wf):R2:=λx y H Q=>∃p xs i v,x=.ref p/\y=.int i/\pm K H p xs/\dW xs i=some v/\Q v H
theorem wE:sZ X (AH X.K):=by(
intro d7 E WP s ZB H x y v u Q XV o A h e;obtain⟨p,xs,i,z,rfl,rfl,m,k,q⟩:=h;cases o;obtain⟨t,rfl⟩:=A;obtain⟨Op,r,pl,hz⟩:=XV.list m;obtain⟨j,h1,h2,C,f,g⟩:=yk k;obtain⟨w,d,n⟩:=r.get h2;have l:=r.length;have D:=pv;have fin:EP X WP ZB Q w s:=⟨z,H,XV,n,q⟩;by_cases h0:0<=i
·have c:i.toNat=j:=by
  rw[wI h0 g]at h1;exact b2 h1
 exact item_listR pl.isList h0 (by lia) (by rw[c];simpa using d) fin e
·have c:(i+(Op.toArray.size:Int)).toNat=j:=by
  rw[seqIndex_neg (by lia) f]at h1;rw[aU,<-l];exact b2 h1
 exact D8 (x:=w) pl.isList.typeIs wB.lookup
  (wpAny_getItem_list_neg (Q:=λr s'=>r=w/\EP X WP ZB Q r s') pl.isList (by lia) (by rw[aU]<;>lia) (by lia) (by rw[c];simpa using d) ⟨O,fin⟩) e)
theorem gN:sZ X (AI X.K):=by(
intro d7 D WP s ZB H x y v u Q XV l m h g;obtain⟨p,xs,i,z,rfl,rfl,f,d,q⟩:=h;cases l;obtain⟨t,rfl⟩:=m;obtain⟨Op,r,pl,hz⟩:=XV.tuple f;obtain⟨j,h1,h2,n,o,A⟩:=yk d;obtain⟨w,c,k⟩:=r.get h2;have e:=r.length;have C:=pv;have fin:EP X WP ZB Q w s:=⟨z,H,XV,k,q⟩;exact D8 (x:=w) pl.typeIs slot_tuple_getitem.lookup
 (getItem_tuple (j:=j) (Q:=λr s'=>r=w/\EP X WP ZB Q r s') pl (by lia) (by lia) (by rw[aU,<-e];exact h1) (by simpa using c) ⟨O,fin⟩) g)
theorem Iz (Op:List Tk) (n j:Nat) (u:Tk):ho (·.setIfInBounds j u) {cls:=.type "list",data:=.seq Op.toArray n}= {cls:=.type "list",data:=.seq (Op.set j u).toArray n}:=by
 simp[ho]
theorem Inv.lst{ZB:St}(XV:Inv X WP ZB H s) (h:H p=some (.lst xs)):
  ∃(Op:List Tk) (n:Nat),ww xs Op/\s.heap.get? p=some {cls:=.type "list",data:=.seq Op.toArray n}/\xs.length<=Gc:=by
 obtain⟨z,Op,n,r,e⟩:=XV.ag p _ h;exact⟨Op,n,r,e,z⟩
theorem Inv.Iu{ZB:St}{Op:List Tk}(XV:Inv X WP ZB H s) (h:H p=some (.lst xs))
  (g:s.heap.get? p=some {cls:=.type "list",data:=.seq Op.toArray n}) (hf:f {cls:=.type "list",data:=.seq Op.toArray n}= {cls:=.type "list",data:=.seq its'.toArray c}) (r:ww ys its') (hz:ys.length<=Gc) (t:Nat):
  Inv X WP ZB (Uf H p (.lst ys)) {s with heap:=s.heap.update p f,toks:=t}:=by(
have e:(s.heap.update p f).get? p=some {cls:=.type "list",data:=.seq its'.toArray c}:=by
 rw[kk f g (by rw[hf]<;>rfl),hf]
refine XV.write (x:=p) (e:=p) (by rw[h];trivial) (.inl rfl) (λb u d q=>(ia _ _ (Ne.symm d)).trans q) ⟨_,e⟩ ?_;exact⟨hz,its',c,r,e⟩)
def uX:W1->W1->W1->Hp->(Hp->Prop)->Prop:=λo i v H Q=>∃p xs k j,o=.ref p/\i=.int k/\H p=some (.lst xs)/\e7 xs.length k=some j/\Q (Uf H p (.lst (xs.set j v)))
theorem lB:x_ X uX:=by(
intro WP s ZB H o i v ov C u Q XV y x z h;obtain⟨p,xs,k,j,rfl,rfl,m,w,q⟩:=h;cases y;obtain⟨t,rfl⟩:=x;obtain⟨Op,n,r,e,hz⟩:=XV.lst m;obtain⟨h1,h2,g,l⟩:=zz w;have d:=r.length;have A:=pv;have f:Inv X WP ZB (Uf H p (.lst (xs.set j v))) {s with heap:=s.heap.update p (ho (·.setIfInBounds j u))}:=
 XV.Iu m e (Iz Op n j u) (r.set z j) (by rw[CA];exact hz) s.toks
by_cases h0:0<=k
·have c:k.toNat=j:=by
  rw[wI h0 l]at h1;exact b2 h1
 exact NS e h0 (by lia) (by rw[aU,<-d];exact l) (by rw[c];exact⟨_,f,q⟩)
·have c:(k+(Op.toArray.size:Int)).toNat=j:=by
  rw[seqIndex_neg (by lia) g]at h1;rw[aU,<-d];exact b2 h1
 exact NC e (by lia) (by rw[aU,<-d];exact g) (by lia) (by rw[c];exact⟨_,f,q⟩))
theorem Mq (lo hi:Option Int) (n:Nat):(fR lo hi none n).1=((HT.dM n 0 lo:Nat):Int)/\(fR lo hi none n).2.1=((HT.dM n n hi:Nat):Int)/\(fR lo hi none n).2.2=1:=by(
refine⟨?_,?_,O⟩
·cases lo with
 |none=>simp[fR,HT.dM]
 |some i=>
  simp only[fR,HT.dM,DQ,show(1:Int)>0 by decide,a9];by_cases h:i<0
  ·simp only[h,a9]<;>lia
  ·simp only[h,aK]<;>lia
·cases hi with
 |none=>simp[fR,HT.dM]
 |some i=>
  simp only[fR,HT.dM,DQ,show(1:Int)>0 by decide,a9];by_cases h:i<0
  ·simp only[h,a9]<;>lia
  ·simp only[h,aK]<;>lia)
theorem Mp (Op:List Tk) (lo hi:Option Int):sb Op.toArray lo hi none=((Op.drop (HT.dM Op.length 0 lo)).take (HT.dM Op.length Op.length hi-HT.dM Op.length 0 lo)).toArray:=by
 obtain⟨h1,h2,c⟩:=Mq lo hi Op.toArray.size;unfold sb;rw[h1,h2,c];simp only[sliceRange_one,pick_run,aU]<;>rfl
def AK (K:wf):W1->Option Int->Option Int->Hp->VK->Prop:=λx lo hi H Q=>∃a xs,x=.ref a/\TD K H a xs/\∀p,H p=none->Q (.ref p) (Uf H p (.lst (eI xs lo hi)))
theorem nB:x' X (AK X.K):=by
 intro WP s ZB H x v k l lo hi j Q XV i e pl g h;obtain⟨a,xs,rfl,f,q⟩:=h;cases i;obtain⟨Op,r,c,hz⟩:=XV.list f;have d:=r.length;refine⟨"list",_,wB.lookup,c.isList.typeIs,?_⟩;refine CI c.isList e pl g .none (by simp) ?_ (by rw[aU]<;>lia);rw[Mp,<-d];refine⟨.ref s.heap.objs.size,_,XV.laid (t':=s.toks) (o:=.lst (eI xs lo hi)) (λb ob q=>ln _ q) (tz _) ?_,O,q _ (XV.ag.fresh (tz _))⟩;exact⟨dz (FL xs lo hi) hz,_,0,(r.drop (HT.dM xs.length 0 lo)).take (HT.dM xs.length xs.length hi-HT.dM xs.length 0 lo),bc _ rfl⟩
theorem b6:hs X (.builtin "len") (λxs H Q=>∃p ys,xs=[.ref p]/\(TD X.K H p ys\/pm X.K H p ys)/\Q (.int ys.length) H):=by(
intro WP s ZB H xs us Q XV r h;obtain⟨p,ys,rfl,c,q⟩:=h;obtain⟨u,rfl,f⟩:=vals1 r;cases f;have g:=pv;rcases c with c|c
·obtain⟨Op,e,pl,hz⟩:=XV.list c;have d:=e.length;exact Calls.call_len_list pl.isList (by simp only[aU]<;>lia) ⟨.int ys.length,H,XV.tok _,⟨s.toks+1,by rw[aU,d]⟩,q⟩
·obtain⟨Op,e,pl,hz⟩:=XV.tuple c;have d:=e.length;exact len_tuple pl (by simp only[aU]<;>lia) ⟨.int ys.length,H,XV.tok _,⟨s.toks+1,by rw[aU,d]⟩,q⟩)
theorem oW:hs X (.type "list") (λxs H Q=>∃p ys,xs=[.ref p]/\(TD X.K H p ys\/pm X.K H p ys)/\∀l,H l=none->Q (.ref l) (Uf H l (.lst ys))):=by(
intro WP s ZB H xs us Q XV r h;obtain⟨p,ys,rfl,f,q⟩:=h;obtain⟨u,rfl,k⟩:=vals1 r;cases k;have fin:∀(Op:List Tk),ww ys Op->ys.length<=Gc->∀(h':s2) (c:Nat),(∀b o',s.heap.get? b=some o'->h'.get? b=some o')->
  h'.get? s.heap.objs.size=some {cls:=.type "list",dict:=none,data:=.seq Op.toArray c,slots:= #[]}->EP X WP ZB Q (.ref s.heap.objs.size) {s with heap:=h'}:=λOp d hz h' c kp e=>
 ⟨.ref s.heap.objs.size,_,XV.laid (t':=s.toks) kp (tz _) (show bA X.prog X.w _ h' _ (.lst ys) from⟨hz,Op,c,d,e⟩),O,q _ (XV.ag.fresh (tz _))⟩
rcases f with f|f
·obtain⟨Op,d,pl,hz⟩:=XV.list f;have j:=d.length;obtain⟨o,i,g,n,hd⟩:=pl.isList;exact De p (.inl rfl) i g hd (λh' c kp e=>fin Op d hz h' c kp e) (by simp only[aU]<;>lia)
·obtain⟨Op,d,pl,hz⟩:=XV.tuple f;have j:=d.length;obtain⟨o,i,g,n,hd⟩:=pl;exact De p (.inr rfl) i g hd (λh' c kp e=>fin Op d hz h' c kp e) (by simp only[aU]<;>lia))
def vV (K:wf) (T:String) (x:W1) (H:Hp):Prop:=match x with
 |.str _=>T="str"
 |.int _=>T="int"
 |.ref p=>(T="list" /\∃xs,TD K H p xs)\/(T="tuple" /\∃o,K.lookup p=some o/\o.cls=.type "tuple" /\o.dict=none)\/
   (T="dict" /\((∃T0,H p=some (.dK T0))\/∃T0,H p=some (.dT T0)))\/(T="set" /\∃S n,H p=some (.set S n))
 |_=>False
theorem BR{ZB:St}(XV:Inv X WP ZB H s) (r:RelV x v) (ty:vV X.K T x H):
  s.TypeIs v T/\∀a,v=.ref a->∃ob,s.heap.get? a=some ob/\ob.dict=none:=by(
cases x with
|str z=>
 obtain⟨t,rfl⟩:=r;cases(show T="str" from ty);exact⟨typeIs_str s z t,λ_ e=>nomatch e⟩
|int i=>
 obtain⟨t,rfl⟩:=r;cases(show T="int" from ty);exact⟨wL s i t,λ_ e=>nomatch e⟩
|ref p=>
 cases r;rcases ty with⟨rfl,xs,h⟩|⟨rfl,o,d,g,hd⟩|⟨rfl,d⟩|⟨rfl,S,n,d⟩
 ·obtain⟨Op,_,pl,_⟩:=XV.list h;refine⟨pl.isList.typeIs,λa e=>?_⟩;cases e;obtain⟨o,n,e,c,hd,_⟩:=pl;exact⟨o,e,hd⟩
 ·refine⟨⟨o,XV.dY p o d,g⟩,λa e=>?_⟩;cases e;exact⟨o,XV.dY _ o d,hd⟩
 ·have z:∃o,s.heap.get? p=some o/\o.ExactDict:=by
   rcases d with⟨T0,d⟩|⟨T0,d⟩
   ·obtain⟨_,_,_,_,o,_,_,e,ex,_⟩:=XV.ag p _ d;exact⟨o,e,ex⟩
   ·obtain⟨_,_,_,_,o,_,_,e,ex,_⟩:=XV.ag p _ d;exact⟨o,e,ex⟩
  obtain⟨o,e,ex⟩:=z;refine⟨⟨o,e,ex.1⟩,λa f=>?_⟩;cases f;exact⟨o,e,ex.2.1⟩
 ·obtain⟨o,_,_,_,e,ex,_⟩:=XV.ag p _ d;refine⟨⟨o,e,ex.1⟩,λa f=>?_⟩;cases f;exact⟨o,e,ex.2.1⟩
|_=>exact ef ty)
def MA (K:wf) (T:String) (r:W1->List W1->Hp->VK->Prop) (to:TE):TE:=λZB H Q=>to ZB H λx H1=>vV K T x H1/\r x [] H1 Q
def Mz (K:wf) (T:String) (r:W1->List W1->Hp->VK->Prop) (to:TE) (t:TA):TE:=λZB H Q=>to ZB H λx H1=>vV K T x H1/\t ZB H1 λxs H2=>r x xs H2 Q
variable {o e:s5}{es:List s5}{to:TE}{t:TA}{name:Str}{dA di:Pos}{T id:String}{r:W1->List W1->Hp->VK->Prop}
theorem lb (k:Dq T) (slot:Slot T name id) (j:typeOf (.builtin id)=pure (.type "method_descriptor")) (hm:s6 X id r) (i:PE X o to)
  (f:nO o name X.env (eval o X.env)=eval o X.env:=by rfl) (g:(dA.endLine==di.line)=true:=by rfl):PE X (.Call (.Attribute o name dA) [] [] di) (MA X.K T r to):=by
 intro WP s ZB H Q XV h;refine wpAny_Call_method0_late f g (wP (i WP s ZB H _ XV h) λv m n=>Do n λx H1 c d p=>?_);obtain⟨ty,l⟩:=p;obtain⟨h1,h2⟩:=BR c d ty;exact⟨T,id,k,slot,j,h1,h2,xI rfl (PySem.evalArgs_none (hm WP m ZB H1 x [] v [] Q c d .nil l))⟩
theorem cG (u:Dq T) (slot:Slot T name id) (q:typeOf (.builtin id)=pure (.type "method_descriptor")) (hm:s6 X id r) (m:PE X o to) (i:PA X (e::es) t)
  (j:nO o name X.env (eval o X.env)=eval o X.env:=by rfl)
  (k:((d9 di (al (e::es) X.env)).all (λx=>!x.1)&&(sd di (r8 [] X.env)).all (λx=>x.1.isSome)
   &&decide ((e::es).length+([]:List sg).length+(if([]:List sg).isEmpty then 0 else 1)<30))=true:=by rfl)
  (l:(dA.endLine==di.line)=true:=by rfl) (p:al (e::es) X.env=(false,eval e X.env)::al es X.env:=by rfl) (n:(d9 di (al es X.env)).any (·.1)=false:=by rfl):
  PE X (.Call (.Attribute o name dA) (e::es) [] di) (Mz X.K T r to t):=by
 intro WP s ZB H Q XV h;refine wpAny_Call_method_late j k l rfl (wP (m WP s ZB H _ XV h) λv A D=>Do D λx H1 c f J=>?_);obtain⟨ty,w⟩:=J;obtain⟨h1,h2⟩:=BR c f ty;refine⟨T,id,u,slot,q,h1,h2,?_⟩;have d:=i di WP A ZB H1 _ c w;rw[p]at d⊢;refine xI (by show(false||(d9 di (al es X.env)).any (·.1))=false;rw[n]<;>rfl) (Em ?_);exact wP d λus C E=>Do E λvs H2 g z y=>hm WP C ZB H2 x vs v us Q g f z y
end
def mm (X:Cx) (id:String) (r:W1->List W1->Hp->VK->Prop):Prop:=
 ∀(WP:List (WF×Obj)) (s:Go) (ZB:St) (H:Hp) (x:W1) (xs:List W1) (v:Tk) (us:List Tk) (Q:VK),Inv X WP ZB H s->RelV x v->ww xs us->r x xs H Q->
  wpAny (AT X.prog X.w) X.A (call (.builtin id) (v::us)) (EP X WP ZB Q) X.xe s
theorem ww.one(h:ww [x] us):∃u,us=[u]/\RelV x u:=by
 cases h with|cons r h=>cases h;exact⟨_,O,r⟩
theorem ww.zero:∀ {us:List Tk},ww [] us->us=[]
 |_,.nil=>rfl
theorem ww.dropLast(h:ww xs us):ww xs.dropLast us.dropLast:=by(
induction h with
|nil=>exact .nil
|cons r t a=>
 cases t with
 |nil=>exact .nil
 |cons q t'=>exact .cons r a)
theorem ww.reverse(h:ww xs us):ww xs.reverse us.reverse:=by(
induction h with
|nil=>exact .nil
|cons r t a=>rw[rK,rK];exact ww.append a (.cons r .nil))
theorem ww.rep(h:ww xs us):∀k:Nat,ww (f8 k xs).flatten (f8 k us).flatten
 |0=>.nil
 |k+1=>by
  rw[jh,jh,kv,kv];exact ww.append h (ww.rep h k)
theorem F9 {d:Type}(l:List d):l.eraseIdx (l.length-1)=l.dropLast:=by(
induction l with
|nil=>rfl
|cons a r c=>
 cases r with
 |nil=>rfl
 |cons b r=>
  have e:(a::b::r).length-1=((b::r).length-1)+1:=by
   have h1:(a::b::r).length=r.length+2:=rfl;have h2:(b::r).length=r.length+1:=rfl;lia
  rw[e,List.eraseIdx_cons_succ,c]
  all_goals rfl)
theorem foldl_rep (Op:List Tk):∀(k:Nat) (acc:List Tk),
  wz (λb c=>b++c) acc.toArray (f8 k Op.toArray)=(acc++(f8 k Op).flatten).toArray
 |0,acc=>by simp
 |k+1,acc=>by
  have e:acc.toArray++Op.toArray=(acc++Op).toArray:=by simp
  have a:(acc++Op)++(f8 k Op).flatten=acc++(f8 (k+1) Op).flatten:=by
   rw[jh,kv,dv]
  rw[<- a,<-foldl_rep Op k (acc++Op),<-e,jh,dS]
section
variable {X:Cx}{WP:List (WF×Obj)}{ZB:St}{H:Hp}{s:Go}{l b:WF}{xs ys zs:List W1}
theorem Inv.mV{Op:List Tk}(XV:Inv X WP ZB H s) (a:H l=some (.lst xs))
  (e:s.heap.get? l=some {cls:=.type "list",data:=.seq Op.toArray n}) (hf:f Op.toArray=its'.toArray) (hv:ww ys its') (hz:ys.length<=Gc):
  Inv X WP ZB (Uf H l (.lst ys)) {s with heap:=s.heap.update l (ho f),toks:=t'}:=by
 have q:=PySem.IsL.update e f;rw[hf]at q;refine XV.write (x:=l) (e:=l) (by rw[a];exact trivial) (.inl rfl) (λd u c hu=>(ia s.heap (ho f) (Ne.symm c)).trans hu) ⟨_,q⟩ ?_;exact⟨hz,its',_,hv,q⟩
theorem Inv.z4(XV:Inv X WP ZB H s) (hv:ww ys Op) (hz:ys.length<=Gc):
  Inv X WP ZB (Uf H s.heap.objs.size (.lst ys)) {s with heap:=s.heap.push {cls:=.type "list",data:=.seq Op.toArray},toks:=t'}:=
 XV.laid (λ_ _ q=>ln _ q) (tz _) ⟨hz,Op,0,hv,bc _ rfl⟩
theorem Inv.fresh (XV:Inv X WP ZB H s):H s.heap.objs.size=none:=XV.ag.fresh (tz _)
theorem Inv.hJ (XV:Inv X WP ZB H s) (a:H l=some (.lst xs)):xs.length<=Gc/\∃(Op:List Tk) (n:Nat),ww xs Op/\xs.length=Op.length/\s.heap.get? l=some {cls:=.type "list",data:=.seq Op.toArray n}:=by
 obtain⟨z,Op,n,r,e⟩:=XV.ag l _ a;exact⟨z,Op,n,r,r.length,e⟩
theorem uD(h:n<=Gc):l1 n=false:=by
 unfold l1;exact sn (by lia)
end
section
variable {X:Cx}
def Lc:W1->List W1->Hp->VK->Prop:=λx vs H Q=>∃l xs y,x=.ref l/\vs=[y]/\H l=some (.lst xs)/\xs.length<Gc/\Q .ak (Uf H l (.lst (xs++[y])))
theorem cZ:mm X "list.append" Lc:=by
 intro WP s ZB H x vs v us Q XV d c h;obtain⟨l,xs,y,rfl,rfl,a,hz,q⟩:=h;cases d;obtain⟨u,rfl,b⟩:=c.one;obtain⟨z,Op,n,r,f,e⟩:=XV.hJ a;refine kh F.slot_list_append ⟨_,e,O⟩ F.entry_list_append (F.args_list_append_2 _ _) (PySem.list_append l Op.toArray n u (by rw[aU];lia)) ⟨e,?_⟩;refine⟨.ak,_,XV.mV (its':=Op++[u]) a e (by simp) (r.append (.cons b .nil)) ?_,O,q⟩;rw[ls,bK];lia
def Lg:W1->List W1->Hp->VK->Prop:=λx vs H Q=>∃l b xs zs,x=.ref l/\vs=[.ref b]/\H l=some (.lst xs)/\H b=some (.lst zs)/\xs.length+zs.length<=Gc/\Q .ak (Uf H l (.lst (xs++zs)))
theorem IH:mm X "list.extend" Lg:=by(
intro WP s ZB H x vs v us Q XV m k h;obtain⟨l,b,xs,zs,rfl,rfl,c,f,hz,q⟩:=h;cases m;obtain⟨u,rfl,j⟩:=k.one;cases j;obtain⟨z,Op,n,r,o,e⟩:=XV.hJ c;obtain⟨t,a,n2,i,p,d⟩:=XV.hJ f;have hsz:Op.toArray.size+a.toArray.size<=Gc:=by rw[aU,aU];lia
have g:¬(!Op.toArray.isEmpty&&l1 (Op.toArray.size+a.toArray.size))=true:=by
 rw[uD hsz,n0];exact cc
refine kh F.slot_list_extend ⟨_,e,O⟩ F.entry_list_extend (F.args_list_extend_2 _ _)
 (AutoSeq1.list_extend_list_list_0 l Op.toArray n b a.toArray n2 g (by rw[aU];lia) (by lia)) ⟨e,d,?_⟩
refine⟨.ak,_,XV.mV (its':=Op++a) c e (by simp) (r.append i) ?_,O,q⟩;rw[ls];lia)
def Lk:W1->List W1->Hp->VK->Prop:=λx vs H Q=>∃l xs y,x=.ref l/\vs=[]/\H l=some (.lst xs)/\xs[xs.length-1]?=some y/\Q y (Uf H l (.lst xs.dropLast))
theorem IJ:mm X "list.pop" Lk:=by(
intro WP s ZB H x vs v us Q XV j i h;obtain⟨l,xs,y,rfl,rfl,a,d,q⟩:=h;cases j;have c:=i.zero;subst c;obtain⟨z,Op,n,r,b,e⟩:=XV.hJ a;obtain⟨u,hu,g⟩:=r.get d;have f:Op.toArray[Op.toArray.size-1]?=some u:=by
 show Op.toArray[Op.length-1]?=some u;rw[<- Array.getElem?_toList,<-b];exact hu
refine kh F.slot_list_pop ⟨_,e,O⟩ F.entry_list_pop (F.args_list_pop_1 _) (MeetsSeq.list_pop_last l Op.toArray n u f (by rw[aU];lia)) ⟨e,?_⟩;refine⟨y,_,XV.mV (its':=Op.dropLast) a e ?_ r.dropLast ?_,g,q⟩
·show Op.toArray.eraseIdxIfInBounds (Op.toArray.size-1)=Op.dropLast.toArray;rw[aU,List.eraseIdxIfInBounds_toArray,F9]
·rw[List.length_dropLast];lia)
def Ll:W1->List W1->Hp->VK->Prop:=λx vs H Q=>∃l xs,x=.ref l/\vs=[]/\H l=some (.lst xs)/\Q .ak (Uf H l (.lst xs.reverse))
theorem IK:mm X "list.reverse" Ll:=by
 intro WP s ZB H x vs v us Q XV d c h;obtain⟨l,xs,rfl,rfl,a,q⟩:=h;cases d;have b:=c.zero;subst b;obtain⟨z,Op,n,r,f,e⟩:=XV.hJ a;refine kh F.slot_list_reverse ⟨_,e,O⟩ F.entry_list_reverse (F.args_list_reverse_1 _) (AutoSeq1.list_reverse_list_0 l Op.toArray n (by rw[aU];lia)) ⟨e,?_⟩;refine⟨.ak,_,XV.mV (its':=Op.reverse) a e (by simp) r.reverse ?_,O,q⟩;rw[fh];lia
def Ld:R2:=λx y H Q=>∃l b xs zs,x=.ref l/\y=.ref b/\H l=some (.lst xs)/\H b=some (.lst zs)/\xs.length+zs.length<=Gc/\∀p,H p=none->Q (.ref p) (Uf H p (.lst (xs++zs)))
theorem J':bO X (ha .Add) Ld:=by(
intro WP s ZB H x y v u Q XV j k h;obtain⟨l,b,xs,zs,rfl,rfl,g,f,hz,q⟩:=h;cases j;cases k;obtain⟨z,Op,n,r,m,e⟩:=XV.hJ g;obtain⟨p,a,n2,i,o,c⟩:=XV.hJ f;refine PySem.P.add_list e c ?_ (by rw[aU,aU];lia);have d:Op.toArray++a.toArray=(Op++a).toArray:=by simp
rw[d];exact⟨.ref _,_,XV.z4 (t':=s.toks) (r.append i) (by rw[ls];lia),O,q _ XV.fresh⟩)
def AJ:R2:=λx y H Q=>∃l k xs,x=.ref l/\y=.int k/\H l=some (.lst xs)/\ -(2^63)<=k/\k<2^63/\xs.length*k.toNat<=Gc/\
 ∀p,H p=none->Q (.ref p) (Uf H p (.lst (f8 k.toNat xs).flatten))
theorem Ik {b:Type}(xs:List b) (k:Nat):(f8 k xs).flatten.length=k*xs.length:=by(
induction k with
|zero=>simp
|succ k a=>rw[jh,kv,ls,a,Nat.succ_mul,Nat.add_comm])
theorem pN:bO X (ha .Mult) AJ:=by(
intro WP s ZB H x y v u Q XV A C h;obtain⟨l,k,xs,rfl,rfl,f,h1,h2,hz,q⟩:=h;cases A;obtain⟨t,rfl⟩:=C;obtain⟨z,Op,n,r,j,e⟩:=XV.hJ f;have o:Op.toArray.size*k.toNat<=Gc:=by rw[aU,<-j];exact hz
have g:¬Op.toArray.size*k.toNat>(2^63-1)/8:=by
 have:(Gc:Nat)<=(2^63-1)/8:=by decide
 lia
have i:¬(!N_ k)=true:=by
 rw[fitsIndex_both h1 h2];exact cc
have p:¬l1 (Op.toArray.size*k.toNat)=true:=by
 rw[uD o];exact cc
have w:wz (λb c=>b++c) #[] (f8 (if Op.toArray.isEmpty=true then 0 else k.toNat) Op.toArray)=(f8 k.toNat Op).flatten.toArray:=by
 have d:∀m:Nat,wz (λb c=>b++c) #[] (f8 m Op.toArray)=(f8 m Op).flatten.toArray:=λm=>by
  have:=foldl_rep Op m [];rw[l_]at this;exact this
 rw[d];cases Op with
 |nil=>simp
 |cons a D=>rw[Ps (by simp)]
refine wpAny_binaryOp_repeat_ref (T:="list") (U:="int") (by decide) ⟨_,e,O⟩ (λs'=>wL s' k t) noFill_list_mul F.fills_int_mul F.slot_int_rmul repeat_list F.slot_int_index.lookup
 (kh F.slot_int_rmul (wL s k t) F.entry_int_rmul (F.args_int_rmul_2 _ _) (int___rmul___int_list k t l Op.toArray n)
  ⟨e,O,⟨_,e,O⟩,kh F.slot_list_mul ⟨_,e,O⟩ F.entry_list_mul (F.args_list_mul_2 _ _) (AutoListH.list___mul___list_int_3 l Op.toArray n k t i g p) ⟨e,?_⟩⟩)
rw[w];exact⟨.ref _,_,XV.z4 (t':=s.toks) (r.rep k.toNat) (by rw[Ik,Nat.mul_comm];exact hz),O,q _ XV.fresh⟩)
end
theorem ww.ints:∀ {ns:List Int}{us:List Tk},ww (ns.map W1.int) us->cD us ns
 |[],us,h=>by
  rw[hr]at h;cases h;exact IntsAre.nil
 |n::ns,us,h=>by
  rw[m0]at h;cases h with
  |cons r t=>
   obtain⟨k,rfl⟩:=r;exact IntsAre.cons n k (ww.ints t)
theorem ww.u3(r:ww [W1.ref a] us):us=[em a]:=by(
cases r with
|cons r t=>
 cases t;cases r;rfl)
abbrev x2 (h:s2) (c:WF) (v:Option Tk):Prop:=h.IsCell c v
noncomputable def Lu (scope a:d_):d_:=
 {scope with names:=scope.names.map λ(n,k)=>if(k== .free&&a.kind== .function&&a.names.lookup n==some .cell)then(n,.cell)else(n,k)}
noncomputable def cF (cells:List (Str×WF)):List (Str×d8)->List (Str×WF)->List (Str×WF)
 |[],acc=>acc
 |(n,k)::r,acc=>if k== .free then cF cells r ((n,(cells.lookup n).getD 0)::acc)else cF cells r acc
theorem yR (env:Env) (f:Str×d8->List (Str×WF)->Sem (ForInStep (List (Str×WF))))
  (hf:∀n k c,f (n,k) c=if k== .free then(do let a <-w2 env n;pure (.yield ((n,a)::c)))else pure (.yield c)):
  ∀(names:List (Str×d8)) (acc:List (Str×WF)),(∀y∈names,y.2=.free->∃c,env.cells.lookup y.1=some c)->forIn names acc f=pure (cF env.cells names acc)
 |[],acc,_=>by rw[nG];rfl
 |(n,k)::r,acc,h=>by
  rw[rO,hf];have g:=λacc=>yR env f hf r acc λy j=>h y (o0 _ j);unfold cF;by_cases b:(k==l5)=true
  ·rw[No b,No b];obtain⟨c,d⟩:=h (n,k) kw (by simpa using b);have e:w2 env n=pure c:=by unfold w2;rw[d]
   rw[e];have i:(env.cells.lookup n).getD 0=c:=by rw[d];rfl
   rw[i];exact g _
  ·rw[Ps b,Ps b];exact g _
theorem FE(h:∀y∈scope.names,y.2=.free->∃c,env.cells.lookup y.1=some c):Ds scope env=pure (cF env.cells scope.names []):=by
 simp only[Ds];rw[yR env _ (λn k c=>rfl) scope.names [] h];rfl
theorem mem_lookup {a:Type}:∀ {l:List (Str×a)}{n:Str}{c:a},(n,c)∈l->∃b,l.lookup n=some b
 |(k,v)::r,n,c,h=>by
  rw[jk];cases d:n==k with
  |true=>exact⟨_,O⟩
  |false=>
   rcases rs.mp h with e|h
   ·cases e;simp at d
   ·exact mem_lookup h
theorem oY:∀ {names:List (Str×d8)}{acc:List (Str×WF)}{n:Str}{c:WF},(n,c)∈cF cells names acc->(n,c)∈acc\/((n,.free)∈names/\c=(cells.lookup n).getD 0)
 |[],_,_,_,h=>.inl h
 |(m,k)::r,acc,n,c,h=>by
  unfold cF at h;split at h
  ·rename_i a;have a:k=.free:=by simpa using a
   rcases oY h with h|⟨h1,h2⟩
   ·rcases rs.mp h with e|h
    ·cases e;exact .inr ⟨a▸kw,O⟩
    ·exact .inl h
   ·exact .inr ⟨o0 _ h1,h2⟩
  ·rcases oY h with h|⟨h1,h2⟩
   ·exact .inl h
   ·exact .inr ⟨o0 _ h1,h2⟩
theorem tS:∀ {names:List (Str×d8)}{acc:List (Str×WF)}{p:Str×WF},p∈acc->p∈cF cells names acc
 |[],_,_,h=>h
 |(m,k)::r,acc,p,h=>by
  unfold cF;split
  ·exact tS (o0 _ h)
  ·exact tS h
theorem tT:∀ {names:List (Str×d8)}{acc:List (Str×WF)}{n:Str},(n,.free)∈names->(n,(cells.lookup n).getD 0)∈cF cells names acc
 |(m,k)::r,acc,n,h=>by
  unfold cF;rcases rs.mp h with e|h
  ·cases e;exact tS kw
  ·split
   ·exact tT h
   ·exact tT h
theorem my:∀ {names:List (Str×d8)}{h:s2}{acc:List (Str×WF)}{x:Str}{c:WF},(x,c)∈cJ h.objs.size names acc->
  (x,c)∈acc\/((x,.cell)∈names/\h.objs.size<=c/\x2 (i7 h names) c none)
 |[],_,_,_,_,h=>.inl h
 |(n,k)::r,h,acc,x,c,hm=>by
  unfold cJ at hm;unfold i7;split at hm
  ·rename_i a;rw[No a];have a:k=.cell:=by simpa using a
   rw[<- cU h {cls:=.type "cell",data:=.cell none}]at hm;rcases my hm with hm|⟨h1,h2,b⟩
   ·rcases rs.mp hm with e|hm
    ·cases e;exact .inr ⟨a▸kw,tz _,_,r1 r _ _ _ (bc _ rfl),O⟩
    ·exact .inl hm
   ·rw[cU]at h2;exact .inr ⟨o0 _ h1,sm h2,b⟩
  ·rename_i a;rw[Ps a];rcases my hm with hm|⟨h1,h2,b⟩
   ·exact .inl hm
   ·exact .inr ⟨o0 _ h1,h2,b⟩
theorem oX:∀ {names:List (Str×d8)}{n:Nat}{acc:List (Str×WF)}{p:Str×WF},p∈acc->p∈cJ n names acc
 |[],_,_,_,h=>h
 |(m,k)::r,n,acc,p,h=>by
  unfold cJ;split
  ·exact oX (o0 _ h)
  ·exact oX h
theorem tQ:∀ {names:List (Str×d8)}{n:Nat}{acc:List (Str×WF)}{x:Str},(x,.cell)∈names->∃c,(x,c)∈cJ n names acc
 |(m,k)::r,n,acc,x,h=>by
  unfold cJ;rcases rs.mp h with e|h
  ·cases e;exact⟨n,oX kw⟩
  ·split
   ·exact tQ h
   ·exact tQ h
theorem tR:∀ {names:List (Str×d8)}{h:s2}{acc:List (Str×WF)}{x y:Str}{c:WF},(∀p∈acc,p.2<h.objs.size)->(∀x y c,(x,c)∈acc->(y,c)∈acc->x=y)->
  (x,c)∈cJ h.objs.size names acc->(y,c)∈cJ h.objs.size names acc->x=y
 |[],_,_,_,_,_,_,hi,h1,h2=>hi _ _ _ h1 h2
 |(n,k)::r,h,acc,x,y,c,d,hi,h1,h2=>by
  unfold cJ at h1 h2;split at h1
  ·rename_i f;rw[No f]at h2;rw[<- cU h {cls:=.type "cell",data:=.cell none}]at h1 h2;refine tR (h:=h.push _) (λp g=>?_) (λx y c a b=>?_) h1 h2
   ·rw[cU];rcases rs.mp g with rfl|g
    ·exact so _
    ·exact lZ (d p g)
   ·rcases rs.mp a with e|a<;>rcases rs.mp b with i|b
    ·cases e;cases i;rfl
    ·cases e;exact absurd (d _ b) (hh _)
    ·cases i;exact absurd (d _ a) (hh _)
    ·exact hi _ _ _ a b
  ·rename_i f;rw[Ps f]at h2;exact tR d hi h1 h2
theorem IY{xK:WF}{code:Tk}
  (h:Q (newEnv scope s.heap.objs.size xK (cJ (s.heap.objs.size+1) scope.names a) d func code (some b) builtins)
   {s with heap:=i7 (s.heap.push {cls:=.type "dict",data:=.dict #[]}) scope.names}):
  wpAny TW A (C6 scope xK a [] d func code (some b) builtins) Q E s:=by
 simp only[C6,DO,a9];refine IR (wpAny_alloc ?_);refine IR (wpAny_layCells _ (λn k c=>rfl) scope.names a _ _ ?_);rw[show({s with heap:=s.heap.push {cls:=.type "dict",data:=.dict #[]}}:Go).heap.objs.size=s.heap.objs.size+1 from cU ..];rw[nG];exact IR (t3 (t3 h))
theorem uv {a:d_}:∀ {names:List (Str×d8)}{x:Str}{k:d8},
  (names.map λ(n,k)=>if(k==l5&&a.kind== .function&&a.names.lookup n==some .cell)then(n,xG)else(n,k)).lookup x=some k->
  ∃e,names.lookup x=some e/\(k=e\/(e=.free/\k=.cell))
 |[],_,_,h=>by simp at h
 |(n,d)::r,x,k,h=>by
  have f:=@uv a r x k;have h':jl x ((if(d==l5&&a.kind== .function&&a.names.lookup n==some .cell)=true then(n,xG)else(n,d))::(r.map _))=some k:=h;cases c:x==n with
  |true=>
   simp only[jk,c];by_cases b:(d==l5&&a.kind== .function&&a.names.lookup n==some .cell)=true
   ·rw[No b]at h';simp only[jk,c]at h';cases h';simp only[ev,gu]at b;exact⟨d,O,.inr ⟨b.1.1,O⟩⟩
   ·rw[Ps b]at h';simp only[jk,c]at h';cases h';exact⟨_,O,.inl rfl⟩
  |false=>
   simp only[jk,c];by_cases b:(d==l5&&a.kind== .function&&a.names.lookup n==some .cell)=true
   ·rw[No b]at h';simp only[jk,c]at h';exact f h'
   ·rw[Ps b]at h';simp only[jk,c]at h';exact f h'
structure mb (N:List Str) (a scope:d_) (own:List (Str×Nat)):Prop where
 kind:scope.kind=.function
 uniq:∀y∈scope.names,scope.names.lookup y.1=some y.2
 ix:∀p∈own,N[p.2]?=some p.1
 free:∀y∈scope.names,y.2=.free->a.names.lookup y.1=some .cell\/a.names.lookup y.1=some .free
 own:∀y∈scope.names,y.2=.local\/y.2=.cell->y.1∈own.map (·.1)\/y.1∉N
noncomputable def nm (ZB:St):List Nat->St
 |[]=>ZB
 |v::vs=>(nm ZB vs).set v none
theorem v7 (ZB:St):∀vs:List Nat,(nm ZB vs).length=ZB.length
 |[]=>rfl
 |v::vs=>by unfold nm;rw[CA,v7 ZB vs]
theorem v8:∀ {vs:List Nat},(nm ZB vs)[i]?=some (some x)->ZB[i]?=some (some x)/\i∉vs
 |[],h=>⟨h,by simp⟩
 |v::vs,h=>by
  unfold nm at h;by_cases hi:v=i
  ·subst hi;by_cases hv:v<(nm ZB vs).length
   ·rw[v_ hv]at h;cases h
   ·rw[ik (by simpa using hv)]at h;cases h
  ·rw[sU hi]at h;obtain⟨h1,h2⟩:=v8 h;exact⟨h1,by simp only[rs,not_or];exact⟨λe=>hi e.symm,h2⟩⟩
noncomputable abbrev Cx.cW (X:Cx) (s:Go) (H:Hp) (scope:d_) (a:Env) (fp:List WF):Cx:= {X with dt:=s,jo:=H,env:=a,outer:=X.stack,ex:=fp,fn:=λx=>scope.names.lookup x==some .cell,pn:=[],xe:=λ_ _=>False}
section
variable {X:Cx}{WP:List (WF×Obj)}{ZB:St}{H:Hp}{s:Go}
theorem Fn(XV:Inv X WP ZB H s) (ok:mb X.N X.env.scope scope own) (OM:X.N.Nodup) (C:∀b∈fp,fo X WP H b/\b<s.heap.objs.size):
  Inv (X.cW s H scope (ff scope (cJ (s.heap.objs.size+1) scope.names (cF X.env.cells scope.names [])) s.heap.objs.size X.env) fp) [] (nm ZB (own.map (·.2))) H {s with heap:=i7 (s.heap.push {cls:=.type "dict",data:=.dict #[]}) scope.names}:=by(
have ON:∀y∈scope.names,y.2=.free->∃c,X.env.cells.lookup y.1=some c:=λy h e=>by
 rcases ok.free y h e with k|k
 ·exact XV.ok.has _ (.inl k)
 ·exact XV.ok.has _ (.inr k)
generalize J:ff scope (cJ (s.heap.objs.size+1) scope.names (cF X.env.cells scope.names [])) s.heap.objs.size X.env=d;have kp:∀b o,s.heap.get? b=some o->(i7 (s.heap.push {cls:=.type "dict",data:=.dict #[]}) scope.names).get? b=some o:=λb o e=>r1 _ _ _ _ (ln _ e);have Q:d.locals=s.heap.objs.size:=by rw[<- J];rfl
have x:d.cells=cJ (s.heap.objs.size+1) scope.names (cF X.env.cells scope.names []):=by rw[<- J];rfl
have OH:d.scope=Lu scope X.env.scope:=by rw[<- J];rfl
rw[<- cU s.heap {cls:=.type "dict",data:=.dict #[]}]at x;have E:∀ {y c},(y,c)∈cF X.env.cells scope.names []->X.env.cells.lookup y=some c/\c<s.heap.objs.size:=λ{y c} hm=>by
 rcases oY hm with hm|⟨h1,rfl⟩
 ·cases hm
 ·obtain⟨c,OI⟩:=ON _ h1 rfl;rw[OI];obtain⟨w,z⟩:=XV.cell _ _ OI;exact⟨O,z.lt⟩
have mem:∀ {y c},d.cells.lookup y=some c->(X.env.cells.lookup y=some c/\c<s.heap.objs.size)\/(s.heap.objs.size+1<=c/\x2 (i7 (s.heap.push {cls:=.type "dict",data:=.dict #[]}) scope.names) c none):=λ{y c} e=>by
 rw[x]at e;rcases my (eA e)with hm|⟨_,h2,OL⟩
 ·exact .inl (E hm)
 ·rw[cU]at h2;exact .inr ⟨h2,OL⟩
have look:∀ {y},scope.names.lookup y=some .free->∃c,d.cells.lookup y=some c/\X.env.cells.lookup y=some c:=λ{y} U=>by
 have h:(y,l5)∈scope.names:=eA U;obtain⟨L,f⟩:=mem_lookup (oX (names:=scope.names) (n:=(s.heap.push {cls:=.type "dict",data:=.dict #[]}).objs.size) (tT (cells:=X.env.cells) (acc:=[]) h));rw[<- x]at f;refine⟨L,f,?_⟩;rw[x]at f;rcases my (eA f)with hm|⟨h1,_,_⟩
 ·exact(E hm).1
 ·have:=ok.uniq _ h1;rw[U]at this;cases this
have OS:(X.cW s H scope d fp).Ok:=by
 refine⟨XV.ok.mod,by show d.scope.kind=_;rw[OH];exact ok.kind,by show d.globals=_;rw[<- J];exact XV.ok.glob,by show d.builtins=_;rw[<- J];exact XV.ok.blt,by show s.heap.objs.size<=d.locals;rw[Q];exact tz _,
  λy z c j l=>?_,λy h=>?_,λy c z e=>?_,XV.ok.hd,XV.ok.frames,.inl rfl,λb t=>⟨?_,λy c e z=>?_⟩,XV.bs,dz XV.ok.hE XV.sz,λb o e t=>?_,λb t z=>?_,XV.stack,XV.Bt⟩
 ·have j:d.cells.lookup y=some c:=j;have l:d.cells.lookup z=some c:=l;rw[x]at j l;refine tR (λp D=>?_) (λy z c a b=>XV.ok.inj y z c (E a).1 (E b).1) (eA j) (eA l);rw[cU];exact lZ (E (y:=p.1) (c:=p.2) D).2
 ·show ∃c,d.cells.lookup y=some c;have key:∀k,d.kindOf y=some k->(k=.cell\/k=.free)->∃c,d.cells.lookup y=some c:=λk A Y=>by
   unfold Env.kindOf at A;rw[OH]at A;obtain⟨u,e,r⟩:=uv A;have:u=.cell\/u=.free:=by
    rcases r with rfl|⟨rfl,_⟩
    ·exact Y
    ·exact .inr rfl
   rcases this with rfl|rfl
   ·obtain⟨c,hm⟩:=tQ (n:=(s.heap.push {cls:=.type "dict",data:=.dict #[]}).objs.size) (acc:=cF X.env.cells scope.names []) (eA e);obtain⟨L,f⟩:=mem_lookup hm;exact⟨L,by rw[x];exact f⟩
   ·obtain⟨c,h1,_⟩:=look e;exact⟨c,h1⟩
  rcases h with h|h
  ·exact key _ h (.inl rfl)
  ·exact key _ h (.inr rfl)
 ·have z:(scope.names.lookup y==some xG)=true:=z;have z:scope.names.lookup y=some .cell:=by simpa using z
  have e:d.cells.lookup y=some c:=e;rw[x]at e;rcases my (eA e)with hm|⟨_,h2,_⟩
  ·rcases oY hm with hm|⟨h1,_⟩
   ·cases hm
   ·have q:=ok.uniq _ h1;rw[z]at q;cases q
  ·rw[cU]at h2;exact sm h2
 ·show b≠d.locals;rw[Q];exact cb (C b t).2
 ·have e:d.cells.lookup y=some c:=e;rcases mem e with⟨h1,_⟩|⟨h1,_⟩
  ·exact(C b t).1.2.2.2.2.1 y c h1 z
  ·have h2:s.heap.objs.size+1<=b:=by rw[<- z];exact h1
   exact absurd (c_ (C b t).2 (sm h2)) (hh _)
 ·rcases(C b t).1.2.2.2.1 with z|z
  ·exact XV.ok.mZ b o e z
  ·exact absurd (c_ (cr e) (dz XV.ok.hE z)) (hh _)
 ·rcases rs.mp (XV.vI b z)with z|z
  ·exact(C b t).1.2.1 z
  ·exact(C b t).1.2.2.1 z
refine⟨OS,O,XV.bare,Un.kept kp,⟨λ_=>none,?_,λi y OK j l g=>?_⟩,λy c e=>?_,?_,λy c e=>?_,λp D=>?_,XV.ag.kept kp,by rw[v7];exact XV.len⟩
·show Heap.Ns _ d.locals _;rw[Q];exact Heap.Ns.keeps (Heap.Ns.new ..) λb o e=>r1 _ _ _ _ e
·obtain⟨l,OP⟩:=v8 l;have T:scope.names.lookup y=some .free/\(d.kindOf y=some .cell\/d.kindOf y=some .free):=by
  have key:∀k,d.scope.names.lookup y=some k->k=.local\/k=.cell\/k=.free->scope.names.lookup y=some .free/\(d.kindOf y=some .cell\/d.kindOf y=some .free):=λk A Y=>by
   have OJ:=A;rw[OH]at A;obtain⟨u,e,r⟩:=uv A;have no:¬(u=.local\/u=.cell):=λOO=>by
    rcases ok.own _ (eA e) OO with f|f
    ·obtain⟨p,D,OQ⟩:=mo.mp f;have g:=ok.ix p D;have:p.1=y:=OQ;rw[this]at g;exact OP (mo.mpr ⟨p,D,uC OM g j⟩)
    ·exact f (pi j)
   rcases r with rfl|⟨rfl,rfl⟩
   ·rcases Y with rfl|rfl|rfl
    ·exact absurd (.inl rfl) no
    ·exact absurd (.inr rfl) no
    ·exact⟨e,.inr OJ⟩
   ·exact⟨e,.inl OJ⟩
  have g:kH d.scope y:=g;rcases g with g|g|g
  ·exact key _ g (.inl rfl)
  ·exact key _ g (.inr (.inl rfl))
  ·exact key _ g (.inr (.inr rfl))
 obtain⟨m,OT,U⟩:=XV.loc;have OR:kH X.env.scope y:=(ok.free _ (eA T.1) rfl).elim (λk=>.inr (.inl k)) (λk=>.inr (.inr k));obtain⟨w,r,q⟩:=U i y OK j l OR;refine⟨w,r,.inr ⟨T.2,?_⟩⟩;obtain⟨c,h1,h2⟩:=look T.1;rcases q with⟨k,_⟩|⟨_,L,f,z⟩
 ·have k:X.env.scope.names.lookup y=some .local:=k;rcases ok.free _ (eA T.1) rfl with u|u<;>rw[show X.env.scope.names.lookup y=_ from u]at k<;>cases k
 ·rw[h2]at f;cases f;exact⟨c,h1,z.keeps kp⟩
·have e:d.cells.lookup y=some c:=e;rcases mem e with⟨h1,_⟩|⟨_,z⟩
 ·obtain⟨w,z⟩:=XV.cell y c h1;exact⟨w,z.keeps kp⟩
 ·exact⟨_,z⟩
·show H d.locals=none;rw[Q];exact XV.ag.fresh (tz _)
·have e:d.cells.lookup y=some c:=e;rcases mem e with⟨h1,_⟩|⟨h1,_⟩
 ·exact XV.e4 y c h1
 ·exact XV.ag.fresh (sm h1)
·exact absurd (show p∈([]:List (WF×Obj))++[] from D) (by simp))
theorem Fd(XV:Inv X WP ZB H s) (a:H D=some (.lst xs)) (hz:xs.length<Gc) (r:RelV y v)
  (h:∀s',Inv X WP ZB (Uf H D (.lst (xs++[y]))) s'->Q .none s'):wpAny (AT X.prog X.w) X.A (call (.builtin "list.append") [.ref D,v]) Q E s:=by
 obtain⟨j,Op,n,d,e⟩:=XV.ag D _ a;have i:=d.length;refine append_at (hsz:=by rw[aU];lia) e λh' g c=>?_;refine h {s with heap:=h'} (XV.write (t':=s.toks) (by rw[a];trivial) (.inl rfl) (λb u f q=>(g.2 b f).trans q) ⟨_,c⟩ ⟨by rw[ls];exact hz,Op++[v],n+1,d.append (.cons r .nil),?_⟩);rw[c];simp
def mn (X:Cx) (a:List s5) (t:TT):Prop:=
 ∀(WP:List (WF×Obj)) (s:Go) (ZB:St) (H:Hp) (Q:Bool->Hp->Prop),Inv X WP ZB H s->t ZB H Q->
  wpAny (AT X.prog X.w) X.A (forIn a true λc r=>if r=true then do let ok <-isTrue c X.env (eval c X.env);pure (oi ok)else pure (oi r)) (TP X WP ZB Q) X.xe s
def iX:TT:=λ_ H Q=>Q true H
theorem gn:mn X [] iX:=λ_ _ _ H _ XV h=>wpAny_tests_nil ⟨H,XV,h⟩
theorem K2(h:PT X c t):mn X [c] t:=λWP s ZB H Q XV hw=>wpAny_tests_one (h WP s ZB H Q XV hw)
end
theorem lG(h:wpAny TW A t Q (λ_ _=>False) s) (c:∀a s,Q a s->b a s):wpAny TW A t b E s:=eT h c λ_ _ z=>ef z
theorem FG{bx:s5}(XV:Nat->Go->Prop)
  (turn:∀n s,XV n s->wpAny (AT prog w) A (eU a) (λr b=>match r with
   |none=>R (.ok .next) b
   |some v=>wpAny (AT prog w) A (r0 f a v) (λ_ l=>wpAny (AT prog w) A (kj f env v) (λ_ o=>
     wpAny (AT prog w) A (forIn k true λc r=>if r=true then do let ok <-isTrue c env (eval c env);pure (oi ok)else pure (oi r)) (λok d=>
      if ok=true then wpAny (AT prog w) A (eval g env) (λx p=>
       wpAny (AT prog w) A (call (.builtin "list.append") [acc,x]) (λ_ q=>∃m,m<n/\XV m q) (lR (AT prog w) A env λe s'=>R (.error e) s') p) (lR (AT prog w) A env λe s'=>R (.error e) s') d
      else ∃m,m<n/\XV m d) (lR (AT prog w) A env λe s'=>R (.error e) s') o) (lR (AT prog w) A env λe s'=>R (.error e) s') l) (lR (AT prog w) A env λe s'=>R (.error e) s') b) (lR (AT prog w) A env λe s'=>R (.error e) s') s)
  (n:Nat) (h:XV n s):
  codeAny (AT prog w) A (.compLoop (.ListComp g [⟨f,bx,k,0⟩] scope pos) 0 a acc env) R s:=by
 refine codeAny_loop rfl XV (λn s t=>?_) n h;show wpAny _ A ((compTurn (.ListComp g [⟨f,bx,k,0⟩] scope pos) 0 a acc env).onRaise (λx=>do noteFrame x env;theTreesLotGoes x)) _ _ s;refine wpAny_noted ?_;rw[compTurn_list];refine IR (wF (IR (eT (turn n s t) (λr b i=>?_) λ_ _ h'=>h')));cases r with
 |none=>exact t3 i
 |some v=>
  refine IR (eT i (λ_ l u=>?_) λ_ _ h'=>h');refine IR (eT u (λ_ o y=>IR (eT y (λok d j=>?_) λ_ _ h'=>h')) λ_ _ h'=>h');cases ok with
  |false=>exact t3 ⟨O,j⟩
  |true=>
   exact IR (IR (eT j (λx p z=>IR (eT z (λ_ q C=>t3 (t3 ⟨O,C⟩)) λ_ _ h'=>h')) λ_ _ h'=>h'))
section
variable {X:Cx}
def lD (j:TI) (g:TG) (h:TT) (te:TE) (vs:List Nat):TE:=λZB H Q=>j ZB H λJ H1=>∀D,H1 D=none->∃W:Nat->Nat->Hp->Prop,(∃m,W 0 m (Uf H1 D (.lst [])))/\∀i m H,W i m H->
 (J.stop i H/\Q (.ref D) H)\/(J.go i H/\∃a:Hp->Prop,(∀I,a I->∃f,f<m/\W (i+1) f I)/\∀x I,J.eQ i H x I->g x (nm ZB vs) I λc H2=>nm c vs=nm ZB vs/\h c H2 λb d=>
  if b=true then te c d λy e=>∃acc,e D=some (.lst acc)/\acc.length<Gc/\a (Uf e D (.lst (acc++[y])))else a d)
theorem zO{ZB:St}{bx:s5}
  (O4:X.calm=true) (Pu:X.N.Nodup) (XV:Inv X WP ZB H s) (hi:PI X tg bx P7) (ok:mb X.N X.env.scope scope own)
  (hg:∀(s:Go) (H:Hp) (C:WF) (cl:List (Str×WF)) (fp:List WF),PG (X.cW s H scope (ff scope cl C X.env) fp) tg g) (PK:∀(s:Go) (H:Hp) (C:WF) (cl:List (Str×WF)) (fp:List WF),mn (X.cW s H scope (ff scope cl C X.env) fp) OT P4)
  (Pz:∀(s:Go) (H:Hp) (C:WF) (cl:List (Str×WF)) (fp:List WF),PE (X.cW s H scope (ff scope cl C X.env) fp) OQ te) (PH:∀x,rX bx X.env x=pure x)
  (h:lD P7 g P4 te (own.map (·.2)) ZB H Q)
  (Px:∀D C s' m I,Inv X WP ZB I s'->Q (.ref D) I->s'.heap.Ns C m->fo X WP I C->wW (AT X.prog X.w) X.A X.xe use Qf (.ref D) C (.ok .next) s'):
  wpAny (AT X.prog X.w) X.A (Df (.ListComp OQ [⟨tg,bx,OT,0⟩] scope pos) scope X.env eN (newList []) false (eval bx X.env) use) Qf X.xe s:=by(
have PB:∀y∈scope.names,y.2=.free->∃c,X.env.cells.lookup y.1=some c:=λy OS e=>by
 rcases ok.free y OS e with k|k
 ·exact XV.ok.has _ (.inl k)
 ·exact XV.ok.has _ (.inr k)
refine wpAny_comprehension_free (use:=use) rfl PH (FE PB) ok.kind (λy OS e=>by rw[ok.uniq y OS,e])
 (wP (hi WP s ZB H _ XV h) λB Qm PL=>wP PL λQl J h2=>?_)
obtain⟨O8,fp,OO,Qj,H2,e,OZ,T,Pd,O2,q⟩:=h2;subst e;refine nM (IY ?_) (by show 0<=Gc;decide);generalize OL:J.heap.objs.size=D;have Pt:H2 D=none:=OZ.ag.fresh (kn OL);obtain⟨W,⟨PQ,Pg⟩,turn⟩:=q D Pt;generalize O6:({J with heap:=J.heap.push {cls:=.type "list",data:=.seq ([]:List Tk).toArray}}:Go)=a;have OH:Inv X WP ZB (Uf H2 D (.lst [])) a:=by
 rw[<- O6];refine OZ.laid (t':=J.toks) (λb o e=>ln _ e) (kn OL) ⟨f4 _,[],0,.nil,?_⟩;rw[<- OL];exact bc _ rfl
have O3:a.heap=J.heap.push {cls:=.type "list",data:=.seq ([]:List Tk).toArray}:=by rw[<- O6]
have sz:∀b∈fp,b<J.heap.objs.size:=λb d=>by
 obtain⟨o,e,_⟩:=T.obj _ _ Pd b d;exact cr e
have E:∀b∈fp,fo X WP (Uf H2 D (.lst [])) b/\b<a.heap.objs.size:=λb d=>by
 have O5:=sz b d;refine⟨⟨?_,(O2 b d).2⟩,by rw[O3,cU];exact lZ O5⟩;rw[UF (by rw[<- OL];exact cb O5)];exact(O2 b d).1
have P1:OO 0 a.heap:=T.keep _ _ _ Pd λb _ o e=>by rw[O3];exact ln _ e
have OI:=Fn OH ok Pu E;have pg:=hg a (Uf H2 D (.lst [])) a.heap.objs.size (cJ (a.heap.objs.size+1) scope.names (cF X.env.cells scope.names [])) fp;have pt:=PK a (Uf H2 D (.lst [])) a.heap.objs.size (cJ (a.heap.objs.size+1) scope.names (cF X.env.cells scope.names [])) fp;have OU:=Pz a (Uf H2 D (.lst [])) a.heap.objs.size (cJ (a.heap.objs.size+1) scope.names (cF X.env.cells scope.names [])) fp;show codeAny _ _ (.compStart (.ListComp OQ [⟨tg,bx,OT,0⟩] scope pos) 0 (.ref O8) (.ref D) (ff scope (cJ (a.heap.objs.size+1) scope.names (cF X.env.cells scope.names [])) a.heap.objs.size X.env)) (wW (AT X.prog X.w) X.A X.xe use Qf (.ref D) a.heap.objs.size) {a with heap:=i7 (a.heap.push {cls:=.type "dict",data:=.dict #[]}) scope.names};have O_:∀b∈fp,(Uf H2 D (.lst [])) b=none:=λb d=>(E b d).1.1;generalize Py:ff scope (cJ (a.heap.objs.size+1) scope.names (cF X.env.cells scope.names [])) a.heap.objs.size X.env=f at OI pg pt OU⊢;have O1:f.locals=a.heap.objs.size:=by subst Py;rfl
generalize Qk:Uf H2 D (.lst [])=l at OH OI pg pt OU Pg O_ E;generalize PJ:({a with heap:=i7 (a.heap.push {cls:=.type "dict",data:=.dict #[]}) scope.names}:Go)=Pb at OI⊢;have Pe:OO 0 Pb.heap:=T.keep _ _ _ P1 λb _ o e=>by rw[<- PJ];exact r1 _ _ _ _ (ln _ e)
have OX:∀ {Ph:St}{I:Hp}{s':Go},Inv (X.cW a l scope f fp) [] Ph I s'->(∀b∈fp,I b=none)->∀b∈fp,fo (X.cW a l scope f fp) [] I b:=λ{Ph I s'} L Y b d=>
 ⟨Y b d,(L.ok.o3 b d).1,L.ok.mF b d,.inl d,λx c e=>(L.ok.o3 b d).2 x c e,λp PF=>absurd (show p∈([]:List (WF×Obj))++[] from PF) (by simp)⟩
have O9:codeAny (AT X.prog X.w) X.A (.compLoop (.ListComp OQ [⟨tg,bx,OT,0⟩] scope pos) 0 (.ref O8) (.ref D) f) (wW (AT X.prog X.w) X.A X.xe use Qf (.ref D) a.heap.objs.size) Pb:=by
 refine FG (λn s'=>∃i I,Inv (X.cW a l scope f fp) [] (nm ZB (own.map (·.2))) I s'/\OO i s'.heap/\(∀b∈fp,I b=none)/\W i n I) ?_ PQ ⟨0,l,OI,Pe,O_,Pg⟩;rintro n Pc ⟨i,t,OJ,Pf,n5,P6⟩;rcases turn i n t P6 with⟨stop,PV⟩|⟨go,Pp,Pw,step⟩
 ·have td:=T.done (X.cW a l scope f fp) rfl rfl rfl O4 i [] Pc _ t (λ_ _=>False) OJ (OX OJ n5) Pf stop;refine lG td λr ON P9=>?_;obtain⟨OR,U⟩:=P9;subst OR;have OK:Inv X WP ZB t ON:=OH.Fx (ch:=fp) U.os U.base U.ag U.bare λb d=>⟨(E b d).1.2.2.2.1,(E b d).1.2.1,(E b d).1.2.2.2.2.1,(E b d).1.2.2.2.2.2⟩;have PR:t a.heap.objs.size=none:=by
   have z:t f.locals=none:=U.free;rw[O1]at z;exact z
  obtain⟨m,Y,_⟩:=U.loc;have Y:ON.heap.Ns f.locals m:=Y;rw[O1]at Y;exact Px D a.heap.objs.size ON m t OK PV Y (OH.kU (tz _) PR)
 ·have P2:=T.item (X.cW a l scope f fp) rfl rfl rfl O4 i [] Pc _ t (λ_ _=>False) OJ (OX OJ n5) Pf go;refine lG P2 λr ON P_=>?_;obtain⟨u,OR,Pq⟩:=P_;subst OR;refine lG Pq λ_ OV Qa=>Do Qa λx OY OK PY Qe=>?_;obtain⟨P8,OW,n7⟩:=Qe;have Pn:=OK.pinned (OX OK n7) (T.obj _ _ OW);refine lG (pg _ OV _ OY x u _ Pn PY (step x OY P8)) λ_ PZ Qb=>uK Qb λOP Pj Po Qg=>?_;obtain⟨O7,PU⟩:=Qg;refine lG (pt _ PZ OP Pj _ Po PU) λb P0 Qc=>jV Qc λPk O0 OM=>?_;have fin:∀ {s':Go}{I:Hp},Inv (X.cW a l scope f fp) ([]++nh fp OV.heap) OP I s'->Pp I->∃m,m<n/\∃i I,Inv (X.cW a l scope f fp) [] (nm ZB (own.map (·.2))) I s'/\OO i s'.heap/\(∀b∈fp,I b=none)/\W i m I:=λ{s' I} L nx=>by
   obtain⟨PN,hm,P5⟩:=Pw I nx;have Pa:∀b∈fp,∀o,OV.heap.get? b=some o->s'.heap.get? b=some o/\I b=none:=λb d o e=>
    let z:=L.pin (b,o) (fY _ (fY _ (uz d e)))
    ⟨z.1,z.2.1⟩
   have PD:(nm ZB (own.map (·.2))).length=OP.length:=by rw[<- O7,v7]
   refine⟨PN,hm,i+1,I,(L.rB (WP:=[])).weak PD (λj v e=>?_),T.keep _ _ _ OW λb d o e=>(Pa b d o e).1,λb d=>?_,P5⟩
   ·rw[<- O7]at e;exact(v8 e).1
   ·obtain⟨o,e,_⟩:=T.obj _ _ OW b d;exact(Pa b d o e).2
  cases b with
  |false=>
   simp only[fX,aK]at OM⊢;exact fin O0 OM
  |true=>
   simp only[a9]at OM⊢;refine lG (OU _ P0 OP Pk _ O0 OM) λz Qn Qd=>Do Qd λQp Qi Pl PX Qh=>?_;obtain⟨acc,Pr,PM,nx⟩:=Qh;exact Fd (X:=X.cW a l scope f fp) Pl Pr PM PX λQo Pm=>fin Pm nx
exact codeAny_compStart_list O9 (T.self X.A 0 _ _ _ Pe O9))
theorem iT {a tg bx:s5}{c:List s5}{scope:d_}{own:List (Str×Nat)}{pos:Pos}{i:TI}{g:TG}{d:TT}{te:TE}(w:X.calm=true) (t:X.N.Nodup) (hi:PI X tg bx i) (ok:mb X.N X.env.scope scope own)
  (hg:∀(s:Go) (H:Hp) (C:WF) (cl:List (Str×WF)) (fp:List WF),PG (X.cW s H scope (ff scope cl C X.env) fp) tg g) (E:∀(s:Go) (H:Hp) (C:WF) (cl:List (Str×WF)) (fp:List WF),mn (X.cW s H scope (ff scope cl C X.env) fp) c d)
  (y:∀(s:Go) (H:Hp) (C:WF) (cl:List (Str×WF)) (fp:List WF),PE (X.cW s H scope (ff scope cl C X.env) fp) a te) (A:∀x,rX bx X.env x=pure x:=by intro _;rfl):
  PE X (.ListComp a [⟨tg,bx,c,0⟩] scope pos) (lD i g d te (own.map (·.2))):=by
 intro WP s ZB H Q XV h;rw[eval_ListComp];refine zO w t XV hi ok hg E y A h λD C s' m I j q z f=>⟨m,z,λT J=>?_⟩;obtain⟨k,l,L,n,p,r⟩:=f;exact⟨.ref D,I,j.turned (t':=s'.toks) (λb o u e=>(J.2 b u).trans e) k l n p r,O,q⟩
theorem p4 {i:Nat}{y:Str}{j:Pos}{d tg bx:s5}{c:List s5}{scope:d_}{own:List (Str×Nat)}{pos u:Pos}{l:TI}{g:TG}{k:TT}{te:TE}(OI:X.calm=true) (r:X.N.Nodup) (OP:X.N[i]?=some y) (t:X.env.scope.names.lookup y=some .local)
  (ON:lO (.ListComp d [⟨tg,bx,c,0⟩] scope pos) (some (.Name y j)) u.line X.env=pure true) (hi:PI X tg bx l) (ok:mb X.N X.env.scope scope own)
  (hg:∀(s:Go) (H:Hp) (C:WF) (cl:List (Str×WF)) (fp:List WF),PG (X.cW s H scope (ff scope cl C X.env) fp) tg g) (OO:∀(s:Go) (H:Hp) (C:WF) (cl:List (Str×WF)) (fp:List WF),mn (X.cW s H scope (ff scope cl C X.env) fp) c k)
  (OJ:∀(s:Go) (H:Hp) (C:WF) (cl:List (Str×WF)) (fp:List WF),PE (X.cW s H scope (ff scope cl C X.env) fp) d te) (OM:∀x,rX bx X.env x=pure x:=by intro _;rfl):
  PS X (.Assign [.Name y j] (.ListComp d [⟨tg,bx,c,0⟩] scope pos) u) (hY (lD l g k te (own.map (·.2))) (bh i)):=by(
intro WP s ZB H D XV h;rw[exec_Assign_Name_used _ _ _ _ ON];refine IR (wF (IR ?_));show wpAny _ X.A (do let _ <-Df (.ListComp d [⟨tg,bx,c,0⟩] scope pos) scope X.env (firstIterPos [⟨tg,bx,c,0⟩] pos) (newList []) false (eval bx X.env) (some (kj (.Name y j) X.env))) _ _ s;have h:lD l g k te (own.map (·.2)) ZB H (λx H1=>bh i x ZB H1 D.nx):=h;refine IR (wP (zO (Qf:=λ_ s'=>SP X WP D .next s') OI r XV hi ok hg OO OJ OM h λL C s' m I w q OK f=>?_) λ_ s' OL=>t3 (t3 OL));show wpAny _ _ (kj (.Name y j) X.env (.ref L)) _ _ _;refine CW (Bv (v:=W1.ref L) w r OP (.inl t) rfl (λOQ E OT=>?_) (.inr t));obtain⟨a,OR,U⟩:=OT;obtain⟨J,n,OU,Q,p,T⟩:=f;have Y:C≠a:=by
 rcases U with z|z
 ·rw[z];exact n
 ·exact λe=>p y a z e.symm
refine⟨m,OK.sameBut OR Y,λOV OS=>?_⟩;exact⟨_,I,E.turned (t':=OQ.toks) (λb o OH e=>(OS.2 b OH).trans e) J n Q p T,q⟩)
end
theorem mP{K:wf}{g:TG}{n:TT}{te:TE}{j:Hp->Prop}(Pv:Nat->Hp->Prop) (h0:Pv 0 (Uf H1 D (.lst []))) (o:∀i H,i<=xs.length->Pv i H->TD K H a xs)
  (r:∀i x H,xs[i]?=some x->Pv i H->g x (nm ZB vs) H λc H2=>nm c vs=nm ZB vs/\n c H2 λb d=>
   if b=true then te c d λy f=>∃acc,f D=some (.lst acc)/\acc.length<Gc/\Pv (i+1) (Uf f D (.lst (acc++[y])))else Pv (i+1) d) (hd:∀H,Pv xs.length H->j H):
  ∃W:Nat->Nat->Hp->Prop,(∃m,W 0 m (Uf H1 D (.lst [])))/\∀i m H,W i m H->
   ((cO K a).stop i H/\j H)\/((cO K a).go i H/\∃h:Hp->Prop,(∀I,h I->∃l,l<m/\W (i+1) l I)/\∀x I,(cO K a).eQ i H x I->g x (nm ZB vs) I λc H2=>nm c vs=nm ZB vs/\n c H2 λb d=>
    if b=true then te c d λy f=>∃acc,f D=some (.lst acc)/\acc.length<Gc/\h (Uf f D (.lst (acc++[y])))else h d):=by(
refine⟨λi m H=>m=xs.length-i/\i<=xs.length/\Pv i H,⟨xs.length,by simp,f4 _,h0⟩,?_⟩;rintro i m H ⟨rfl,hi,p⟩;have q:=o i H hi p;by_cases k:i<xs.length
·refine .inr ⟨⟨xs,xs[i],q,by simp[k]⟩,Pv (i+1),λI s=>⟨xs.length-(i+1),by lia,O,k,s⟩,λx I y=>?_⟩;obtain⟨e,y⟩:=y;subst e;exact r i x _ (y xs q) p
·have e:i=xs.length:=by lia
 subst e;exact .inl ⟨⟨xs,q,tz _⟩,hd H p⟩)
noncomputable def yy (N:List Str) (a scope:d_) (own:List (Str×Nat)):Bool:=
 (match scope.kind with|.function=>true|_=>false)&&(scope.names.all λy=>decide (scope.names.lookup y.1=some y.2))&&(own.all λp=>decide (N[p.2]?=some p.1))&&
  (scope.names.all λy=>match y.2 with
   |.free=>(match a.names.lookup y.1 with|some .cell=>true|some .free=>true|_=>false)
   |.local=>decide (y.1∈own.map (·.1))||decide (y.1∉N)
   |.cell=>decide (y.1∈own.map (·.1))||decide (y.1∉N)
   |_=>true)
theorem fx(h:yy N d scope own=true):mb N d scope own:=by(
unfold yy at h;simp only[ev,hq,dL]at h;obtain⟨⟨⟨h1,h2⟩,c⟩,b⟩:=h;refine⟨?_,h2,c,λy a e=>?_,λy a e=>?_⟩
·split at h1
 ·assumption
 ·cases h1
·have q:=b y a;simp only[e]at q;split at q<;>first|exact .inl (by assumption)|exact .inr (by assumption)|cases q
·have q:=b y a;rcases e with e|e<;>(simp only[e,hj,dL]at q;exact q))
section
variable {κ:Type} [DecidableEq κ]
noncomputable def it (T0:List (κ×W1)) (k:κ):Option W1:=(T0.find? λa=>decide (a.1=k)).map (·.2)
noncomputable def aC (T0:List (κ×W1)) (k:κ) (v:W1):List (κ×W1):=
 if(T0.any λa=>decide (a.1=k))=true then T0.map (λa=>if a.1=k then(a.1,v)else a)else T0++[(k,v)]
theorem M9:it ([]:List (κ×W1)) k=none:=rfl
theorem fO{k:κ}(e:p.1=k):it (p::r) k=some p.2:=by simp[it,kz,e]
theorem fN{k:κ}(e:¬p.1=k):it (p::r) k=it r k:=by simp[it,kz,e]
theorem j' (k:κ):∀T0:List (κ×W1),(T0.any λa=>decide (a.1=k))=(it T0 k).isSome
 |[]=>rfl
 |p::r=>by
  rw[rQ];by_cases e:p.1=k
  ·simp only[fO e,sK e,Bool.true_or,DO]
  ·rw[fN e,sn e,DF];exact j' k r
theorem BS (k j:κ) (y:W1):∀T0:List (κ×W1),it (T0.map λa=>if a.1=k then(a.1,y)else a) j=(it T0 j).map λx=>if j=k then y else x
 |[]=>rfl
 |p::r=>by
  have b:=BS k j y r;rw[m0];by_cases h:p.1=k
  ·rw[No h];by_cases e:p.1=j
   ·rw[fO (p:=(p.1,y)) e,fO e,ih,No (e.symm.trans h)]
   ·rw[fN (p:=(p.1,y)) e,fN e,b]
  ·rw[Ps h];by_cases e:p.1=j
   ·rw[fO (p:=p) e,fO e,ih,Ps (λz=>h (e.trans z))]
   ·rw[fN (p:=p) e,fN e,b]
theorem BV (k j:κ) (y:W1):∀T0:List (κ×W1),it T0 k=none->it (T0++[(k,y)]) j=if j=k then some y else it T0 j
 |[],_=>by
  by_cases e:k=j
  ·rw[No e.symm];exact fO (p:=(k,y)) e
  ·rw[Ps (λz=>e z.symm)];exact fN (p:=(k,y)) e
 |p::r,a=>by
  rw[l9];have b:¬p.1=k:=λz=>by rw[fO z]at a;cases a
  rw[fN b]at a;have c:=BV k j y r a;by_cases e:p.1=j
  ·rw[fO e,fO e,Ps (λz=>b (e.trans z))]
  ·rw[fN e,fN e,c]
theorem kb (T0:List (κ×W1)) (k j:κ) (y:W1):it (aC T0 k y) j=if j=k then some y else it T0 j:=by(
unfold aC;by_cases a:(T0.any λc=>decide (c.1=k))=true
·rw[No a,BS];rw[j']at a;by_cases e:j=k
 ·obtain⟨x,b⟩:=DL.mp a;rw[No e,e,b,ih,No rfl]
 ·rw[Ps e];cases it T0 j with
  |none=>rfl
  |some x=>rw[ih,Ps e]
·rw[Ps a];refine BV k j y T0 ?_;rw[j']at a;cases q:it T0 k with
 |none=>rfl
 |some x=>rw[q]at a;exact(a rfl).elim)
theorem ur (T0:List (κ×W1)) (k:κ) (v:W1):(aC T0 k v).length<=T0.length+1:=by(
unfold aC;split
·rw[FM];lia
·rw[ls,bt,ky];lia)
theorem dg.uk(r:dg o u):o.isSome=u.isSome:=by(
cases o with
|none=>cases u with
 |none=>rfl
 |some _=>exact(show False from r).elim
|some _=>cases u with
 |none=>exact(show False from r).elim
 |some _=>rfl)
theorem dg.getD(r:dg o u) (a:RelV d d'):RelV (o.getD d) (u.getD d'):=by(
cases o with
|none=>cases u with
 |none=>exact a
 |some _=>exact(show False from r).elim
|some _=>cases u with
 |none=>exact(show False from r).elim
 |some _=>exact r)
theorem KV.val(r:KV T0 vs) (k:κ):dg (it T0 k) (h9 vs k):=by(
unfold KV at r
induction r with
|nil=>exact True.intro
|@cons p q ps c h t d=>
 obtain⟨h1,h2⟩:=h;by_cases e:p.1=k
 ·have a:q.1=k:=h1.symm.trans e;have b:h9 (q::c) k=some q.2:=by simp[h9,kz,a]
  rw[fO e,b];exact h2
 ·have a:¬q.1=k:=λz=>e (h1.trans z);have b:h9 (q::c) k=h9 c k:=by simp[h9,kz,a]
  rw[fN e,b];exact d)
theorem KV.any(r:KV T0 vs) (k:κ):(T0.any λa=>decide (a.1=k))=vs.any λa=>decide (a.1=k):=by(
unfold KV at r
induction r with
|nil=>rfl
|cons h t b=>rw[rQ,rQ,b,h.1])
theorem KV.u4(r:KV T0 vs) (k:κ) (c:RelV y u):
  KV (T0.map λa=>if a.1=k then(a.1,y)else a) (vs.map λa=>if a.1=k then(a.1,u)else a):=by(
unfold KV at r⊢
induction r with
|nil=>exact .nil
|@cons p q ps d h t b=>
 rw[m0,m0];refine .cons ?_ b;obtain⟨h1,h2⟩:=h;by_cases e:p.1=k
 ·rw[No e,No (h1.symm.trans e)];exact⟨h1,c⟩
 ·rw[Ps e,Ps (λz=>e (h1.trans z))];exact⟨h1,h2⟩)
theorem KV.put(r:KV T0 vs) (k:κ) (a:RelV y u):KV (aC T0 k y) (w3 vs k u):=by(
unfold aC w3;rw[r.any k];by_cases e:(vs.any λb=>decide (b.1=k))=true
·rw[No e,No e];exact r.u4 k a
·rw[Ps e,Ps e];exact Paired.snoc r ⟨O,a⟩)
theorem KV.length{vs:List (κ×Tk)}(r:KV T0 vs):T0.length=vs.length:=Paired.length r
end
theorem iO(r:RelV (kV k) u):(cj P w).is k u=true:=by(
cases k with
|inl i=>obtain⟨t,e⟩:=(show ∃t,u=ij i t from r);subst e;exact IE P w i t
|inr x=>obtain⟨t,e⟩:=(show ∃t,u=Value.str x t from r);subst e;exact IF P w x t)
theorem zx:∀ {ks:List sw}{us:List Tk},ww (ks.map kV) us->ItemsAre (cj P w) ks us
 |[],_,r=>by rw[hr]at r;cases r;exact .nil
 |k::ks,_,r=>by
  rw[m0]at r;cases r with
  |cons h t=>exact .cons (iO h) (zx t)
abbrev KT (H:Hp):List (List sw×W1)->List (List sw×WF×Tk)->Prop:=Paired λp q=>p.1=q.1/\H q.2.1=some (.tup (p.1.map kV))/\RelV p.2 q.2.2
theorem KT.val(r:KT H T0 xs) (k:List sw):dg (it T0 k) ((h_ xs k).map (·.2)):=by(
induction r with
|nil=>exact True.intro
|@cons p q ps c h t d=>
 obtain⟨h1,_,h2⟩:=h;by_cases e:p.1=k
 ·have a:q.1=k:=h1.symm.trans e;have b:h_ (q::c) k=some q.2:=by simp[h_,kz,a]
  rw[fO e,b];exact h2
 ·have a:¬q.1=k:=λz=>e (h1.trans z);have b:h_ (q::c) k=h_ c k:=by simp[h_,kz,a]
  rw[fN e,b];exact d)
theorem KT.u4(r:KT H T0 xs) (k:List sw) (d:RelV y u):
  KT H (T0.map λa=>if a.1=k then(a.1,y)else a) (xs.map (putAt k u)):=by(
induction r with
|nil=>exact .nil
|@cons p q ps f h t c=>
 rw[m0,m0];refine .cons ?_ c;obtain⟨h1,h2,b⟩:=h;unfold putAt;by_cases e:p.1=k
 ·rw[No e,No (h1.symm.trans e)];exact⟨h1,h2,d⟩
 ·rw[Ps e,Ps (λz=>e (h1.trans z))];exact⟨h1,h2,b⟩)
theorem KT.put(r:KT H T0 xs) (k:List sw) (c:H b=some (.tup (k.map kV))) (a:RelV y u):
  KT H (aC T0 k y) (storedH xs k b u):=by(
have e:(T0.any λd=>decide (d.1=k))=(h_ xs k).isSome:=by
 rw[j',(r.val k).uk,DP]
unfold aC storedH;rw[e];by_cases q:(h_ xs k).isSome=true
·rw[No q,No q];exact r.u4 k a
·rw[Ps q,Ps q];exact Paired.snoc r ⟨O,c,a⟩)
theorem KT.keeps(r:KT H T0 xs) (a:∀b ys,H b=some (.tup ys)->I b=some (.tup ys)):KT I T0 xs:=
 Paired.z9 r λ_ _ z=>⟨z.1,a _ _ z.2.1,z.2.2⟩
section
variable {P:fr}{w:g2}{H:Hp}{h:s2}{a:WF}
theorem AO(ok:aV P w H h) (e:Rd H a u):bA P w H h a u:=e.ok ok
theorem kN(ok:aV P w H h) (e:Rd H a (.dK T0)):T0.length<=Gc/\(a==eS)=false/\∃vs,KV T0 vs/\h.DictOf (cj P w) a vs:=
 show bA P w H h a (.dK T0) from AO ok e
theorem y0(ok:aV P w H h) (e:H a=some (.dK T0)):T0.length<=Gc/\(a==eS)=false/\∃vs,KV T0 vs/\h.DictOf (cj P w) a vs:=kN ok (.inl e)
theorem mN(ok:aV P w H h) (e:H a=some (.tup (ks.map kV))):(lN (cj P w)).is h ks a:=by
 obtain⟨_,Op,r,o,h1,h2,n,b⟩:=(show bA P w H h a (.tup (ks.map kV)) from ok a _ e);exact⟨o,Op.toArray,n,h1,h2,b,by simpa using zx r⟩
theorem kO(ok:aV P w H h) (e:Rd H a (.dT T0)):T0.length<=Gc/\(a==eS)=false/\
  ∃xs,KT H T0 xs/\h.DictOfH (lN (cj P w)) a xs:=by(
obtain⟨z,y,xs,r,o,es,ep,h1,h2,d,f,g⟩:=(show bA P w H h a (.dT T0) from AO ok e);refine⟨z,y,xs,r,o,es,ep,h1,h2,d,f,λx b=>?_,g⟩;have all:∀ {l:List (List sw×W1)}{m:List (List sw×WF×Tk)},KT H l m->∀x∈m,(lN (cj P w)).is h x.1 x.2.1:=by
 intro l m q
 induction q with
 |nil=>intro x b;exact nomatch b
 |@cons p q ps j c t i=>
  intro x b;rcases rs.mp b with e|b
  ·subst e;exact mN ok (by rw[<- c.1];exact c.2.1)
  ·exact i x b
exact all r x b)
theorem y3(ok:aV P w H h) (e:H a=some (.dT T0)):T0.length<=Gc/\(a==eS)=false/\
  ∃xs,KT H T0 xs/\h.DictOfH (lN (cj P w)) a xs:=kO ok (.inl e)
end
def cN (H:Hp) (a:WF) (y:W1) (r:Option W1):Prop:=
 (∃T0 k,Rd H a (.dK T0)/\y=kV k/\r=it T0 k)\/∃T0 k b,Rd H a (.dT T0)/\y=.ref b/\H b=some (.tup (k.map kV))/\r=it T0 k
def f7 (H:Hp) (a:WF) (y v:W1) (I:Hp):Prop:=
 (∃T0 k,H a=some (.dK T0)/\y=kV k/\T0.length<Gc/\I=Uf H a (.dK (aC T0 k v)))\/
 ∃T0 k b,H a=some (.dT T0)/\y=.ref b/\H b=some (.tup (k.map kV))/\T0.length<Gc/\I=Uf H a (.dT (aC T0 k v))
theorem cN.k{k:sw}(e:H a=some (.dK T0)):cN H a (kV k) (it T0 k):=.inl ⟨T0,k,.inl e,O,O⟩
theorem cN.t{k:List sw}(e:H a=some (.dT T0)) (c:H b=some (.tup (k.map kV))):cN H a (.ref b) (it T0 k):=.inr ⟨T0,k,b,.inl e,O,c,O⟩
theorem f7.k{k:sw}(e:H a=some (.dK T0)) (b:T0.length<Gc):f7 H a (kV k) v (Uf H a (.dK (aC T0 k v))):=.inl ⟨T0,k,e,O,b,O⟩
theorem f7.t{k:List sw}(e:H a=some (.dT T0)) (c:H b=some (.tup (k.map kV))) (d:T0.length<Gc):
  f7 H a (.ref b) v (Uf H a (.dT (aC T0 k v))):=.inr ⟨T0,k,b,e,O,c,d,O⟩
section
variable {X:Cx}{WP:List (WF×Obj)}{ZB:St}{H:Hp}{s:Go}{a:WF}{y v:W1}{u r:Tk}{o:Option W1}{A:bJ}{E:Tk->Go->Prop}
theorem Inv.big (XV:Inv X WP ZB H s):eS<s.heap.objs.size:=by
 have h:cS<s.heap.objs.size:=(XV.mod.glob.keeps XV.bk).lt;exact jb (by decide) h
theorem FQ(hu:A.units+1<cT) (XV:Inv X WP ZB H s) (g:cN H a y (some v)) (m:RelV y u) (h:∀c s',Inv X WP ZB H s'->RelV v c->Q c s'):
  wpAny (AT X.prog X.w) A (lQ (.ref a) u) Q E s:=by(
rcases g with⟨T0,k,e,f,l⟩|⟨T0,k,b,e,f,n,l⟩
·subst f;obtain⟨z,hd,vs,i,d⟩:=kN XV.ag e;obtain⟨c,hw,j⟩:=dg.some_of (v:=v) (o:=h9 vs k) (by rw[l];exact i.val k);exact C1 (iO m) d.mapOf hw (h c _ (XV.tok _) j)
·subst f;cases(show u=em b from m);obtain⟨z,hd,xs,i,d⟩:=kO XV.ag e;obtain⟨c,hw,j⟩:=dg.some_of (v:=v) (o:=(h_ xs k).map (·.2)) (by rw[l];exact i.val k);obtain⟨p,q,t⟩:=DN.mp hw;refine wpAny_getItem_heap (rW hu) (mN XV.ag n) d q ?_;rw[t];exact h c _ (XV.tok _) j)
theorem FT(hu:A.units+1<cT) (XV:Inv X WP ZB H s) (g:cN H a y o) (i:RelV y u) (h:∀s',Inv X WP ZB H s'->Q (.bool (!o.isSome)) s'):
  wpAny (AT X.prog X.w) A (dR .NotIn u (.ref a)) Q E s:=by(
rcases g with⟨T0,k,e,d,l⟩|⟨T0,k,b,e,d,j,l⟩
·subst d;obtain⟨z,hd,vs,f,c⟩:=kN XV.ag e;refine wpAny_notIn_of (iO i) hd c.mapOf ?_;rw[<- (f.val k).uk,<-l];exact h _ (XV.tok _)
·subst d;cases(show u=em b from i);obtain⟨z,hd,xs,f,c⟩:=kO XV.ag e;refine wpAny_notIn_heap (rW hu) (mN XV.ag j) hd c ?_;have q:=(f.val k).uk;rw[DP]at q;rw[<- q,<-l];exact h _ (XV.tok _))
theorem oZ(XV:Inv X WP ZB H s) (g:iw (H a)) (f:lT a s.heap h') (d:∃q,h'.get? a=some q) (new:bA X.prog X.w (Uf H a ob) h' a ob):
  Inv X WP ZB (Uf H a ob) {s with heap:=h',toks:=t'}:=
 XV.write (x:=a) (e:=a) g (.inl rfl) (λb q c z=>(f.2 b c).trans z) d new
theorem yZ(z:T0.length<=Gc) (hd:(a==eS)=false) (c:KV T0 vs) (b:h'.DictOf (cj P w) a vs):
  bA P w I h' a (.dK T0):=⟨z,hd,vs,c,b⟩
theorem FU(hu:A.units+1<cT) (XV:Inv X WP ZB H s) (g:f7 H a y v I) (J:RelV y u) (D:RelV v r) (h:∀s',Inv X WP ZB I s'->Q () s'):
  wpAny (AT X.prog X.w) A (wY (.ref a) u r) Q E s:=by(
rcases g with⟨T0,k,e,n,l,m⟩|⟨T0,k,b,e,n,x,l,m⟩
·subst n m;obtain⟨z,hd,vs,d,j⟩:=y0 XV.ag e;have hz:vs.length<=Gc:=by rw[<- d.length];exact z
 have p:(aC T0 k v).length<=Gc:=by have:=ur T0 k v;lia
 refine wpAny_setItem_pairs (hsz:=hz) (iO J) j λh' f t=>h _ ?_;have U:∃q,h'.get? a=some q:=let ⟨q,_,_,i,_⟩:=f;⟨q,i⟩;exact oZ XV (by rw[e];exact True.intro) t U (yZ p hd (d.put k D) f)
·subst n m;cases(show u=em b from J);obtain⟨z,hd,xs,d,j⟩:=y3 XV.ag e;have hz:xs.length<=Gc:=by rw[<- Paired.length d];exact z
 have p:(aC T0 k v).length<=Gc:=by have:=ur T0 k v;lia
 refine wpAny_setItem_heap (hsz:=hz) (rW hu) (mN XV.ag x) j λh' f t=>h _ ?_;obtain⟨q,es,ep,i,h2,L,N,_,T⟩:=f;refine oZ XV (by rw[e];exact True.intro) t ⟨q,i⟩ ⟨p,hd,_,(d.put k x D).keeps λc ys C=>?_,q,es,ep,i,h2,L,N,T⟩;rw[UF (Aa C e (λz=>nomatch z))];exact C)
end
def s7 (i:s5):Prop:=∀ov a,r9 i false ov a=w0 [ov,a] (lQ ov a)
theorem Bw{id:String}
  (f:Dp (.type T) "__getitem__"=pure (some (.builtin id))) (g:s7 c)
  (h:wpAny (AT prog w) A (eval d7 env) (λo d=>wpAny (AT prog w) A (eval c env) (λi a=>a.TypeIs o T/\wpAny (AT prog w) A (lQ o i) Q E a) E d) E s):
  wpAny (AT prog w) A (eval (.Subscript d7 c pos) env) Q E s:=by(
refine sJ (eT h (λo d j=>eT j (λi a b=>?_) λ_ _ x=>x) λ_ _ x=>x);obtain⟨hT,b⟩:=b;unfold sH;refine IR ?_;rw[getitemInPython_of_ne hT.not_modules];refine IR (wpAny_specialOf hT f ?_);have fin:wpAny (AT prog w) A (r9 c false o i) (λr e=>wpAny (AT prog w) A (letTemporaryGo d7 o r >>= λ_=>pure r) Q E e) E a:=by
 rw[g o i];exact wpAny_operating (eT b (λr e k=>IR (wpAny_letTemporaryGo (t3 k))) λ_ _ x=>x)
first
 |exact t3 (IR fin)
 |exact IR (t3 (IR fin))
 |exact IR fin)
theorem F1{ZB:St}(XV:Inv X WP ZB H s) (g:cN H a y o):s.TypeIs (.ref a) "dict":=by(
rcases g with⟨T0,k,e,_,_⟩|⟨T0,k,b,e,_,_,_⟩
·obtain⟨_,_,vs,_,c⟩:=kN XV.ag e;exact c.typeIs
·obtain⟨_,_,xs,_,c⟩:=kO XV.ag e;exact c.typeIs)
def MC (td ty:TE):TE:=λZB H Q=>td ZB H λx H1=>ty ZB H1 λy H2=>∃a v,x=.ref a/\cN H2 a y (some v)/\Q v H2
def MG (ty td:TE):TE:=λZB H Q=>ty ZB H λy H1=>td ZB H1 λx H2=>∃a o,x=.ref a/\cN H2 a y o/\Q (.bl (!o.isSome)) H2
def LM (td ty tv:TE):TS:=λD ZB H=>tv ZB H λv H1=>td ZB H1 λx H2=>ty ZB H2 λy c=>∃a b,x=.ref a/\f7 c a y v b/\D.nx ZB b
section
variable {X:Cx}{o i e d7:s5}{pos eN lI:Pos}{td ty tv:TE}
theorem uQ (hu:X.A.units+1<cT) (f:PE X o td) (hi:PE X i ty) (j:s7 i):PE X (.Subscript o i pos) (MC td ty):=by
 intro WP s ZB H Q XV h;refine Bw DG.lookup j (wP (f WP s ZB H _ XV h) λu q r=>Do r λx H1 c n k=>wP (hi WP q ZB H1 _ c k) λz C t=>Do t λy H2 b p w=>?_);obtain⟨a,v,ex,g,l⟩:=w;subst ex;obtain rfl:u=em a:=n;exact⟨F1 b g,FQ hu b g p λE D d m=>⟨v,H2,d,m,l⟩⟩
theorem Ax (hu:X.A.units+1<cT) (hi:PE X i ty) (f:PE X o td):PC X .NotIn i o (MG ty td):=by
 intro WP s ZB H Q XV h;refine wP (hi WP s ZB H _ XV h) λt n p=>Do p λy H1 b m j=>wP (f WP n ZB H1 _ b j) λu w q=>Do q λx H2 c l r=>?_;obtain⟨a,ov,ex,g,k⟩:=r;subst ex;obtain rfl:u=em a:=l;exact FT hu c g m λz d=>⟨.bl (!ov.isSome),H2,d,O,k⟩
theorem ni (hu:X.A.units+1<cT) (k:PE X o td) (hi:PE X i ty) (hv:PE X d7 tv) (l:lO d7 (some (.Subscript o i eN)) pos.line X.env=pure false):
  PS X (.Assign [.Subscript o i eN] d7 pos) (LM td ty tv):=by
 intro WP s ZB H D XV h;refine wpAny_Assign_Subscript (wP (hv WP s ZB H _ XV h) λr z E=>Do E λv H1 c q m=>wP (k WP z ZB H1 _ c m) λu C J=>Do J λx H2 d t n=>wP (hi WP C ZB H2 _ d n) λT U L=>Do L λy Q f w N=>?_) l;obtain⟨a,b,ex,g,p⟩:=N;subst ex;obtain rfl:u=em a:=t;exact FU hu f g w q λY j=>⟨ZB,b,j,p⟩
end
theorem yY(h:s2) (a:eS<h.objs.size):bA P w H (h.push {cls:=.type "dict",data:=.dict #[]}) h.objs.size (.dK []):=
 ⟨f4 _,lK.mpr (Ne.symm (cb a)),[],.nil,Heap.DictOf.new h⟩
theorem F3(h:s2) (a:eS<h.objs.size):bA P w H (h.push {cls:=.type "dict",data:=.dict #[]}) h.objs.size (.dT []):=
 ⟨f4 _,lK.mpr (Ne.symm (cb a)),[],.nil,_,#[],0,bc _ rfl,⟨O,O,O⟩,O,O,rP⟩
def ME:TE:=λ_ H Q=>∀p,H p=none->Q (.ref p) (Uf H p (.dK []))
def MF:TE:=λ_ H Q=>∀p,H p=none->Q (.ref p) (Uf H p (.dT []))
section
variable {X:Cx}{pos:Pos}
theorem KD:PE X (.Dict [] [] pos) ME:=λWP s ZB H Q XV h=>
 C2 ⟨.ref s.heap.objs.size,_,XV.laid (a:=s.heap.objs.size) (o:=.dK []) (t':=s.toks) (λ_ _ q=>ln _ q) (tz _) (yY s.heap XV.big),O,h _ (XV.ag.fresh (tz _))⟩
theorem Ay:PE X (.Dict [] [] pos) MF:=λWP s ZB H Q XV h=>
 C2 ⟨.ref s.heap.objs.size,_,XV.laid (a:=s.heap.objs.size) (o:=.dT []) (t':=s.toks) (λ_ _ q=>ln _ q) (tz _) (F3 s.heap XV.big),O,h _ (XV.ag.fresh (tz _))⟩
end
def vN:List (TE×TE)->St->Hp->(List (W1×W1)->Hp->Prop)->Prop
 |[],_,H,Q=>Q [] H
 |(tk,tv)::r,ZB,H,Q=>tk ZB H λx H1=>tv ZB H1 λy H2=>vN r ZB H2 λps a=>Q ((x,y)::ps) a
abbrev VV:List (W1×W1)->List (Tk×Tk)->Prop:=Paired λp q=>RelV p.1 q.1/\RelV p.2 q.2
def oK (X:Cx) (pos:Pos) (keys:List (Option s5)) (b:List s5) (a:List (TE×TE)):Prop:=
 ∀(WP:List (WF×Obj)) (s:Go) (ZB:St) (H:Hp) (Q:List (W1×W1)->Hp->Prop),Inv X WP ZB H s->vN a ZB H Q->
  wpAny (AT X.prog X.w) X.A (evalPairs (pairTrees keys b X.env pos)) (λvs s'=>∃ps I,Inv X WP ZB I s'/\VV ps vs/\Q ps I) X.xe s
theorem KX:oK X pos [] [] []:=λWP s ZB H Q XV h=>pairTrees_nil_walk ⟨[],H,XV,.nil,h⟩
theorem KW(e:PE X k tk) (hv:PE X v tv) (f:oK X pos ks vs q):
  oK X pos (some k::ks) (v::vs) ((tk,tv)::q):=λWP s ZB H Q XV h=>
 pairTrees_cons_walk (wP (e WP s ZB H _ XV h) λu o r=>Do r λx H1 b m g=>wP (hv WP o ZB H1 _ b g) λA p t=>Do t λy H2 c n i=>
  wP (f WP p ZB H2 _ c i) λC z w=>Do w λps a d l j=>⟨(x,y)::ps,a,d,.cons ⟨m,n⟩ l,j⟩)
noncomputable def k5 (T0 more:List (sw×W1)):List (sw×W1):=more.foldl (λacc a=>aC acc a.1 a.2) T0
theorem KV.merge:∀ {more:List (sw×W1)}{a:List (sw×Tk)}{T0:List (sw×W1)}{vs:List (sw×Tk)},KV more a->KV T0 vs->KV (k5 T0 more) (merged vs a):=by(
intro more a T0 vs r;unfold KV at r
induction r generalizing T0 vs with
|nil=>intro q;exact q
|@cons p q ps d h t b=>
 intro c;have e:KV (aC T0 p.1 p.2) (w3 vs q.1 q.2):=by
  have:=c.put p.1 h.2;rw[<- h.1];exact this
 exact b e)
theorem zX:∀(more T0:List (sw×W1)),(k5 T0 more).length<=T0.length+more.length
 |[],T0=>by show T0.length<=T0.length+0;lia
 |p::r,T0=>by
  have h1:=zX r (aC T0 p.1 p.2);have h2:=ur T0 p.1 p.2;show(k5 (aC T0 p.1 p.2) r).length<=_;rw[bt];lia
theorem yK:∀ {T0:List (sw×W1)}{f:List (Tk×Tk)},VV (T0.map λe=>(kV e.1,e.2)) f->∃d,Carries (cj P w) f d/\KV T0 d
 |[],_,r=>by rw[hr]at r;cases r;exact⟨[],True.intro,.nil⟩
 |p::T0,_,r=>by
  rw[m0]at r;cases r with
  |@cons a b as bs h t=>
   obtain⟨d,c,q⟩:=yK (P:=P) (w:=w) t;obtain⟨i,g⟩:=b;exact⟨(p.1,g)::d,⟨iO h.1,O,c⟩,.cons ⟨O,h.2⟩ q⟩
def MH (b:List (TE×TE)):TE:=λZB H Q=>∀p,H p=none->vN b ZB (Uf H p (.dK [])) λps H2=>H2 p=some (.dK [])/\∃T0:List (sw×W1),ps=T0.map (λa=>(kV a.1,a.2))/\T0.length<=15/\Q (.ref p) (Uf H2 p (.dK (k5 [] T0)))
theorem KC(h:oK X pos keys f C) (k:keys.all (·.isSome)=true) (m:keys.length=f.length) (h0:keys≠[])
  (j:keys.length<=15):PE X (.Dict keys f pos) (MH C):=by(
intro WP s ZB H Q XV q;have n:=XV.ag.fresh (tz s.heap.objs.size);have g:=XV.laid (a:=s.heap.objs.size) (o:=.dK []) (h':=s.heap.push {cls:=.type "dict",data:=.dict #[]}) (t':=s.toks) (λ_ _ q=>ln _ q) (tz _) (yY s.heap XV.big);refine wpAny_Dict_walk (knd:=cj X.prog X.w) k m h0 j (wP (h WP _ ZB _ _ g (q _ n)) λN J D=>Do D λps H2 b x E=>?_);obtain⟨e,T0,ep,lk,t⟩:=E;subst ep;obtain⟨A,c,y⟩:=yK (P:=X.prog) (w:=X.w) x;obtain⟨z,hd,L,u,i⟩:=y0 b.ag e;cases u;refine⟨A,c,i,λh' d r=>⟨.ref s.heap.objs.size,_,?_,O,t⟩⟩;have hz:(k5 [] T0).length<=Gc:=by
 have h1:=zX T0 [];rw[ky]at h1;rw[h7];lia
have l:∃q,h'.get? s.heap.objs.size=some q:=let ⟨q,_,_,p,_⟩:=d;⟨q,p⟩;exact oZ b (by rw[e];exact True.intro) r l (yZ hz hd (y.merge .nil) d))
structure M2 (X:Cx) (o:s5) (m:Str) (dA:Pos) (e f:s5) (di:Pos):Prop where
 base:nO o m X.env (eval o X.env)=eval o X.env
 dC:((d9 di (al [e,f] X.env)).all (λx=>!x.1)&&(sd di (r8 [] X.env)).all (λx=>x.1.isSome)
  &&decide (([e,f]:List s5).length+([]:List sg).length+(if([]:List sg).isEmpty then 0 else 1)<30))=true
 line:(dA.endLine==di.line)=true
 trees:d9 di (al [e,f] X.env)=[(false,eval e X.env),(false,eval f X.env)]
def x8 (H:Hp) (a:WF):Prop:=(∃T0,Rd H a (.dK T0))\/∃T0,Rd H a (.dT T0)
theorem Hq{ZB:St}(XV:Inv X WP ZB H s) (d:x8 H a):
  s.TypeIs (.ref a) "dict" /\(∀b,em a=.ref b->∃ob,s.heap.get? b=some ob/\ob.dict=none)/\(a==eS)=false:=by(
rcases d with⟨T0,e⟩|⟨T0,e⟩
·obtain⟨_,hd,vs,_,c⟩:=kN XV.ag e;refine⟨c.typeIs,λb q=>?_,hd⟩;cases q;obtain⟨ob,_,_,h1,h2,_⟩:=c;exact⟨ob,h1,h2.2.1⟩
·obtain⟨_,hd,xs,_,c⟩:=kO XV.ag e;refine⟨c.typeIs,λb q=>?_,hd⟩;cases q;obtain⟨ob,_,_,h1,h2,_⟩:=c;exact⟨ob,h1,h2.2.1⟩)
section
variable {X:Cx}{WP:List (WF×Obj)}{ZB:St}{H:Hp}{s:Go}{a:WF}{y d:W1}{u r:Tk}{o:Option W1}{A:bJ}{E:Tk->Go->Prop}
theorem FP(hu:A.units+1<cT) (XV:Inv X WP ZB H s) (g:cN H a y o) (m:RelV y u) (j:RelV d r) (h:∀n s',Inv X WP ZB H s'->RelV (o.getD d) n->Q n s'):
  wpAny (AT X.prog X.w) A (call (.builtin "dict.get") [.ref a,u,r]) Q E s:=by(
rcases g with⟨T0,k,e,f,l⟩|⟨T0,k,b,e,f,p,l⟩
·subst f;obtain⟨z,hd,vs,i,c⟩:=kN XV.ag e;refine Di xo c.typeIs DK (DJ _ _ _) (meets_dict_get_default (cj X.prog X.w) a (iO m) hd r) ⟨_,c.mapOf,h _ _ (XV.tok _) ?_⟩;rw[l];exact(i.val k).getD j
·subst f;cases(show u=em b from m);obtain⟨z,hd,xs,i,c⟩:=kO XV.ag e;refine Di xo c.typeIs DK (DJ _ _ _) (meetsH_dict_get_default (lN (cj X.prog X.w)) a b hd r) ⟨rW hu,k,xs,mN XV.ag p,c,h _ _ (XV.tok _) ?_⟩;rw[l];exact(i.val k).getD j)
end
def MD (td ty tx:TE):TE:=λZB H Q=>td ZB H λx H1=>∃a,x=.ref a/\x8 H1 a/\ty ZB H1 λy H2=>tx ZB H2 λz b=>∃o,cN b a y o/\Q (o.getD z) b
section
variable {X:Cx}{o e f:s5}{dA di:Pos}{td ty tx:TE}
theorem uR (hu:X.A.units+1<cT) (n:PE X o td) (l:PE X e ty) (hf:PE X f tx) (m:M2 X o "get" dA e f di):PE X (.Call (.Attribute o "get" dA) [e,f] [] di) (MD td ty tx):=by(
intro WP s ZB H Q XV h;refine wpAny_Call_method m.base m.dC m.line n' xo N6 (wP (n WP s ZB H _ XV h) λu E T=>Do T λx H1 b w Y=>?_);obtain⟨a,ex,d,p⟩:=Y;subst ex;obtain rfl:u=em a:=w;obtain⟨L,N,_⟩:=Hq b d;refine⟨L,N,?_⟩;rw[m.trees];refine xI rfl (Em (xJ (wP (l WP E ZB H1 _ b p) λOH J U=>Do U λy H2 i C q=>
 xJ (wP (hf WP J ZB H2 _ i q) λfv OI ⟨z,c,j,D,ov,g,r⟩=>En ?_))))
exact FP hu j g C D λOK OJ k t=>⟨_,c,k,t,r⟩)
end
section
variable {X:Cx}{WP:List (WF×Obj)}{ZB:St}{H:Hp}{s:Go}{h':s2}
theorem Inv.M1{ch:List WF}(XV:Inv X WP ZB H s) (k:∀b o,b∉ch->s.heap.get? b=some o->h'.get? b=some o) (hf:∀b∈ch,fo X WP H b):Inv X WP ZB H {s with heap:=h',toks:=t'}:=by(
have f:∀b u,H b=some u->b∉ch:=λb u e z=>by
 have q:=(hf b z).1;rw[q]at e;cases e
refine XV.step (g':=s.gens) (d':=s.drawn) (ch:=ch) (λb d=>⟨(hf b d).2.2.2.1,(hf b d).2.1,(hf b d).2.2.2.2.1,(hf b d).2.2.2.2.2⟩) (λb o _ _ a e _=>k b o a e) (λb o _ _ a e _=>⟨o.slots,k b o a e⟩)
 (λ_ _ _ _ n=>n) (λb o a e=>⟨o,k b o a e⟩) (λ_ _ e=>e) (λ_ _ _ e=>e) (λb ps e=>⟨#[],by rw[e];simp⟩) (λm hm=>?_) (λb u e=>?_) XV.bare
·obtain⟨o,es,ep,g,r⟩:=hm;exact⟨o,es,ep,k _ o (λz=>(hf _ z).2.1 rfl) g,r⟩
·refine(XV.ag b u e).gX (λc v a q=>k c v ?_ q) (λ_ q=>q) λ_ _ q=>q;rcases a with z|z
 ·rw[z];exact f b u e
 ·exact f c _ z)
theorem Inv.M3{ch:List WF}{T:WF}(XV:Inv X WP ZB H s) (k:∀b o,b∉ch->s.heap.get? b=some o->h'.get? b=some o) (hf:∀b∈ch,fo X WP H b) (hT:s.heap.objs.size<=T)
  (new:bA X.prog X.w (Uf H T ob) h' T ob):Inv X WP ZB (Uf H T ob) {s with heap:=h',toks:=t'}:=by(
have f:H T=none:=XV.ag.fresh hT;have g:∀b u,H b=some u->b∉ch:=λb u e z=>by
 have q:=(hf b z).1;rw[q]at e;cases e
refine XV.step (g':=s.gens) (d':=s.drawn) (ch:=ch) (λb a=>⟨(hf b a).2.2.2.1,(hf b a).2.1,(hf b a).2.2.2.2.1,(hf b a).2.2.2.2.2⟩) (λb o _ _ d e _=>k b o d e) (λb o _ _ d e _=>⟨o.slots,k b o d e⟩)
 (λb o _ e n=>?_) (λb o d e=>⟨o,k b o d e⟩) (λb xs e=>?_) (λb o u e=>?_) (λb ps e=>⟨#[],?_⟩) (λm hm=>?_) (λb u e=>?_) XV.bare
·rw[UF (cb (c_ (cr e) hT))];exact n
·rw[UF (v0 e f)];exact e
·rw[UF (v0 e f)];exact e
·rw[UF (v0 e f),e];simp
·obtain⟨o,es,ep,h,r⟩:=hm;exact⟨o,es,ep,k _ o (λz=>(hf _ z).2.1 rfl) h,r⟩
·by_cases a:b=T
 ·subst a;rw[KE]at e;cases e;exact new
 ·rw[UF a]at e;refine(XV.ag b u e).gX (λc v d q=>k c v ?_ q) (λc q=>by rw[UF (v0 q f)];exact q) λc xs q=>by rw[UF (v0 q f)];exact q
  rcases d with z|z
  ·rw[z];exact g b u e
  ·exact g c _ z)
theorem Inv.lock(XV:Inv X WP ZB H s) (h:H d=some u) (c:iw (some u)):∃a,Inv X WP ZB (Uf H d (.aw a u)) s:=by(
have x:=XV.ag d u h;have ex:∃a,s.heap.get? d=some a:=by
 cases u with
 |lst xs=>obtain⟨_,_,_,_,e⟩:=x;exact⟨_,e⟩
 |dK T0=>obtain⟨_,_,_,_,o,_,_,e,_⟩:=x;exact⟨o,e⟩
 |dT T0=>obtain⟨_,_,_,_,o,_,_,e,_⟩:=x;exact⟨o,e⟩
 |set S n=>obtain⟨o,_,_,_,e,_⟩:=x;exact⟨o,e⟩
 |ins C dx fs=>obtain⟨_,_,_,e,_⟩:=x;exact⟨_,e⟩
 |ext f=>obtain⟨_,⟨_,e⟩,_⟩:=x;exact⟨_,e⟩
 |_=>exact ef c
obtain⟨a,e⟩:=ex;have new:bA X.prog X.w (Uf H d (.aw a u)) s.heap d (.aw a u):=by
 refine⟨e,x.gX (λb v _ q=>q) (λb q=>?_) λb xs q=>?_⟩
 ·rw[UF (λz=>by rw[z,h]at q;cases q;exact c)];exact q
 ·rw[UF (λz=>by rw[z,h]at q;cases q;exact c)];exact q
exact⟨a,XV.write (x:=d) (e:=d) (t':=s.toks) (h':=s.heap) (by rw[h];exact c) (.inl rfl) (λb v _ q=>q) ⟨a,e⟩ new⟩)
theorem Inv.pJ(XV:Inv X WP ZB H s) (h:H d=some u) (b:iw (some u)):∀o' a,X.jo d≠some (.aw o' a):=λo' a e=>by
 have q:=XV.base.gh d o' a e;rw[h]at q;cases q;exact b
theorem Inv.unlock(XV:Inv X WP ZB H s) (h:H d=some (.aw t u)) (j:∀o' g,X.jo d≠some (.aw o' g)):Inv X WP ZB (Uf H d u) s:=by(
have a:∀b o,H b=some o->(∀o' g,o≠.aw o' g)->b≠d:=λb o e k z=>by
 rw[z,h]at e;cases e;exact k _ _ rfl
have neN:∀b,H b=none->b≠d:=λb e z=>by rw[z,h]at e;cases e
refine⟨XV.ok,XV.os,XV.bare,⟨XV.base.keep,XV.base.slot,λb o e n i=>?_,XV.base.there,λb xs e=>?_,λb o x e=>?_,λb ps e=>?_⟩,XV.loc,XV.cell,?_,λx c e=>?_,λp l=>?_,λb o e=>?_,XV.len⟩
·rw[UF (neN b (XV.base.free b o e n i))];exact XV.base.free b o e n i
·have q:=XV.base.fb b xs e;rw[UF (a b _ q (λ_ _ z=>nomatch z))];exact q
·have q:=XV.base.gh b o x e;rw[UF (λz=>by rw[z]at e;exact j _ _ e)];exact q
·obtain⟨m,q⟩:=XV.base.h3 b ps e;exact⟨m,by rw[UF (a b _ q (λ_ _ z=>nomatch z))];exact q⟩
·rw[UF (neN _ XV.free)];exact XV.free
·rw[UF (neN c (XV.e4 x c e))];exact XV.e4 x c e
·obtain⟨e,n,r⟩:=XV.pin p l;exact⟨e,by rw[UF (neN _ n)];exact n,r⟩
·by_cases f:b=d
 ·rw[f,KE]at e;cases e;rw[f];obtain⟨_,x⟩:=XV.ag d _ h;exact x.gX (λc v _ q=>q) (λc q=>by rw[UF (a c _ q (λ_ _ z=>nomatch z))];exact q) λc xs q=>by rw[UF (a c _ q (λ_ _ z=>nomatch z))];exact q
 ·rw[UF f]at e;exact(XV.ag b o e).gX (λc v _ q=>q) (λc q=>by rw[UF (a c _ q (λ_ _ z=>nomatch z))];exact q) λc xs q=>by rw[UF (a c _ q (λ_ _ z=>nomatch z))];exact q)
end
def MK (t:TS):TS:=λD ZB H=>∃d u,H d=some u/\iw (some u)/\∀a,t ⟨λb I=>I d=some (.aw a u)/\D.nx b (Uf I d u),λv I=>I d=some (.aw a u)/\D.rt v (Uf I d u),λb I=>I d=some (.aw a u)/\D.bk b (Uf I d u),λb I=>I d=some (.aw a u)/\D.ct b (Uf I d u)⟩ ZB (Uf H d (.aw a u))
section
variable {X:Cx}
theorem uV{st:v2}(h:PS X st t):PS X st (MK t):=by(
intro WP s ZB H D XV hw;obtain⟨d,u,hd,c,hw⟩:=hw;obtain⟨i,g⟩:=XV.lock hd c;refine wP (h WP s ZB _ _ g (hw i)) λf j q=>?_;cases f with
|next=>obtain⟨b,I,a,e,q⟩:=q;exact⟨b,_,a.unlock e (XV.pJ hd c),q⟩
|brk=>obtain⟨b,I,a,e,q⟩:=q;exact⟨b,_,a.unlock e (XV.pJ hd c),q⟩
|cont=>obtain⟨b,I,a,e,q⟩:=q;exact⟨b,_,a.unlock e (XV.pJ hd c),q⟩
|ret v=>obtain⟨x,b,I,a,r,e,q⟩:=q;exact⟨x,b,_,a.unlock e (XV.pJ hd c),r,q⟩)
theorem uT{ZB:St}(XV:Inv X WP ZB H s) (o:Obj)
  (T:hC X.prog X.w X.K tg J [s.heap.objs.size] s.heap.objs.size a) (st:a 0 (s.heap.push o)) (q:R J H):s9 X WP ZB tg R (.ref s.heap.objs.size) {s with heap:=s.heap.push o,toks:=tk}:=by(
refine⟨s.heap.objs.size,[s.heap.objs.size],a,J,H,O,XV.kept λb ob e=>ln _ e,T,st,λb c=>?_,q⟩;have e:b=s.heap.objs.size:=by simpa using c
subst e;exact XV.kU (tz _) (XV.ag.fresh (tz _)))
end
def mf (lo c:Int) (n:Nat):It:=⟨λi _=>i<n,λi H x I=>I=H/\x=.int (lo+(i:Nat)*c),λi _=>n<=i⟩
theorem MY {P:fr}{w:g2}{K:wf}{tg:s5}(a:WF) (lo c:Int) (n:Nat):hC P w K tg (mf lo c n) [a] a (λi h=>r7 h a (lo+(i:Nat)*c) ((n:Int)-(i:Nat)) c) where
 mem:=by simp
 obj:=λi h st b d=>by
  have e:b=a:=by simpa using d
  subst e;exact⟨_,st,λv z=>nomatch z⟩
 keep:=λi h h' st k=>k a (by simp) _ st
 item:=by
  intro X q hw p r i WP s ZB H E XV hf st hg;subst q hw p;obtain⟨f,g,C,j,l,m⟩:=hf a (by simp);have W:=Walks.range (prog:=X.prog) (w:=X.w) (XV.ok.hd r) a lo c n;refine W.item i s _ _ hg st λv h' tk hv u D=>?_;obtain⟨t,rfl⟩:=hv;have x:Inv X WP ZB H {s with heap:=h',toks:=tk}:=XV.turned (λb o d e=>D b o (by simpa using d) e) f g j l m;exact⟨_,O,kZ (s:= {s with heap:=h',toks:=tk}) (n:="range_iterator") u rfl rfl (by decide) ⟨.int (lo+(i:Nat)*c),H,x,⟨t,O⟩,⟨O,O⟩,u,λb d=>(hf b d).1⟩⟩
 done:=by
  intro X q hw p r i WP s ZB H E XV hf st hg;subst q hw p;obtain⟨f,g,C,j,l,m⟩:=hf a (by simp);exact CJ (XV.ok.hd r) st (by have:n<=i:=hg;lia) λh' y=>⟨O,XV.turned (t':=s.toks) (λb o d e=>y b o d e) f g j l m⟩
 self:=λA i s Q E st h=>CK st h
def oL (i j c:Int) (n:Nat):Prop:=c≠0/\c.natAbs<1073741824/\Ob i j c=true/\xH i j c=n
theorem oL.neg(a: -(2^62)<=i) (b:i<2^62) (c: -(2^62)<=j) (d:j<2^62):oL i j (-1) (i-j).toNat:=
 ⟨by decide,by decide,ND a b c d,Np i j⟩
def He (ta:TA):TI:=λZB H R=>ta ZB H λvs H1=>∃(i j c:Int) (n:Nat),vs=[.int i,.int j,.int c]/\oL i j c n/\R (mf i c n) H1
section
variable {X:Cx}{tg:s5}
theorem KQ {a b c:s5}{ta:TA}{p pos:Pos}(hg:Gl X "range") (hm:X.mg "range"=none) (x:PA X [a,b,c] ta)
  (z:al [a,b,c] X.env=(false,eval a X.env)::al [b,c] X.env:=by rfl) (y:(d9 pos (al [b,c] X.env)).any (·.1)=false:=by rfl):
  PI X tg (.Call (.Name "range" p) [a,b,c] [] pos) (He ta):=by(
intro WP s ZB H R XV h;refine sN (k1 XV hg hm xx (od (wP (x pos WP s ZB H _ XV h) λus f L=>Do L λvs H1 g E A=>?_) z y));obtain⟨i,j,k,n,e,⟨m,c1,c2,c3⟩,q⟩:=A;subst e;cases E with
|cons r d=>
 cases d with
 |cons C d=>
  cases d with
  |cons D d=>
   cases d;obtain⟨t,rfl⟩:=r;obtain⟨t',rfl⟩:=C;obtain⟨J,rfl⟩:=D;refine call_range_3 m ?_ (.inl (PyProof.noPylong_small c1));refine CV (IsRange.new ..) c2 ?_;have l:Inv X WP ZB H1 {f with heap:=f.heap.push {cls:=.type "range",data:=.fields #[.int i t,.int j t',.int k J]}}:=g.kept (t':=f.toks) λb o e=>ln _ e;refine uT (tk:=f.toks) l _ (MY _ i k n) ?_ q;have u:i+((0:Nat):Int)*k=i:=by simp
   have w:(n:Int)-((0:Nat):Int)=xH i j k:=by rw[c3];simp
   show r7 _ _ (i+((0:Nat):Int)*k) ((n:Int)-((0:Nat):Int)) k;rw[u,w];exact bc _ rfl)
end
theorem GS{lo:Int}{g:TG}{tb:TS}{D:Ends}(Pv:Nat->St->Hp->Prop) (h0:Pv 0 ZB H)
  (h:∀i ZB H,i<n->Pv i ZB H->g (.int (lo+(i:Nat)*c)) ZB H λd H2=>tb {D with nx:=Pv (i+1),ct:=Pv (i+1),bk:=D.nx} d H2) (hd:∀ZB H,Pv n ZB H->D.nx ZB H):
  ∃W:Nat->Nat->St->Hp->Prop,(∃m,W 0 m ZB H)/\∀i m ZB H,W i m ZB H->
   ((mf lo c n).stop i H/\D.nx ZB H)\/((mf lo c n).go i H/\∃N:St->Hp->Prop,(∀b I,N b I->∃f,f<m/\W (i+1) f b I)/\∀x I,(mf lo c n).eQ i H x I->g x ZB I λd H2=>tb {D with nx:=N,ct:=N,bk:=D.nx} d H2):=by(
refine⟨λi m ZB H=>m=n-i/\i<=n/\Pv i ZB H,⟨n,by simp,f4 _,h0⟩,?_⟩;rintro i m ZB H ⟨rfl,hi,p⟩;by_cases a:i<n
·refine .inr ⟨a,Pv (i+1),λb I j=>⟨n-(i+1),by lia,O,a,j⟩,λx I y=>?_⟩;obtain⟨e,y⟩:=y;subst e y;exact h i ZB _ a p
·have e:i=n:=by lia
 subst e;exact .inl ⟨tz _,hd ZB H p⟩)
section
variable {prog:fr}{w:g2}{A:bJ}{E:Tk->Go->Prop}{s:Go}
theorem zy(hd:(d==eS)=false) (a:s.heap.get? d=some o) (e:o.ExactDict) (b:o.data=.dict es ep)
  (c:Q (.ref s.heap.objs.size) {s with heap:=s.heap.push {cls:=.type "dict_keyiterator",data:=.fields #[.ref d,.int 0 0,.int es.size 0,.int ep 0]}}):
  wpAny (AT prog w) A (sh (.ref d)) Q E s:=by
 have hT:s.TypeIs (.ref d) "dict":=⟨o,a,e.1⟩;refine CY hT F.slot_dict_iter (i3 F.slot_dict_iter hT F.entry_dict_iter ?_ (F.args_dict_iter_1 _));unfold h8.«dict.__iter__»;refine IR ?_;unfold Oc;refine IR (CO hT ?_);show wpAny _ _ (pure (em d)) _ _ s;refine t3 ?_;show wpAny _ _ (Er d >>= _) _ _ s;unfold Er;rw[Ps (by rw[hd];exact cc)];refine IR (t3 ?_);refine IR (rY a b ?_);refine IR (wC a b ?_);refine IR (nM (t3 ⟨_,O,"dict_keyiterator",_,⟨_,bc _ rfl,O⟩,F.slot_dict_keyiterator_next.lookup,?_⟩));simpa [hb]using c
theorem I2(a:s.heap.IsKeyIter b d i n ep) (g:s.heap.get? d=some q) (e:q.data=.dict es ep)
  (hsz:es.size=n) (p:es[i]?=some en) (h:∀h',h'.IsKeyIter b d (i+1) n ep->lT b s.heap h'->Q (some en.key) {s with heap:=h'}):wpAny (AT prog w) A (eU (.ref b)) Q E s:=by(
obtain⟨o,c,j,hd⟩:=id a;unfold eU;refine IR (r3 (rV (name:=b3 "__next__") a.typeIs F.slot_dict_keyiterator_next
 (i3 F.slot_dict_keyiterator_next a.typeIs F.entry_dict_keyiterator_next ?_ (F.args_dict_keyiterator_next_1 _))))
refine IR (t3 ?_);refine IR ?_;refine IR ?_
first|refine IR (rS a.typeIs (t3 ?_))|refine IR (rT a.typeIs (t3 ?_))
refine IR (C7 c hd ?_);have m:Builtin.Dict_items.ownsTuple "dict_keyiterator"=false:=by decide
simp only[m,fX,aK];show wpAny _ _ (if(em d==Value.none)=true then _ else _) _ _ s;rw[Ps (show ¬((em d==Value.none)=true) from cc)];refine IR (t3 ?_);refine IR (rY g e ?_);rw[Ps (by rw[hsz];simp)];refine IR (t3 ?_);refine IR (wC g e ?_);rw[Ps (by simp)];refine t3 ?_;obtain⟨l,k⟩:=Array.getElem?_eq_some_iff.mp p;simp only[show ¬((i:Int)<0) from by lia,aK,ee,xE l];refine IR ?_
first|refine IR (rS a.typeIs (t3 ?_))|refine IR (rT a.typeIs (t3 ?_))
refine IR (CQ a.typeIs ?_);show wpAny _ _ (setField (.ref b) 1 (hb ((i:Int)+1)) >>= _) _ _ s;refine IR (C8 c hd (by simp) ?_);have f:(s.heap.update b (Ek (·.setIfInBounds 1 (hb ((i:Int)+1))))).IsKeyIter b d (i+1) n ep:=
 ⟨_,kk _ c (Obj.isFreed_of_fields (Ei hd _)),(Obj.cls_mapFields ..).trans j,by rw[Ei hd];simp[hb]⟩
refine IR (i4 ?_);refine IR (CQ (s:= {s with heap:=s.heap.update b (Ek (·.setIfInBounds 1 (hb ((i:Int)+1))))}) f.typeIs ?_);show wpAny _ _ (pure es[i].key) _ _ _;rw[k];exact t3 (t3 ⟨_,O,t3 (h _ f (sQ ..))⟩))
theorem Ac(p:A.handled=none) (c:s.heap.IsKeyIter e d i n ep) (h:s.heap.get? d=some r) (f:r.data=.dict es ep)
  (hsz:es.size=n) (k:n<=i) (j:∀h',Heap.ExtBut e s.heap h'->Q none {s with heap:=h'}):wpAny (AT prog w) A (eU (.ref e)) Q E s:=by(
obtain⟨o,g,t,hd⟩:=id c;unfold eU;refine IR (r3 (rV (name:=b3 "__next__") c.typeIs F.slot_dict_keyiterator_next
 (i3 F.slot_dict_keyiterator_next c.typeIs F.entry_dict_keyiterator_next ?_ (F.args_dict_keyiterator_next_1 _))))
refine IR (t3 ?_);refine IR ?_;refine IR ?_
first|refine IR (rS c.typeIs (t3 ?_))|refine IR (rT c.typeIs (t3 ?_))
refine IR (C7 g hd ?_);have q:Builtin.Dict_items.ownsTuple "dict_keyiterator"=false:=by decide
simp only[q,fX,aK];show wpAny _ _ (if(em d==Value.none)=true then _ else _) _ _ s;rw[Ps (show ¬((em d==Value.none)=true) from cc)];refine IR (t3 ?_);refine IR (rY h f ?_);rw[Ps (by rw[hsz];simp)];refine IR (t3 ?_);refine IR (wC h f ?_);rw[Ps (by simp)];refine t3 ?_;have l:es.size<=i:=by rw[hsz];exact k
simp only[show ¬((i:Int)<0) from by lia,aK,ee,Array.getElem?_eq_none l];refine IR ?_
first|refine IR (rS c.typeIs (t3 ?_))|refine IR (rT c.typeIs (t3 ?_))
show wpAny _ _ (setField (.ref e) 0 .none >>= _) _ _ s;refine IR (C8 g hd (by simp) ?_);show wpAny _ _ (newExc (.type "StopIteration") [] >>= _) _ _ _;refine IR ?_;simp only[newExc,newTuple];refine IR (nM ?_ (by size_fits));refine IR (m:=C9 _ _) (Dl (a:=Value.none) (by first|rfl|(simp only[C9];rfl)) ?_);refine nM ?_ (by size_fits);simp only[raiseNew];refine IR (wpAny_handled ?_);rw[show A.in1.handled=none from p];refine IR (t3 (wpAny_throw ?_));refine IR (C3 (T:="StopIteration") (b:=true) ⟨_,bc _ rfl,O⟩ C_ ?_);exact t3 (j _ (((sQ ..).extBut.push _).push _)))
end
theorem H9{vs:List (κ×Tk)}(h:KV T0 vs):∀ {i:Nat}{k:κ}{v:W1},T0[i]?=some (k,v)->∃u,vs[i]?=some (k,u)/\RelV v u:=by(
unfold KV at h
induction h with
|nil=>intro i k v e;simp at e
|@cons a b d l₂ r t c=>
 intro i k v e;cases i with
 |zero=>
  simp only[ow,hk]at e;subst e;refine⟨b.2,?_,r.2⟩;simp only[ow];exact cM some (Prod.ext r.1.symm rfl)
 |succ j=>
  simp only[xZ]at e⊢;exact c e)
theorem c5{c:List f}{l₂:List k}(h:Paired G c l₂):∀ {i:Nat}{a:f},c[i]?=some a->∃b,l₂[i]?=some b/\G a b:=by(
induction h with
|nil=>intro i a e;simp at e
|@cons a b c l₂ r t d=>
 intro i g e;cases i with
 |zero=>
  simp only[ow,hk]at e;subst e;exact⟨b,O,r⟩
 |succ j=>
  simp only[xZ]at e⊢;exact d e)
theorem Lv(h:iP k u=true):RelV (kV k) u:=by(
rcases gO h with⟨i,t,rfl,rfl⟩|⟨x,t,rfl,rfl⟩
·exact⟨t,O⟩
·exact⟨t,O⟩)
section
variable {X:Cx}{WP:List (WF×Obj)}{ZB:St}{H:Hp}{s:Go}{d:WF}{o:Obj}
theorem Inv.t6(XV:Inv X WP ZB H s) (h:H d=some (.aw o (.dK T0))):
  (d==eS)=false/\s.heap.get? d=some o/\o.ExactDict/\∃(es:Array g_) (ep:Nat) (vs:List (sw×Tk)),o.data=.dict es ep/\es.size=T0.length/\KV T0 vs/\s.heap.DictAt (cj X.prog X.w) d vs ep:=by
 obtain⟨hd,z,f,vs,e,o',es,ep,b,c,a,r⟩:=XV.ag d _ h;rw[hd]at b;cases b;refine⟨f,hd,c,es,ep,vs,a,?_,e,o,es,hd,c,a,r⟩;have g:=r.2.1.length;have i:T0.length=vs.length:=Paired.length e;rw[sP]at g;lia
theorem Inv.t7(XV:Inv X WP ZB H s) (h:H d=some (.aw o (.dT T0))):
  (d==eS)=false/\s.heap.get? d=some o/\o.ExactDict/\∃(es:Array g_) (ep:Nat),o.data=.dict es ep/\es.size=T0.length/\
   ∀(i:Nat) (k:List sw) (v:W1),T0[i]?=some (k,v)->∃(en:g_) (q:WF),es[i]?=some en/\en.key=.ref q/\H q=some (.tup (k.map kV)):=by(
obtain⟨hd,z,m,xs,f,o',es,ep,c,n,l,a,_⟩:=XV.ag d _ h;rw[hd]at c;cases c;refine⟨m,hd,n,es,ep,l,?_,λi k v e=>?_⟩
·have r:es.size=xs.length:=size_of_entries a;have t:T0.length=xs.length:=Paired.length f;lia
·obtain⟨b,j,p,g,_⟩:=c5 f e;have q:=entry_at a i;rw[j]at q;exact⟨_,b.2.1,q,O,g⟩)
end
def mh (d:WF) (o:Obj) (T0:List (sw×W1)):It:=
 ⟨λi H=>H d=some (.aw o (.dK T0))/\i<T0.length,λi H x I=>I=H/\∃k v,T0[i]?=some (k,v)/\x=kV k,λi H=>H d=some (.aw o (.dK T0))/\T0.length<=i⟩
def x9 (d:WF) (o:Obj) (T0:List (List sw×W1)):It:=
 ⟨λi H=>H d=some (.aw o (.dT T0))/\i<T0.length,λi H x I=>I=H/\∃(k:List sw) (v:W1) (q:WF),T0[i]?=some (k,v)/\x=.ref q/\H q=some (.tup (k.map kV)),λi H=>H d=some (.aw o (.dT T0))/\T0.length<=i⟩
theorem o2{o:Obj}(h:o.data=.dict es ep) (h':o.data=.dict b a):b=es/\a=ep:=by
 rw[h]at h';cases h';exact⟨O,O⟩
section
variable {P:fr}{w:g2}{K:wf}{tg:s5}{d:WF}{o:Obj}{es:Array g_}{ep:Nat}
theorem MU {T0:List (sw×W1)}(a:WF) (T:o.data=.dict es ep):hC P w K tg (mh d o T0) [a] a (λi h=>h.IsKeyIter a d i T0.length ep) where
 mem:=by simp
 obj:=λi h st b f=>by
  have e:b=a:=by simpa using f
  subst e;obtain⟨j,e,c,l⟩:=st;exact⟨j,e,λv z=>by rw[l]at z;cases z⟩
 keep:=λi h h' st k=>st.at λj e=>k a (by simp) j e
 item:=by
  intro X y hw x D i WP s ZB H E XV hf st hg;subst y hw x;obtain⟨hd,hi⟩:=hg;obtain⟨m,n,OK,q,r,t⟩:=hf a (by simp);obtain⟨OM,J,ON,OJ,OI,vs,g,hsz,C,hm⟩:=XV.t6 hd;obtain⟨rfl,rfl⟩:=o2 T g;obtain⟨⟨k,v⟩,L⟩:∃p,T0[i]?=some p:=⟨T0[i],g1 hi⟩;obtain⟨u,hu,OP⟩:=H9 C L;have N:T0.length=vs.length:=Paired.length C;rw[N]at st;refine wpAny_pyNext_dict_item st hm hu λkey h' OL U OO=>?_;have Y:Inv X WP ZB H {s with heap:=h'}:=XV.turned (t':=s.toks) (λb ob f e=>(OO.2 b f).trans e) m n q r t;obtain⟨j,e,c,l⟩:=id U;refine⟨key,O,kZ (s:= {s with heap:=h'}) e c l (by decide) ⟨kV k,H,Y,Lv (show iP k key=true from OL),⟨O,k,v,L,O⟩,?_,λb f=>(hf b f).1⟩⟩;show h'.IsKeyIter a d (i+1) T0.length _;rw[N];exact U
 done:=by
  intro X y hw x D i WP s ZB H E XV hf st hg;subst y hw x;obtain⟨hd,hi⟩:=hg;obtain⟨m,n,OK,q,r,t⟩:=hf a (by simp);obtain⟨OM,J,ON,OJ,OI,vs,g,hsz,C,hm⟩:=XV.t6 hd;obtain⟨rfl,rfl⟩:=o2 T g;exact Ac (XV.ok.hd D) st J g hsz hi λh' OH=>⟨O,XV.turned (t':=s.toks) (λb ob f e=>OH b ob f e) m n q r t⟩
 self:=λA i s Q E st h=>wpAny_pyIter_keyiter st h
theorem MV {T0:List (List sw×W1)}(a:WF) (N:o.data=.dict es ep):hC P w K tg (x9 d o T0) [a] a (λi h=>h.IsKeyIter a d i T0.length ep) where
 mem:=by simp
 obj:=λi h st b f=>by
  have e:b=a:=by simpa using f
  subst e;obtain⟨j,e,c,l⟩:=st;exact⟨j,e,λv z=>by rw[l]at z;cases z⟩
 keep:=λi h h' st k=>st.at λj e=>k a (by simp) j e
 item:=by
  intro X y hw x J i WP s ZB H E XV hf st hg;subst y hw x;obtain⟨hd,hi⟩:=hg;obtain⟨m,n,OJ,r,t,u⟩:=hf a (by simp);obtain⟨ON,C,OO,OI,OH,g,hsz,D⟩:=XV.t7 hd;obtain⟨rfl,rfl⟩:=o2 N g;obtain⟨⟨k,v⟩,L⟩:∃p,T0[i]?=some p:=⟨T0[i],g1 hi⟩;obtain⟨en,q,OK,OL,OM⟩:=D i k v L;refine I2 st C g hsz OK λh' T OP=>?_;have U:Inv X WP ZB H {s with heap:=h'}:=XV.turned (t':=s.toks) (λb ob f e=>(OP.2 b f).trans e) m n r t u;obtain⟨j,e,c,l⟩:=id T;exact⟨en.key,O,kZ (s:= {s with heap:=h'}) e c l (by decide) ⟨.ref q,H,U,OL,⟨O,k,v,q,L,O,OM⟩,T,λb f=>(hf b f).1⟩⟩
 done:=by
  intro X y hw x J i WP s ZB H E XV hf st hg;subst y hw x;obtain⟨hd,hi⟩:=hg;obtain⟨m,n,OJ,r,t,u⟩:=hf a (by simp);obtain⟨ON,C,OO,OI,OH,g,hsz,D⟩:=XV.t7 hd;obtain⟨rfl,rfl⟩:=o2 N g;exact Ac (XV.ok.hd J) st C g hsz hi λh' Y=>⟨O,XV.turned (t':=s.toks) (λb ob f e=>Y b ob f e) m n r t u⟩
 self:=λA i s Q E st h=>by
  refine CY st.typeIs F.slot_dict_keyiterator_iter (i3 F.slot_dict_keyiterator_iter st.typeIs F.entry_dict_keyiterator_iter ?_ (F.args_dict_keyiterator_iter_1 _));show wpAny _ _ (ret (.ref a)) _ _ s;exact t3 ⟨_,O,"dict_keyiterator",_,st.typeIs,F.slot_dict_keyiterator_next.lookup,h⟩
end
def Hb (td:TE):TI:=λZB H R=>td ZB H λx H1=>∃d o,x=.ref d/\((∃T0,H1 d=some (.aw o (.dK T0))/\R (mh d o T0) H1)\/∃T0,H1 d=some (.aw o (.dT T0))/\R (x9 d o T0) H1)
section
variable {X:Cx}{tg e:s5}{td:TE}{dA di:Pos}
theorem AA (j:PE X e td):PI X tg e (Hb td):=by(
intro WP s ZB H R XV h;refine wP (j WP s ZB H _ XV h) λu i l=>Do l λx H1 b k m=>?_;obtain⟨d,o,ex,q⟩:=m;subst ex;obtain rfl:u=em d:=k;rcases q with⟨T0,hd,q⟩|⟨T0,hd,q⟩
·obtain⟨f,c,g,es,ep,vs,a,hsz,p,hm⟩:=b.t6 hd;refine zy f c g a (uT (tk:=i.toks) b _ (MU _ a) ⟨_,bc _ rfl,O,?_⟩ q);rw[hsz]<;>rfl
·obtain⟨f,c,g,es,ep,a,hsz,n⟩:=b.t7 hd;refine zy f c g a (uT (tk:=i.toks) b _ (MV _ a) ⟨_,bc _ rfl,O,?_⟩ q);rw[hsz]<;>rfl)
end
theorem Fq:lL "zip"=some (.type "zip"):=by decide +kernel
end L2
namespace TL
open PySem PySem.Builtin PySem.Builtin.Str PySem.StrLaws
def pre (S l:List Nat):Bool:=l.take S.length==S
def par (S:List Nat):List Nat->List Nat->Option (List Nat×List Nat)
 |_,[]=>none
 |acc,c::r=>if pre S (c::r)=true then some (acc,(c::r).drop S.length)else par S (acc++[c]) r
end TL
namespace x1
open PySem PySem.W PySem.Calls PyProof.Rows
theorem Hk:∀(ns:List Int) (vs:List Tk),xa P h vs (ns.map WData.int)->cD vs ns:=by(
intro ns
induction ns with
|nil=>
 intro vs w;rw[hr]at w;cases w;exact .nil
|cons n ns c=>
 intro vs w;rw[m0]at w;cases w with
 |cons a b=>
  cases a;exact .cons _ _ (c _ b))
end x1
namespace L2
open PySem PySem.Spec PyProof.Rows
theorem BW:∀ {vs:List Tk}{ns:List Int},cD vs ns->ww (ns.map W1.int) vs
 |_,_,.nil=>.nil
 |_,_,.cons n t h=>.cons ⟨t,O⟩ (BW h)
def s8 (H:Hp):Prop:=∀b,H b=none\/∃o xs,H b=some (.aw o (.lst xs))
noncomputable def bj (s:v2) (j:Nat):v2:=match s with
 |.ClassDef _ _ _ body _ _ _ _ _ _ _=>body.getD j (.Pass ⟨0,0,0,0⟩)
 |_=>.Pass ⟨0,0,0,0⟩
noncomputable def gG (s:v2):Arguments:=match s with
 |.FunctionDef _ a _ _ _ _ _ _ _ _=>a
 |_=> {posonlyargs:=[],args:=[],vararg:=none,kwonlyargs:=[],kw_defaults:=[],kwarg:=none,defaults:=[]}
def fA (s:v2):List v2:=match s with
 |.FunctionDef _ _ b _ _ _ _ _ _ _=>b
 |_=>[]
noncomputable def s1 (s:v2):d_:=match s with
 |.FunctionDef _ _ _ _ _ _ a _ _ _=>a
 |_=> {kind:=.function,names:=[],isGenerator:=false,isCoroutine:=false}
abbrev xL:kB:=λ_ _ _ _ _ _=>False
abbrev E0:XK:=λ_ _ _=>False
theorem ws:iy xL X E0:=λ_ _ _ _ _ _ _ h=>h.elim
structure sB (K:wf) (x b:Str) (st:v2) (f:WF) (fd:lP):Prop where
 ex:∃(e:Tk) (g:Option WF) (kV d i:Tk) (c:Option WF) (a ct:Tk) (h:Array (Option Tk)),
  fd=fT x b (gG st) (fA st) (s1 st) .none kV d i c a ct/\K.lookup f=some ⟨e,g,.func fd,h⟩/\lU K a b=true
 kp:cV K (.ref f)=true
section
variable {P:fr}{w:g2}{K:wf}{mg:Str->Option Tk}{base:s2}
theorem sB.ok{st:v2}(F:sB K x b st f fd) (S:pu N ps (s1 st)) (len:∀vs H Q E,sp vs H Q E->vs.length=ps.length)
  (c:∀(a:Tk) (A:bJ) (outer:List Env) (s:Go) (H:Hp) (vs:List W1) (Q:VK) (E:XK),bC k (A.deeper (hl b (s1 st) s.heap.objs.size f a))->sp vs H Q E->
   ∃t,eF (jE xL P w K mg base N b (s1 st) f a A outer s H E).m4 (fA st) t/\t {nx:=λ_ I=>Q .ak I,rt:=Q} (start N vs) H):AC P w K mg base xL (k+1) f fd ps sp:=by
 obtain⟨l,m,kV,j,o,i,a,ct,n,rfl,lk,d⟩:=F.ex;refine GP lk d S len λA outer s H vs Q E e g=>?_;obtain⟨t,h,q⟩:=c a A outer s H vs Q E e g;exact⟨t,h.m4,q⟩
theorem sB.binds{st:v2}(F:sB K x e st f fd)
  (h:∀(kV c d:Tk) (a:Option WF) (b ct:Tk) (us:List Tk),us.length=ps.length->wV (fT x e (gG st) (fA st) (s1 st) .none kV c d a b ct) ⟨us,[]⟩=pure (ps.zip us)):Binds K fd ps []:=by
 obtain⟨i,j,kV,c,d,a,b,ct,k,rfl,lk,g⟩:=F.ex;exact .all (h kV c d a b ct)
theorem mJ{st:v2}{kV:Tk}(l:K.lookup f=some ⟨h,i,.func (fT x b (gG st) (fA st) (s1 st) .none kV e g d a ct),j⟩)
  (c:lU K a b=true) (k:cV K (.ref f)=true):sB K x b st f (fT x b (gG st) (fA st) (s1 st) .none kV e g d a ct):=⟨⟨h,i,kV,e,g,d,a,ct,j,O,l,c⟩,k⟩
end
theorem hI(a:bC k A):A.units+1<cT:=xi (Nat.add_le_add_left (by decide:1<=64) _) a.units
theorem Bm(h:n<=1000):n<Gc:=xi h (by decide)
section
variable {X:Cx}
theorem V (i:Nat) {x:Str}{pos:Pos}(a:X.N[i]?=some x:=by rfl) (hv:kH X.env.scope x:=by first|exact Or.inl rfl|exact Or.inr (Or.inl rfl)|exact Or.inr (Or.inr rfl)) (hd:(x==("__debug__":Str))=false:=by decide)
  (b:(x==("__classdict__":Str))=false:=by decide):PE X (.Name x pos) (bY i):=KL a hv hd b
end
theorem v6{Wp:Prop}(h:Wp):if false=true then A else Wp:=by
 rw[Ps cc];exact h
theorem wn{Wp:Prop}(h:A):if true=true then A else Wp:=by
 rw[No rfl];exact h
def Tl (H I:Hp):Prop:=∀b o,H b=some o->I b=some o
theorem Tl.free(e:Tl H I) (h:I l=Option.none):H l=Option.none:=by(
cases q:H l with
|none=>rfl
|some o=>
 rw[e l o q]at h;cases h)
section
variable {κ:Type} [DecidableEq κ]
theorem BU{k:κ}(h:it T0 k=none):¬k∈T0.map (·.1):=by
 intro m;obtain⟨p,a,e⟩:=mo.mp m;have q:(T0.any λb=>decide (b.1=k))=true:=Cv.mpr ⟨p,a,sK e⟩;rw[j',h]at q;exact absurd q (by simp)
theorem M8{k:κ}(h:it T0 k=some v):k∈T0.map (·.1):=by(
have q:(T0.any λb=>decide (b.1=k))=true:=by
 rw[j',h]
 all_goals rfl
obtain⟨p,a,e⟩:=Cv.mp q;exact mo.mpr ⟨p,a,gB e⟩)
end
theorem sum_set:∀ {l:List Int}{j:Nat}{z y:Int},l[j]?=some z->(l.set j y).sum=l.sum-z+y
 |[],j,z,y,h=>by simp at h
 |a::r,0,z,y,h=>by
  have e:a=z:=b2 h;subst e;show(y::r).sum=(a::r).sum-a+y;rw[dV,dV];lia
 |a::r,j+1,z,y,h=>by
  have b:=sum_set (l:=r) (j:=j) (z:=z) (y:=y) h;show(a::r.set j y).sum=(a::r).sum-z+y;rw[dV,dV,b];lia
theorem rk:∀ {l:List Int}{i:Nat}{z:Int},l[i]?=some z->(l.take (i+1)).sum=(l.take i).sum+z
 |[],i,z,h=>by simp at h
 |a::r,0,z,h=>by
  have e:a=z:=b2 h;subst e;show([a]:List Int).sum=([]:List Int).sum+a;rw[dV];exact Int.add_comm _ _
 |a::r,i+1,z,h=>by
  have b:=rk (l:=r) (i:=i) (z:=z) h;show(a::r.take (i+1)).sum=(a::r.take i).sum+z;rw[dV,dV,b];lia
end L2
namespace Z3
open PySem
open Sem (wp)
abbrev b4 (h:s2) (T:WF) (a b c:Tk):Prop:=h.get? T=some {cls:=.type "tuple",data:=.seq #[a,b,c]}
theorem M5 (a b c:Tk):checkTypeCall "zip" ⟨[a,b,c],[]⟩=pure ():=by kernel_rfl
theorem IX (a b c:Tk):checkBuiltinCall "zip.__new__" ⟨[.type "zip",a,b,c],[]⟩=pure ():=by kernel_rfl
theorem Hi (a b c d:Tk):argsOk "object.__init__" ⟨[a,b,c,d],[]⟩:=by
 unfold argsOk;(rw[signature?_of (id:="object.__init__") (n:=['_','_','t','i','n','i','_','_']) (o:=['t','c','e','j','b','o']) (by kernel_rfl) F.owner_object]);kernel_rfl
section
variable {prog:fr}{w:g2}{A:bJ}{E:Tk->Go->Prop}{s:Go}
theorem vW(hT:b4 s.heap T a b c)
  (h:∀h',h'.get? T=some {cls:=.type "tuple",data:=.seq ((#[a,b,c]:Array Tk).setIfInBounds k x)}->lT T s.heap h'->Q () {s with heap:=h'}):wpAny (AT prog w) A (wQ T (·.setIfInBounds k x)) Q E s:=by
 refine nN hT rfl (h _ ?_ (sQ ..));(rw[kk _ hT rfl]);(simp[ho])
structure Apart (z TI TO a b c d e f:WF):Prop where
 k6:TI≠z/\TI≠TO/\TI≠a/\TI≠b/\TI≠c
 IQ:TO≠z/\TO≠a/\TO≠b/\TO≠c
 n1:a≠z/\a≠b/\a≠c
 n2:b≠z/\b≠c
 n3:c≠z
 m1:d≠z/\d≠TO/\d≠a/\d≠b/\d≠c
 m2:e≠z/\e≠TO/\e≠a/\e≠b/\e≠c
 m3:f≠z/\f≠TO/\f≠a/\f≠b/\f≠c
abbrev oH (z TO a b d:WF) (h h':s2):Prop:=∀c o,c≠z->c≠TO->c≠a->c≠b->c≠d->h.get? c=some o->h'.get? c=some o
theorem I1{TI:WF}{Q:Tk->Go->Prop}(O1:Apart z TI TO m n p T U Y)
  (hz:eB s.heap z TI TO .none) (O_:b4 s.heap TI (.ref m) (.ref n) (.ref p)) (Pa:b4 s.heap TO a b c) (h1:s.heap.IsListIter m T k) (h2:s.heap.IsListIter n U k) (O6:s.heap.IsListIter p Y k)
  (Pc:s.heap.IsList T xs) (Pd:s.heap.IsList U ys) (Pe:s.heap.IsList Y zs) (Pf:xs[k]?=some x) (Pg:ys[k]?=some y) (hv:zs[k]?=some v)
  (O9:∀h',eB h' z TI TO (hb s.heap.objs.size)->b4 h' TO x y v->h'.IsListIter m T (k+1)->h'.IsListIter n U (k+1)->h'.IsListIter p Y (k+1)->b4 h' s.heap.objs.size x y v->h'.objs.size=s.heap.objs.size+1->
   oH z TO m n p s.heap h'->Q (.ref s.heap.objs.size) {s with heap:=h'}):
  wpAny (AT prog w) A (h8.«zip.__next__» ⟨[.ref z],[]⟩) (λfin s'=>∃v,fin=.done (.ret v)/\Q v s') E s:=by(
obtain⟨⟨PH,Pz,PB,PD,PF⟩,⟨t,C,H,J⟩,⟨ON,OX,OY⟩,⟨OO,OZ⟩,OP,⟨Pq,PM,PJ,PK,PL⟩,⟨Pu,Pt,Pr,PN,PQ⟩,⟨Py,O0,Pw,Px,PR⟩⟩:=O1;show wpAny _ _ (si (.ref z) 2 >>= _) _ _ _;refine IR (i5 hz rfl (x:=.bool false) rfl ?_);show wpAny _ _ (si (.ref z) 3 >>= _) _ _ _;refine IR (i5 hz rfl (x:=.ref TI) rfl ?_);refine IR (h6 O_ rfl ?_);show wpAny _ _ (sE (.ref z) >>= _) _ _ _;refine IR ?_;unfold sE;refine IR (i5 hz rfl (x:=.none) rfl (t3 ?_));simp only[a9];refine IR (Dt ?_);refine IR (i5 hz rfl (x:=.ref TO) rfl ?_);refine IR (nJ hz (by simp) λPj OL f=>?_);replace OL:eB Pj z TI TO .ellipsis:=OL;refine IR ?_;simp only[kx,CB,rO,nG];refine IR (IR (r4 ?_));show wpAny _ _ (sF (.ref m) >>= _) _ _ _;refine IR (wA (h1.extBut f.extBut ON) (Pc.extBut f.extBut Pq) Pf λPk O2 h=>t3 ?_);have OQ:b4 Pk TO a b c:=h.extBut _ _ C (f.extBut _ _ t Pa);refine IR (h6 OQ rfl ?_);refine IR (vW OQ λPl OH i=>?_);replace OH:b4 Pl TO x b c:=OH;refine IR (i6 (t3 ?_));refine IR (IR (r4 ?_));show wpAny _ _ (sF (.ref n) >>= _) _ _ _;refine IR (wA (((h2.extBut f.extBut OO).extBut h.extBut OX.symm).extBut i.extBut H.symm) (((Pd.extBut f.extBut Pu).extBut h.extBut Pr).extBut i.extBut Pt) Pg λPm O4 j=>t3 ?_);have OR:b4 Pm TO x b c:=j.extBut _ _ H OH;refine IR (h6 OR rfl ?_);refine IR (vW OR λPn OI l=>?_);replace OI:b4 Pn TO x y c:=OI;refine IR (i6 (t3 ?_));refine IR (IR (r4 ?_));show wpAny _ _ (sF (.ref p) >>= _) _ _ _;refine IR (wA (((((O6.extBut f.extBut OP).extBut h.extBut OY.symm).extBut i.extBut J.symm).extBut j.extBut OZ.symm).extBut l.extBut J.symm)
 (((((Pe.extBut f.extBut Py).extBut h.extBut Pw).extBut i.extBut O0).extBut j.extBut Px).extBut l.extBut O0) hv λPo O7 q=>t3 ?_)
have OS:b4 Po TO x y c:=q.extBut _ _ J OI;refine IR (h6 OS rfl ?_);refine IR (vW OS λd L r=>?_);replace L:b4 d TO x y v:=L;refine IR (i6 (t3 (t3 ?_)));refine IR (h6 L rfl ?_);refine IR (C' ?_);have hsz:d.objs.size=s.heap.objs.size:=by rw[r.1,q.1,l.1,j.1,i.1,h.1,f.1]
have Pb:∀c o,c≠z->c≠TO->c≠m->c≠n->c≠p->s.heap.get? c=some o->d.get? c=some o:=λc o c1 c2 c3 c4 D e=>
 r.extBut _ _ c2 (q.extBut _ _ D (l.extBut _ _ c2 (j.extBut _ _ c4 (i.extBut _ _ c2 (h.extBut _ _ c3 (f.extBut _ _ c1 e))))))
have OW:eB d z TI TO .ellipsis:=r.extBut _ _ t.symm (q.extBut _ _ OP.symm (l.extBut _ _ t.symm (j.extBut _ _ OO.symm (i.extBut _ _ t.symm (h.extBut _ _ ON.symm OL)))));have O3:d.IsListIter m T (k+1):=((((O2.extBut i.extBut C.symm).extBut j.extBut OX).extBut l.extBut C.symm).extBut q.extBut OY).extBut r.extBut C.symm;have O5:d.IsListIter n U (k+1):=((O4.extBut l.extBut H.symm).extBut q.extBut OZ).extBut r.extBut H.symm;have O8:d.IsListIter p Y (k+1):=O7.extBut r.extBut J.symm;have OV:z<d.objs.size:=cr OW;show wpAny _ _ (D4 (.ref z) (.ref d.objs.size) >>= _) _ _ _;refine IR ?_;unfold D4;have Ph:eB (d.push {cls:=.type "tuple",data:=.seq #[x,y,v]}) z TI TO .ellipsis:=ln _ OW;refine IR (nJ Ph (by simp) λPp OM OK=>?_);replace OM:eB Pp z TI TO (hb d.objs.size):=OM;refine nJ OM (by simp) λg N OJ=>?_;replace N:eB g z TI TO (hb d.objs.size):=N;have u:∀c o,c≠z->d.get? c=some o->g.get? c=some o:=λc o c1 e=>OJ.extBut _ _ c1 (OK.extBut _ _ c1 (ln _ e));have OT:b4 g d.objs.size x y v:=OJ.extBut _ _ (sr OV) (OK.extBut _ _ (sr OV) (bc _ rfl));have OU:g.objs.size=d.objs.size+1:=by rw[OJ.1,OK.1,cU]
rw[hsz]at N OT OU;refine t3 ⟨_,O,?_⟩;show Q (.ref d.objs.size) _;rw[hsz];exact O9 g N (u _ _ t L) (O3.at λo e=>u _ o ON e) (O5.at λo e=>u _ o OO e) (O8.at λo e=>u _ o OP e) OT OU λc o c1 c2 c3 c4 D e=>u c o c1 (Pb c o c1 c2 c3 c4 D e))
theorem IZ{TI:WF}(J:A.handled=none) (D:Apart z TI TO d p r t O2 O3)
  (hz:eB s.heap z TI TO .none) (y:b4 s.heap TI (.ref d) (.ref p) (.ref r)) (OS:b4 s.heap TO a b c) (h1:s.heap.IsListIter d t k) (L:s.heap.IsList t xs) (N:xs[k]?=none)
  (u:∀h' e,oH z TO d p r s.heap h'->(∃o,h'.get? e=some o/\o.cls=.type "StopIteration")->E (.ref e) {s with heap:=h'}):
  wpAny (AT prog w) A (h8.«zip.__next__» ⟨[.ref z],[]⟩) Q E s:=by(
obtain⟨⟨ON,OJ,OK,OL,OM⟩,⟨OR,OO,OP,OQ⟩,⟨n,OT,OU⟩,⟨OW,OV⟩,OX,⟨OH,O1,OY,OZ,O0⟩,_,_⟩:=D;show wpAny _ _ (si (.ref z) 2 >>= _) _ _ _;refine IR (i5 hz rfl (x:=.bool false) rfl ?_);show wpAny _ _ (si (.ref z) 3 >>= _) _ _ _;refine IR (i5 hz rfl (x:=.ref TI) rfl ?_);refine IR (h6 y rfl ?_);show wpAny _ _ (sE (.ref z) >>= _) _ _ _;refine IR ?_;unfold sE;refine IR (i5 hz rfl (x:=.none) rfl (t3 ?_));simp only[a9];refine IR (Dt ?_);refine IR (i5 hz rfl (x:=.ref TO) rfl ?_);refine IR (nJ hz (by simp) λT h g=>?_);replace h:eB T z TI TO .ellipsis:=h;refine IR ?_;simp only[kx,CB,rO,nG];refine IR (IR (r4 ?_));show wpAny _ _ (sF (.ref d) >>= _) _ _ _;refine IR (wpAny_nextOf_list_end J (h1.extBut g.extBut n) (L.extBut g.extBut OH) N λU e j C=>?_);obtain⟨OI,f,i⟩:=C;have m:eB U z TI TO .ellipsis:=j _ _ n.symm h;have H:e≠z:=λq=>by subst q;rw[m]at f;cases f;simp at i
exact nJ m (by simp) λY _ l=>u Y e (λc o c1 _ c3 _ _ q=>l.extBut _ _ c1 (j _ _ c3 (g.extBut _ _ c1 q))) ⟨OI,l.extBut _ _ H f,i⟩)
theorem La{TI:WF}(D:Apart z TI TO d e f g h i)
  (hz:eB s.heap z TI TO .none) (n:b4 s.heap TI (.ref d) (.ref e) (.ref f)) (o:b4 s.heap TO a b c) (h1:s.heap.IsListIter d g k) (h2:s.heap.IsListIter e h k) (l:s.heap.IsListIter f i k)
  (p:s.heap.IsList g xs) (q:s.heap.IsList h ys) (r:s.heap.IsList i zs) (t:xs[k]?=some x) (u:ys[k]?=some y) (hv:zs[k]?=some v)
  (m:∀h',eB h' z TI TO (hb s.heap.objs.size)->b4 h' TO x y v->h'.IsListIter d g (k+1)->h'.IsListIter e h (k+1)->h'.IsListIter f i (k+1)->b4 h' s.heap.objs.size x y v->h'.objs.size=s.heap.objs.size+1->
   oH z TO d e f s.heap h'->Q (some (.ref s.heap.objs.size)) {s with heap:=h'}):wpAny (AT prog w) A (eU (.ref z)) Q E s:=by(
have hT:s.TypeIs (.ref z) "zip":=⟨_,hz,O⟩;unfold eU;exact IR (r3 (rV (name:=b3 "__next__") hT F.slot_zip_next (i3 F.slot_zip_next hT F.entry_zip_next
  (I1 D hz n o h1 h2 l p q r t u hv λh' a1 a2 a3 a4 a5 a6 a7 j=>t3 (m h' a1 a2 a3 a4 a5 a6 a7 j)) (F.args_zip_next_1 _)))))
theorem K'{TI:WF}(p:A.handled=none) (D:Apart z TI TO d f g h x y)
  (hz:eB s.heap z TI TO .none) (j:b4 s.heap TI (.ref d) (.ref f) (.ref g)) (l:b4 s.heap TO a b c) (h1:s.heap.IsListIter d h k) (r:s.heap.IsList h xs) (u:xs[k]?=none)
  (i:∀h',oH z TO d f g s.heap h'->Q none {s with heap:=h'}):wpAny (AT prog w) A (eU (.ref z)) Q E s:=by
 have hT:s.TypeIs (.ref z) "zip":=⟨_,hz,O⟩;unfold eU;refine IR (r3 (rV (name:=b3 "__next__") hT F.slot_zip_next (i3 F.slot_zip_next hT F.entry_zip_next (IZ p D hz j l h1 r u λh' e q n=>?_) (F.args_zip_next_1 _))));obtain⟨o,t,m⟩:=n;exact IR (C3 (T:="StopIteration") (b:=true) ⟨o,t,m⟩ C_ (t3 (i _ q)))
end
noncomputable abbrev ej (l:WF):Obj:= {cls:=.type "list_iterator",data:=.fields #[.ref l,.int 0 0]}
noncomputable abbrev g3 (h:s2) (a b c:WF):s2:=((h.push (ej a)).push (ej b)).push (ej c)
noncomputable abbrev g4 (h:s2) (a b c:WF):s2:=(g3 h a b c).push {cls:=.type "tuple",data:=.seq #[.ref h.objs.size,.ref (h.push (ej a)).objs.size,.ref ((h.push (ej a)).push (ej b)).objs.size]}
noncomputable abbrev g5 (h:s2) (a b c:WF):s2:=(g4 h a b c).push {cls:=.type "tuple",data:=.seq #[.none,.none,.none]}
noncomputable abbrev g6 (h:s2) (a b c:WF):s2:=(g5 h a b c).push {cls:=.type "zip",data:=.fields #[.none,.bool false,.bool false,.ref (g3 h a b c).objs.size,.ref (g4 h a b c).objs.size]}
theorem IB (a b c:WF) (xs ys zs:Array Tk):
  Meets (h8.«zip.__new__» ⟨[.type "zip",.ref a,.ref b,.ref c],[]⟩) (λ_ R s=>s.heap.IsList a xs/\s.heap.IsList b ys/\s.heap.IsList c zs/\R (.ok (.ret (.ref (g5 s.heap a b c).objs.size))) {s with heap:=g6 s.heap a b c}):=
 .of_wp λprog w A R s h=>by
  obtain⟨e,g,d,tk,os⟩:=s;obtain⟨k,l,m,h⟩:=h;have n:=sub_zip;have f:w5 (Shared.heap ⟨e,g,d,tk,os⟩) a xs:=k;have i:w5 (Shared.heap ⟨e.push (ej a),g,d,tk,os⟩) b ys:=xQ l _;have j:w5 (Shared.heap ⟨(e.push (ej a)).push (ej b),g,d,tk,os⟩) c zs:=xQ (xQ m _) _
  wp_walk using nL f,nL i,nL j
  exact⟨_,O,h⟩
theorem Fy{s:Go}(r:s.heap.IsList a xs) (t:s.heap.IsList b ys) (u:s.heap.IsList d zs)
  (h:∀h',eB h' (s.heap.objs.size+5) (s.heap.objs.size+3) (s.heap.objs.size+4) .none->b4 h' (s.heap.objs.size+3) (.ref s.heap.objs.size) (.ref (s.heap.objs.size+1)) (.ref (s.heap.objs.size+2))->b4 h' (s.heap.objs.size+4) .none .none .none->
   h'.IsListIter s.heap.objs.size a 0->h'.IsListIter (s.heap.objs.size+1) b 0->h'.IsListIter (s.heap.objs.size+2) d 0->h'.objs.size=s.heap.objs.size+6->(∀c o,s.heap.get? c=some o->h'.get? c=some o)->Q (.ref (s.heap.objs.size+5)) {s with heap:=h'}):
  wpAny (AT prog w) A (call (.type "zip") [.ref a,.ref b,.ref d]) Q E s:=by(
refine callType_new F.called_zip (by decide) (M5 _ _ _) (IX _ _ _) (λobj=>Hi obj _ _ _) F.entry_zip_new (IB a b d xs ys zs) ⟨r,t,u,?_⟩;have f:(s.heap.push (ej a)).objs.size=s.heap.objs.size+1:=cU ..;have g:((s.heap.push (ej a)).push (ej b)).objs.size=s.heap.objs.size+2:=by rw[cU,f]
have i:(g3 s.heap a b d).objs.size=s.heap.objs.size+3:=by rw[cU,g]
have j:(g4 s.heap a b d).objs.size=s.heap.objs.size+4:=by rw[cU,i]
have k:(g5 s.heap a b d).objs.size=s.heap.objs.size+5:=by rw[cU,j]
have y:(g6 s.heap a b d).objs.size=s.heap.objs.size+6:=by rw[cU,k]
have e:(g6 s.heap a b d).get? (g5 s.heap a b d).objs.size=some _:=bc _ rfl;have p:(g6 s.heap a b d).get? (g4 s.heap a b d).objs.size=some _:=ln _ (bc _ rfl);have n:(g6 s.heap a b d).get? (g3 s.heap a b d).objs.size=some _:=ln _ (ln _ (bc _ rfl));have m:(g6 s.heap a b d).get? ((s.heap.push (ej a)).push (ej b)).objs.size=some _:=ln _ (ln _ (ln _ (bc _ rfl)));have l:(g6 s.heap a b d).get? (s.heap.push (ej a)).objs.size=some _:=ln _ (ln _ (ln _ (ln _ (bc _ rfl))));have q:(g6 s.heap a b d).get? s.heap.objs.size=some _:=ln _ (ln _ (ln _ (ln _ (ln _ (bc _ rfl)))));show _/\_;rw[i,j,k]at e;rw[f,g,i]at n;rw[j]at p;rw[g]at m;rw[f]at l;rw[k];exact⟨⟨_,e,O⟩,h _ e n p ⟨_,q,O,O⟩ ⟨_,l,O,O⟩ ⟨_,m,O,O⟩ y λc o x=>ln _ (ln _ (ln _ (ln _ (ln _ (ln _ x)))))⟩)
end Z3
namespace L2
open PySem PySem.Spec PyProof.Rows
noncomputable def eM (xs:List W1) (lo hi st:Option Int):List W1:=(nP (fR lo hi st xs.length).1 (fR lo hi st xs.length).2.1 (fR lo hi st xs.length).2.2).filterMap (xs[·]?)
theorem ww.pick(r:ww xs us):∀l:List Nat,ww (l.filterMap (xs[·]?)) (l.filterMap (us.toArray[·]?))
 |[]=>.nil
 |i::l=>by
  rw[hn,hn];cases e:xs[i]? with
  |none=>
   have:us.toArray[i]?=none:=by simpa using r.none_of e
   rw[this];exact ww.pick r l
  |some x=>
   obtain⟨u,a,b⟩:=r.get e;have:us.toArray[i]?=some u:=by simpa using a
   rw[this];exact .cons b (ww.pick r l)
theorem KU(r:ww xs us) (lo hi st:Option Int):ww (eM xs lo hi st) (sb us.toArray lo hi st).toList:=by(
have e:us.toArray.size=xs.length:=by rw[aU];exact r.length.symm
unfold sb eM;rw[e];exact r.pick _)
def vO (K:wf) (te:TE) (tl th ts:TO):TE:=λZB H Q=>te ZB H λx H1=>tl ZB H1 λlo H2=>th ZB H2 λhi c=>ts ZB c λst b=>∃a xs,x=.ref a/\TD K b a xs/\st≠some 0/\(eM xs lo hi st).length<=Gc/\∀p,b p=none->Q (.ref p) (Uf b p (.lst (eM xs lo hi st)))
theorem lh{lo:Option s5}(y:PE X e te) (z:PO X lo tl) (hu:PO X hi th) (C:PO X (some sp) ts):PE X (.Subscript e (.Slice lo hi (some sp) p2) pos) (vO X.K te tl th ts):=by
 intro WP s ZB H Q XV h;refine sJ (wP (y WP s ZB H _ XV h) λv OH OK=>Do OK λx H1 m Y L=>?_);refine Dk (wP (z WP OH ZB H1 _ m L) λg OI OL=>Do OL λl H2 n pl N=>wP (hu WP OI ZB H2 _ n N) λi OJ OM=>Do OM λu j p J T=>wP (C WP OJ ZB j _ p T) λvs c ON=>Do ON λst k t ps U=>?_);obtain⟨a,xs,rfl,D,h0,E,q⟩:=U;cases Y;have d:Inv X WP ZB k {c with heap:=c.heap.push {cls:=.type "slice",data:=.fields #[g,i,vs]}}:=t.kept (t':=c.toks) λb ob q=>ln _ q;obtain⟨Op,r,f,hz⟩:=d.list D;have OO:=r.length;show wpAny (AT X.prog X.w) X.A (sH e (.Slice lo hi (some sp) p2) (.ref a) (.ref c.heap.objs.size)) (EP X WP ZB Q) X.xe {c with heap:=c.heap.push {cls:=.type "slice",data:=.fields #[g,i,vs]}};refine tail_any (ops:=[.ref a,.ref c.heap.objs.size]) f.isList.typeIs wB.lookup (CI f.isList (Heap.IsSliceOf.new ..) pl J ps h0 ?_ (by rw[aU];lia)) (by with_unfolding_all rfl);refine⟨.ref _,_,d.laid (t':=c.toks) (o:=.lst (eM xs l u st)) (λb ob q=>ln _ q) (tz _) ?_,O,q _ (d.ag.fresh (tz _))⟩;exact⟨E,_,0,KU r l u st,bc _ rfl⟩
def bp:Nat->Bool:=λ_=>false
theorem Hr(i:Nat) (p:cD vs ns):tupItems bp i vs=some (ns.map im):=by(
induction p generalizing i with
|nil=>rfl
|cons n t h a=>
 show(if bp i=true then none else(tupItems bp (i+1) _).map (im n:: ·))=_;rw[Ps (by simp[bp]),a (i+1)];rfl)
theorem pq:∀a b:List Int,lexLt xA (a.map im) (b.map im)=ci a b
 |[],[]=>rfl
 |[],_::_=>rfl
 |_::_,[]=>rfl
 |x::a,y::b=>by
  rw[m0,m0,lex_cons,pq a b];show(decide (x<y)||(!decide (y<x)&&ci a b))=(decide (x<y)||(decide (x=y)&&ci a b));by_cases h:x<y
  ·simp[h]
  ·by_cases h2:y<x
   ·simp[h,h2,show ¬x=y by lia]
   ·simp[h,h2,show x=y by lia]
theorem BQ(d:jf h a Op.toArray) (hi:cD Op ns):G.tupKeyC h bp (.ref a)=some (ns.map im):=by
 obtain⟨o,b,c,n,hd⟩:=d;unfold G.tupKeyC;rw[No (show G.isTupObj h (.ref a)=true by simp[G.isTupObj,b,c])];simp only[tupKey,b,hd];exact Hr 0 hi
def uY (K:wf):List W1->Hp->VK->Prop:=λvs H Q=>∃(a:WF) (ts:List (WF×List Int)),vs=[W1.ref a]/\TD K H a (ts.map λt=>W1.ref t.1)/\(∀t,t∈ts->pm K H t.1 (t.2.map W1.int)/\t.2≠[])/\
 ∀(us:List (WF×List Int)) (p:WF),us.Perm ts->us.Pairwise (λx y=>Tw.c6 x.2 y.2)->H p=none->Q (.ref p) (Uf H p (.lst (us.map λt=>W1.ref t.1)))
theorem AS:∀ {ts:List (WF×List Int)}{us:List Tk},ww (ts.map λt=>W1.ref t.1) us->us=ts.map λt=>em t.1
 |[],_,.nil=>rfl
 |t::ts,_,.cons r a=>by
  cases r;rw[m0,AS a]
theorem BY:∀(ts:List (WF×List Int)),ww (ts.map λt=>W1.ref t.1) (ts.map λt=>em t.1)
 |[]=>.nil
 |_::ts=>.cons rfl (BY ts)
theorem FK:hs X (.builtin "sorted") (uY X.K):=by(
intro WP s ZB H vs us Q XV r h;obtain⟨a,ts,rfl,OS,N,q⟩:=h;obtain⟨Op,Y,OO,hz⟩:=XV.list OS;rw[ww.u3 r];have g:=AS Y;have key:∀t,t∈ts->G.tupKeyC s.heap bp (.ref t.1)=some (t.2.map im):=λt m=>by
 obtain⟨OT,D,OX,_⟩:=XV.tuple (N t m).1;exact BQ OX D.ints
have fb:∀l:List (WF×List Int),(∀t,t∈l->t∈ts)->∃fs,sM s.heap bp (l.map λt=>em t.1) fs:=by
 intro l
 induction l with
 |nil=>intro _;exact⟨[],.nil⟩
 |cons t l A=>
  intro hm;obtain⟨fs,f⟩:=A λu hu=>hm u (o0 _ hu);obtain⟨h1,h2⟩:=N t (hm t (kw ..));obtain⟨OT,D,⟨o,OR,OJ,n,hd⟩,_⟩:=XV.tuple h1;have hi:=D.ints;obtain⟨b,ns⟩:=t;cases ns with
  |nil=>exact absurd rfl h2
  |cons k ns=>
   cases hi with
   |cons _ tk E=>exact⟨_::fs,.cons ⟨b,o,_,n,O,OR,OJ,hd,O,λ_=>⟨_,_,O⟩,λe=>by cases e⟩ f⟩
obtain⟨fs,f⟩:=fb ts λ_ m=>m;rw[<- g]at f;have OP:=Y.length;refine G.sorted_tups OO.isList f (λv hv=>?_) (by rw[<- OP];exact hz) λOW J L _=>?_
·rw[g]at hv;obtain⟨t,m,rfl⟩:=mo.mp hv;exact⟨_,key t m⟩
·generalize OY:arrOf OW=arr at J L
 let c:cn->WF×List Int:=λp=>match p.2 with
  |.ref b=>(b,((G.tupKeyC s.heap bp (.ref b)).getD []).map λz=>match z with|.inl n=>n|.inr _=>0)
  |_=>(0,[])
 have w:arr.toList.Perm (Op.zip Op):=by
  have e:=xD.mp J
  rwa [xu]at e
 have C:∀t,t∈ts->c (.ref t.1,.ref t.1)=t:=λt m=>by
  show(t.1,((G.tupKeyC s.heap bp (.ref t.1)).getD []).map _)=t;rw[key t m];simp only[xp,ax];have:((λ(z:Int ⊕ List Nat)=>match z with|.inl n=>n|.inr _=>0)∘im)=(id:Int->Int):=rfl;rw[this,rR]
 have OI:Op.zip Op=ts.map λt=>((.ref t.1,.ref t.1):cn):=by
  rw[g];generalize ts=l
  induction l with
  |nil=>rfl
  |cons t l A=>simp only[m0,oC,A]
 have U:∀p,p∈arr.toList->∃t,t∈ts/\p=(.ref t.1,.ref t.1):=λp m=>by
  have:=w.mem_iff.mp m;rw[OI]at this;obtain⟨t,d,e⟩:=mo.mp this;exact⟨t,d,e.symm⟩
 have perm:(arr.toList.map c).Perm ts:=by
  refine(w.map c).trans ?_;rw[OI,ax];refine xS ?_
  conv=>rhs;rw[<- rR ts]
  exact eE λt m=>C t m
 have OU:(arr.map (·.2)).toList=(arr.toList.map c).map λt=>em t.1:=by
  rw[Eb,ax];refine eE λp m=>?_;obtain⟨t,d,rfl⟩:=U p m;show em t.1=em (c (.ref t.1,.ref t.1)).1;rw[C t d]
 have T:∀i (hi:i<arr.toList.length),KK (G.tupKindC s.heap bp) arr i=((c arr.toList[i]).2).map im:=λi hi=>by
  obtain⟨t,d,e⟩:=U _ (eX hi);unfold KK;have E:i<arr.size:=by simpa using hi
  rw[xE E,<-Ea];show((G.tupKeyC s.heap bp (arr.toList[i]).1).getD [])=_;rw[e,C t d];show(G.tupKeyC s.heap bp (.ref t.1)).getD []=_;rw[key t d];rfl
 have OV:(arr.toList.map c).Pairwise (λx y=>Tw.c6 x.2 y.2):=by
  rw[ji,kr];intro i j hi OM OL;have ON:j<(gz Op).size:=by
   have:=w.length_eq;rw[sI];simp only[List.length_zip,Nat.min_self]at this;lia
  have:=L i j (ed OL) ON;rw[T i hi,T j OM]at this;have OH:lexLt xA (((c arr.toList[j]).2).map im) (((c arr.toList[i]).2).map im)=false:=this;rw[pq]at OH;exact Tw.jQ.mp (by rw[OH];rfl)
 obtain⟨ep,OK⟩:=D6 s.heap Op (arr.map (·.2));have OQ:((arr.toList.map c).map λt=>W1.ref t.1).length<=Gc:=by
  rw[FM,perm.length_eq];rw[FM]at hz;exact hz
 refine⟨.ref _,Uf H (s.heap.objs.size+1) (.lst ((arr.toList.map c).map λt=>W1.ref t.1)),XV.laid (t':=s.toks) (λ_ _=>D5) (ie _) ⟨OQ,(arr.map (·.2)).toList,ep,?_,OK⟩,O,q _ _ perm OV (XV.ag.fresh (ie _))⟩;rw[OU];exact BY _)
def ml (K:wf) (a b c:WF):It:=
 ⟨λi H=>∃(xs ys zs:List W1) (x y z:W1),TD K H a xs/\TD K H b ys/\TD K H c zs/\xs[i]?=some x/\ys[i]?=some y/\zs[i]?=some z,
  λi H v I=>∃T x y z,v=.ref T/\H T=none/\I=Uf H T (.tup [x,y,z])/\(∀xs,TD K H a xs->xs[i]?=some x)/\(∀ys,TD K H b ys->ys[i]?=some y)/\∀zs,TD K H c zs->zs[i]?=some z,
  λi H=>∃xs:List W1,TD K H a xs/\xs.length<=i⟩
theorem M0 {P:fr}{w:g2}{K:wf}{OZ:List s5}{O7:Nat}{lI:Pos}{a b c z TI TO g j m:WF}(D:Z3.Apart z TI TO g j m a b c):
  hC P w K (.Tuple OZ O7 lI) (ml K a b c) [z,TI,TO,g,j,m] z (λi h=>eB h z TI TO .none/\Z3.b4 h TI (.ref g) (.ref j) (.ref m)/\(∃x y v,Z3.b4 h TO x y v)/\h.IsListIter g a i/\h.IsListIter j b i/\h.IsListIter m c i) where
 mem:=by simp
 obj:=λi h st c J=>by
  obtain⟨hz,f,⟨x,y,v,n⟩,⟨O8,OH,_,OW⟩,⟨O9,OI,_,OX⟩,⟨O_,OJ,_,OY⟩⟩:=st;have Y:c=z\/c=TI\/c=TO\/c=g\/c=j\/c=m:=by simpa using J
  rcases Y with q|q|q|q|q|q
  ·rw[q];exact⟨_,hz,λv q=>nomatch q⟩
  ·rw[q];exact⟨_,f,λv q=>nomatch q⟩
  ·rw[q];exact⟨_,n,λv q=>nomatch q⟩
  ·rw[q];exact⟨O8,OH,λv q=>by rw[OW]at q;cases q⟩
  ·rw[q];exact⟨O9,OI,λv q=>by rw[OX]at q;cases q⟩
  ·rw[q];exact⟨O_,OJ,λv q=>by rw[OY]at q;cases q⟩
 keep:=λi h h' st k=>by
  obtain⟨hz,f,⟨x,y,v,n⟩,h1,h2,t⟩:=st;exact⟨k z (by simp) _ hz,k TI (by simp) _ f,⟨x,y,v,k TO (by simp) _ n⟩,h1.at λo q=>k g (by simp) o q,h2.at λo q=>k j (by simp) o q,t.at λo q=>k m (by simp) o q⟩
 item:=by
  intro X OM hw OL J i WP s ZB H E XV hf st hg;subst OM hw OL;obtain⟨hz,f,⟨x0,Ph,Pg,n⟩,h1,h2,t⟩:=st;obtain⟨xs,ys,zs,x,y,v,N,OP,OQ,OR,OS,hv⟩:=hg;obtain⟨Op,ON,p,_⟩:=XV.list N;obtain⟨Pm,Pe,p2,_⟩:=XV.list OP;obtain⟨Pn,Pf,Pa,_⟩:=XV.list OQ;obtain⟨u,hu,Pb⟩:=ON.get OR;obtain⟨T,O5,Pc⟩:=Pe.get OS;obtain⟨U,O6,Pd⟩:=Pf.get hv;have OT:z<s.heap.objs.size:=cr hz;refine Z3.La D hz f n h1 h2 t p.isList p2.isList Pa.isList (x:=u) (y:=T) (v:=U) (by simpa using hu) (by simpa using O5) (by simpa using O6) λh' Pj OV O0 O1 O2 hT hsz L=>?_;refine⟨_,O,wpAny_letOwnedTupleGo_zip (s:= {s with heap:=h'}) Pj λOK Pk r=>?_⟩;have O3:OK.get? s.heap.objs.size=some {cls:=.type "tuple",data:=.seq #[u,T,U]}:=(r.2 _ (sr OT)).trans hT;have new:bA X.prog X.w (Uf H s.heap.objs.size (.tup [x,y,v])) OK s.heap.objs.size (.tup [x,y,v]):=
   ⟨by show 3<=Gc;decide,[u,T,U],.cons Pb (.cons Pc (.cons Pd .nil)),⟨_,O3,O,_,O⟩⟩
  have OU:Inv X WP ZB (Uf H s.heap.objs.size (.tup [x,y,v])) {s with heap:=OK}:=
   XV.M3 (t':=s.toks) (ch:=[z,TI,TO,g,j,m]) (λc o e q=>(r.2 c (λd=>e (by simp[d]))).trans (L c o (λd=>e (by simp[d])) (λd=>e (by simp[d])) (λd=>e (by simp[d])) (λd=>e (by simp[d])) (λd=>e (by simp[d])) q)) hf (tz _) new
  refine⟨.ref s.heap.objs.size,_,OU,O,⟨_,x,y,v,O,XV.ag.fresh (tz _),O,λl C=>by rw[XV.px C N];exact OR,λl C=>by rw[XV.px C OP];exact OS,λl C=>by rw[XV.px C OQ];exact hv⟩,⟨Pk,?_,⟨u,T,U,?_⟩,?_,?_,?_⟩,λc OO=>?_⟩
  ·exact(r.2 _ D.k6.1).trans (L _ _ D.k6.1 D.k6.2.1 D.k6.2.2.1 D.k6.2.2.2.1 D.k6.2.2.2.2 f)
  ·exact(r.2 _ D.IQ.1).trans OV
  ·exact O0.at λo q=>(r.2 _ D.n1.1).trans q
  ·exact O1.at λo q=>(r.2 _ D.n2.1).trans q
  ·exact O2.at λo q=>(r.2 _ D.n3).trans q
  ·have O4:c<s.heap.objs.size:=by
    have Y:c=z\/c=TI\/c=TO\/c=g\/c=j\/c=m:=by simpa using OO
    rcases Y with q|q|q|q|q|q
    ·rw[q];exact OT
    ·rw[q];exact cr f
    ·rw[q];exact cr n
    ·rw[q];obtain⟨_,OH,_⟩:=h1;exact cr OH
    ·rw[q];obtain⟨_,OI,_⟩:=h2;exact cr OI
    ·rw[q];obtain⟨_,OJ,_⟩:=t;exact cr OJ
   rw[UF (cb O4)];exact(hf c OO).1
 done:=by
  intro X OM hw OL J i WP s ZB H E XV hf st hg;subst OM hw OL;obtain⟨hz,f,⟨x0,Ph,Pg,n⟩,h1,h2,t⟩:=st;obtain⟨xs,N,Pl⟩:=hg;obtain⟨Op,ON,p,_⟩:=XV.list N;have Po:=ON.length;exact Z3.K' (XV.ok.hd J) D hz f n h1 p.isList (by simp;lia) λh' L=>⟨O,XV.M1 (t':=s.toks) (ch:=[z,TI,TO,g,j,m]) (λc o e q=>
   L c o (λd=>e (by simp[d])) (λd=>e (by simp[d])) (λd=>e (by simp[d])) (λd=>e (by simp[d])) (λd=>e (by simp[d])) q) hf⟩
 self:=λA i s Q E st h=>C4 st.1 h
theorem aY(h:@Ne Nat x y):@Ne WF x y:=h
theorem Fc{c:Nat}(h1:a<n) (h2:b<n) (d:c<n):Z3.Apart (n+5) (n+3) (n+4) n (n+1) (n+2) a b c:=
 ⟨⟨aY (by lia),aY (by lia),aY (by lia),aY (by lia),aY (by lia)⟩,⟨aY (by lia),aY (by lia),aY (by lia),aY (by lia)⟩,⟨aY (by lia),aY (by lia),aY (by lia)⟩,
  ⟨aY (by lia),aY (by lia)⟩,aY (by lia),⟨aY (by lia),aY (by lia),aY (by lia),aY (by lia),aY (by lia)⟩,⟨aY (by lia),aY (by lia),aY (by lia),aY (by lia),aY (by lia)⟩,
  ⟨aY (by lia),aY (by lia),aY (by lia),aY (by lia),aY (by lia)⟩⟩
def Hg (K:wf) (ta:TA):TI:=λZB H R=>ta ZB H λvs H1=>∃a b c xs ys zs,vs=[.ref a,.ref b,.ref c]/\TD K H1 a xs/\TD K H1 b ys/\TD K H1 c zs/\R (ml K a b c) H1
theorem KS {X:Cx}{e g i:s5}{ta:TA}{p pos lI:Pos}{t:List s5}{Q:Nat}(hg:Gl X "zip") (hm:X.mg "zip"=none) (y:PA X [e,g,i] ta)
  (N:al [e,g,i] X.env=(false,eval e X.env)::al [g,i] X.env:=by rfl) (D:(d9 pos (al [g,i] X.env)).any (·.1)=false:=by rfl):
  PI X (.Tuple t Q lI) (.Call (.Name "zip" p) [e,g,i] [] pos) (Hg X.K ta):=by(
intro WP s ZB H R XV h;refine sN (k1 XV hg hm Fq (od (wP (y pos WP s ZB H _ XV h) λus d OI=>Do OI λvs H1 f OH T=>?_) N D));obtain⟨a,b,c,xs,ys,zs,ex,E,J,L,q⟩:=T;subst ex;obtain⟨⟩|⟨r,j⟩:=OH;obtain⟨⟩|⟨U,j⟩:=j;obtain⟨⟩|⟨Y,j⟩:=j;cases j;cases r;cases U;cases Y;obtain⟨Op,OL,l,_⟩:=f.list E;obtain⟨OJ,OM,p2,_⟩:=f.list J;obtain⟨OK,ON,m,_⟩:=f.list L;refine Z3.Fy l.isList p2.isList m.isList λh' hz w x h1 h2 u hsz C=>C4 hz ?_;have n:Inv X WP ZB H1 {d with heap:=h'}:=f.kept (t':=d.toks) C;refine⟨d.heap.objs.size+5,[d.heap.objs.size+5,d.heap.objs.size+3,d.heap.objs.size+4,d.heap.objs.size,d.heap.objs.size+1,d.heap.objs.size+2],_,_,H1,O,n,M0 (Fc l.lt p2.lt m.lt),⟨hz,w,⟨_,_,_,x⟩,h1,h2,u⟩,λc A=>?_,q⟩;have o:c=d.heap.objs.size+5\/c=d.heap.objs.size+3\/c=d.heap.objs.size+4\/c=d.heap.objs.size\/c=d.heap.objs.size+1\/c=d.heap.objs.size+2:=by simpa using A
have k:d.heap.objs.size<=c:=by
 rcases o with z|z|z|z|z|z<;>rw[z]<;>first|exact tz _|exact Nat.le_add_right _ _
exact f.kU k (f.ag.fresh k))
theorem FO{ZB:St}(XV:Inv X WP ZB H s) (e:H a=some (.dT T0)) (h:∀s',Inv X WP ZB (Uf H a (.dT [])) s'->Q .none s'):
  wpAny (AT X.prog X.w) A (call (.builtin "dict.clear") [.ref a]) Q E s:=by(
obtain⟨z,hd,xs,n,f⟩:=y3 XV.ag e;have g:=f.typeIs (s:=s);obtain⟨o,es,ep,c,m,b,k,q,p⟩:=id f;have j:es.size<=Gc:=by
 have i:es.toList.length=xs.length:=by rw[k,FM]
 rw[sP]at i;have:=Paired.length n;lia
refine i3 oa g N2 ?_ (NZ _);unfold h8.«dict.clear»;refine IR ?_;unfold Od;refine IR (CO g ?_);show wpAny _ _ (pure a) _ _ s;refine t3 ?_;refine IR (rY c b ?_);refine IR ?_;unfold bearsInstanceDictMark;refine IR (Dm c (t3 ?_));refine IR (wpAny_updateDictKeys (hz:=j) c b ?_);have l:bA X.prog X.w (Uf H a (.dT [])) (s.heap.update a (Ej λ_=> #[])) a (.dT []):=
 ⟨f4 _,hd,[],.nil,_,_,ep+1,kk _ c (Eh (xF b _)),m.mapDictKeys _,xF b _,O,rP⟩
have d:Inv X WP ZB (Uf H a (.dT [])) {s with heap:=s.heap.update a (Ej λ_=> #[])}:=oZ (t':=s.toks) XV (by rw[e];exact True.intro) (sQ ..) ⟨_,kk _ c (Eh (xF b _))⟩ l;split
·exact IR (i6 (t3 ⟨.none,O,h _ d⟩))
·exact IR (t3 (t3 ⟨.none,O,h _ d⟩)))
def Le:W1->List W1->Hp->VK->Prop:=λx xs H Q=>∃a T0,x=.ref a/\xs=[]/\H a=some (.dT T0)/\Q .ak (Uf H a (.dT []))
theorem pE:s6 X "dict.clear" Le:=by
 intro WP s ZB H x xs v us Q XV c d h;obtain⟨a,T0,rfl,rfl,e,q⟩:=h;cases c;cases d;exact FO XV e λs' b=>⟨.ak,_,b,O,q⟩
open PySem.W in
theorem Ls {R:WRecords}{cl:Str->Option WF}{h:s2}{vs:List Tk}{ns:List Int}(p:cD vs ns):ReadsAllW R cl h vs (ns.map WData.int) []:=by
 induction p with
 |nil=>exact .nil
 |cons n t r a=>exact .cons (as:=[]) (bs:=[]) (.int n t) a
theorem Hl:∀ {vs:List Tk}{ns:List Int},ww (ns.map W1.int) vs->cD vs ns:=λ{vs ns} r=>intsAre_of r
theorem Mt{K:wf}
  (y:K.In c.heap) (Q:c.heap.Ns cS mg) (f:c.heap.Ns wJ U) (OP:∀x:Str,x≠ "__name__"->U x=lL x) (OR:c.heap.NoLimit) (hg:c.gens= #[])
  (i:c.heap.get? a=some {cls:=.type "list",data:=.seq vs.toArray}) (hi:cD vs ns) (N:ns.length<=Gc) (OS:bC k lS)
  (F:∀base:s2,K.In base->base.Ns cS mg->AC P w K mg base xL k fa fd [x] sp) (OQ:∀(s:Go) (u:Tk),nQ s fd ⟨[u],[]⟩ [(x,u)])
  (OT:∀H:Hp,s8 H->TD K H a (ns.map W1.int)->sp [.ref a] H (λv I=>∃l,v=.ref l/\I l=some (.lst (out.map W1.int))) E0):
  codeAny (AT P w) lS (.call (.ref fa) ⟨[.ref a],[]⟩) (λr s'=>(∃l Op n,r=.ok (.ret (.ref l))/\s'.heap.get? l=some {cls:=.type "list",data:=.seq (wy Op) n}/\cD Op out)/\OldK c.heap s'.heap/\s'.os=c.os/\jd s'.gens) c:=by(
have Y:=BW hi;have jM:=hi.length;have C:∀H:Hp,s8 H->TD K H a (ns.map W1.int)->aV P w H c.heap->(∀b,H b≠none->b=a)->(H a≠none->K.lookup a=none)->
  codeAny (AT P w) lS (.call (.ref fa) ⟨[.ref a],[]⟩) (λr s'=>(∃l Op n,r=.ok (.ret (.ref l))/\s'.heap.get? l=some {cls:=.type "list",data:=.seq (wy Op) n}/\cD Op out)/\OldK c.heap s'.heap/\s'.os=c.os/\jd s'.gens) c:=by
 intro H L OO ag E OM;have A:∀ {b:WF}{o:Obj},c.heap.get? b=some o->H b=none->(gi c.heap H).get? b=some o:=λe n=>G_ e n;have OV:∀ {b:WF}{o:Obj}{es:Array g_}{ep:Nat},c.heap.get? b=some o->o.data=.dict es ep->H b=none:=λ{b o es ep} e d=>by
  cases q:H b with
  |none=>rfl
  |some u=>
   have p:b=a:=E b (by rw[q];simp);subst p;rw[i]at e;cases e;have d':Data.seq vs.toArray _=Data.dict es ep:=d;cases d'
 have j:∀ {b:WF}{m:Str->Option Tk},c.heap.Ns b m->(gi c.heap H).Ns b m:=λ{b m} OZ=>by obtain⟨o,es,ep,e,d,r⟩:=OZ;exact⟨o,es,ep,A e (OV e d),d,r⟩
 have J:K.In (gi c.heap H):=λb o e=>A (y b o e) (by
  cases q:H b with
  |none=>rfl
  |some u=>
   have p:b=a:=E b (by rw[q];simp);subst p;rw[OM (by rw[q];simp)]at e;cases e)
 have ON:Mod K mg (gi c.heap H):=⟨J,j Q,⟨U,j f,OP⟩,let ⟨OU,h1,h2⟩:=OR;⟨OU,j h1,h2⟩⟩;have OH:jn P w K mg (gi c.heap H) lS [] c H:=⟨O,ON,λb o e=>Jb e,kn (Ha _ _),trivial,λb f=>absurd (show b∈([]:List WF) from f) (by simp),ag,.of_eq hg⟩;refine r6 ((F _ J (j Q)).run lS [] c H ⟨[.ref a],[]⟩ [.ref a] [.ref a] _ _ OS OH (OQ c (.ref a)) (.cons rfl .nil) (OT H L OO)) λr s' h=>?_;cases r with
 |error e=>exact ef h
 |ok fl=>
  cases fl with
  |next=>exact ef h
  |brk=>exact ef h
  |cont=>exact ef h
  |ret u=>
   obtain⟨v,I,os,bare,un,T,OW,l,OK,OJ⟩:=h;subst OK;cases OW;obtain⟨_,Op,n,OX,OL⟩:=(show bA P w I s'.heap l (.lst (out.map W1.int)) from T l _ OJ);refine⟨⟨l,Op,n,O,OL,Hl OX⟩,OldK.of_keep λb o e=>?_,os,bare⟩;cases q:H b with
   |none=>exact un.keep b o e q (by intro z;exact absurd (show b∈([]:List WF) from z) (by simp)) (by simp)
   |some u=>
    rcases L b with z|⟨ob,xs,z⟩
    ·rw[q]at z;cases z
    ·have OY:=un.gh b ob _ z;obtain⟨D,_⟩:=ag b _ z;obtain⟨OI,_⟩:=T b _ OY;rw[e]at D;cases D;exact OI
cases t:K.lookup a with
|some o=>
 have e:=y a o t;rw[i]at e;cases e;refine C (λ_=>none) (λ_=>.inl rfl) (.inr ⟨_,vs.toArray,_,t,O,O,O,by rw[aU,jM];exact N,by simpa using Y⟩) (λb u z=>by have g:(none:Option HO)=some u:=z;cases g) (λb z=>absurd rfl z) λz=>absurd rfl z
|none=>
 refine C (λb=>if b=a then some (.aw {cls:=.type "list",data:=.seq vs.toArray} (.lst (ns.map W1.int)))else none) (λb=>?_) (.inl (.inr ⟨{cls:=.type "list",data:=.seq vs.toArray},No rfl⟩)) (λb u z=>?_) (λb z=>?_) λ_=>t
 ·by_cases f:b=a
  ·exact .inr ⟨_,_,No f⟩
  ·exact .inl (Ps f)
 ·by_cases f:b=a
  ·have g:=(No f).symm.trans z;cases g;subst f;exact⟨i,by rw[FM];exact N,vs,_,Y,i⟩
  ·have g:=(Ps f).symm.trans z;cases g
 ·by_cases f:b=a
  ·exact f
  ·exact absurd (Ps f) z)
section
open PySem.W
theorem Hm:∀(ns:List Int) (vs:List Tk),xa P h vs (ns.map WData.int)->cD vs ns:=x1.Hk
theorem Nd{lo:Nat}{b1:List Int->Bool}{f:List Int->List Int}{K:nR->wf}{sp:wf->Sp}
  (p:(OpenSpec.mk prog name [.list lo hi (.int c e)] (.list OU OI (.int OV OW)) b1 f).wellSaid=true) (OL:hi<=Gc) (OH:d.params.defaults=[]) (OP:bC k lS)
  (L:∀(w:g2) (h:s2),YP w h->(K w.params).In h)
  (F:∀(w:g2) (mg:Str->Option Tk) (fa:WF) (h:s2),(K w.params).In h->h.Ns cS mg->mg d.name=some (.ref fa)->
   ∃fd:lP,(∀(s:Go) (u:Tk),nQ s fd ⟨[u],[]⟩ [(x,u)])/\∀base:s2,(K w.params).In base->base.Ns cS mg->AC prog w (K w.params) mg base xL k fa fd [x] (sp (K w.params)))
  (OQ:∀(K:wf) (H:Hp) (a:WF) (ns:List Int),ns.length<=hi->(∀n,n∈ns->c<=n/\n<=e)->b1 ns=true->s8 H->TD K H a (ns.map W1.int)->sp K [.ref a] H (λv I=>∃l,v=.ref l/\I l=some (.lst ((f ns).map W1.int))) E0):
  WalkOS q O8 XP YP (OpenSpec.mk prog name [.list lo hi (.int c e)] (.list OU OI (.int OV OW)) b1 f) d [] (λf vs=>PySem.call f vs):=by(
intro w Pa OX mg O9 G Y fa o O_ O1 O2 y kV O6 hd O3 m OK hg args OY as ON O4 O7 OR O5;obtain rfl:y=.none:=Dflts.none m OH;obtain rfl:kV=.none:=Dflts.noKw m;obtain⟨t,hw,Q,rfl⟩:=(OpenSpec.pre_iff p args).mp ON;obtain⟨ns,u⟩:=t;have i:ns.length<=hi/\∀n,n∈ns->c<=n/\n<=e:=by
 have h1:(Codec.inList lo hi (Codec.inInt c e) ns&&true)=true:=hw;simp only[Codec.inList,Codec.inLen,Codec.inNat,Codec.inInt,xn,ev,dL,hq]at h1;exact⟨h1.1.2,h1.2⟩
have OS:xa w.params OX.heap OY [WData.list (ns.map WData.int)]:=OR;cases OS with
|cons OZ O0=>
 cases O0;cases OZ with
 |list OM N=>
  have j:=L w _ Y;obtain⟨fd,U,D⟩:=F w mg fa _ j G.T.g OK;have OJ:=Hm ns _ N;refine enter_call (r6 (Mt (out:=f ns) j G.T.g G.T.b G.T.builtins G.T.nolimit hg OM OJ (dz i.1 OL) OP D U λH E J=>OQ (K w.params) H _ ns i.1 i.2 Q E J) λr s' OO=>?_);obtain⟨⟨l,Op,n,rfl,z,OT⟩,h2,A,C⟩:=OO;refine⟨.inl ⟨.ref l,.list ((f ns).map WData.int),[l],O,λ_=>rfl,.list (as:=[]) z rfl rfl (by simpa using Ls OT),?_,λh=>absurd h cc⟩,h2,A,C⟩;exact osPost ((OpenSpec.post_iff p hw _ []).mpr rfl))
end
theorem TD.keep{K:wf}(h:TD K H a xs) (k:∀o,H a=some o->I a=some o):TD K I a xs:=by(
rcases h with(h|⟨o,h⟩)|h
·exact .inl (.inl (k _ h))
·exact .inl (.inr ⟨o,k _ h⟩)
·exact .inr h)
theorem TD.same{K:wf}(h:TD K H a xs) (k:Tl H I):TD K I a xs:=h.keep λo e=>k a o e
theorem Tl.rfl' (H:Hp):Tl H H:=λ_ _ e=>e
theorem Tl.tr(h:Tl H I) (h':Tl I a):Tl H a:=λb o e=>h' b o (h b o e)
theorem Tl.new(h:H p=none):Tl H (Uf H p o):=λb u e=>by
 rw[UF (v0 e h)];exact e
def Ch (l:List WF) (H I:Hp):Prop:=∀b o,H b=some o->b∉l->I b=some o
theorem Ch.rfl' (l:List WF) (H:Hp):Ch l H H:=λ_ _ e _=>e
theorem Ch.tr(h:Ch l H I) (h':Ch m I c) (hm:∀b,b∈m->b∈l\/H b=none):Ch l H c:=λb o e a=>h' b o (h b o e a) λq=>by
 rcases hm b q with z|z
 ·exact a z
 ·rw[z]at e;cases e
theorem Ch.put(h:Ch l H I) (d:a∈l):Ch l H (Uf I a o):=λb u e c=>by
 have ne:b≠a:=λq=>c (by rw[q];exact d);rw[UF ne];exact h b u e c
theorem Ch.new(h:Ch l H I) (c:I a=none):Ch l H (Uf I a o):=λb u e d=>by
 have:=h b u e d;rw[UF (v0 this c)];exact this
theorem Tl.but(h:Tl H I) (l:List WF):Ch l H I:=λb o e _=>h b o e
noncomputable def hide (l:List WF) (H:Hp):Hp:=λb=>if b∈l then none else H b
theorem wl:hide l H b=some o↔b∉l/\H b=some o:=by(
unfold hide;by_cases h:b∈l
·rw[No h];exact⟨λq=>(by cases q),λq=>absurd h q.1⟩
·rw[Ps h];exact⟨λq=>⟨h,q⟩,λq=>q.2⟩)
theorem b7 (l:List WF) (H:Hp):Tl (hide l H) H:=λb o e=>(wl.mp e).2
theorem Ch.hide {l:List WF}{H I:Hp}(h:Ch l H I):Tl (hide l H) (hide l I):=λb o e=>by
 obtain⟨h1,h2⟩:=wl.mp e;exact wl.mpr ⟨h1,h b o h2 h1⟩
theorem fD(h:a∈l):hide l (Uf H a o)=hide l H:=by(
funext b;unfold L2.hide;split
·rfl
·rename_i q;have ne:b≠a:=λe=>q (by rw[e];exact h);rw[UF ne])
theorem nb(a:d.kind=.function) (b:d.isCoroutine=false) (c:d.isGenerator=false) (h:N.Nodup/\N.take P.length=P/\(∀x∈P,d.names.lookup x=some .local\/d.names.lookup x=some .cell)/\∀y∈d.names,y.2≠.free):pu N P d:=⟨a,b,c,h.1,h.2.1,h.2.2.1,h.2.2.2⟩
theorem zS (i:Nat) {X:Cx}{x:Str}{e:s5}{te:TE}{pos eN:Pos}{ps:List Str}{d:d_}(S:pu X.N ps d) (a:PE X e te) (hi:X.N[i]?=some x:=by rfl) (c:Loc X.env.scope x:=by exact .inl rfl) (b:lO e (some (.Name x eN)) pos.line X.env=pure false:=by rfl) (hf:X.fn x=true\/X.env.scope.names.lookup x=some .local:=by first|exact .inl rfl|exact .inr rfl|assumption):PS X (.Assign [.Name x eN] e pos) (hY te (bh i)):=K1 S.nd hi c a b hf
theorem zG (i:Nat) {X:Cx}{x:Str}{pos:Pos}{ps:List Str}{b:d_}(S:pu X.N ps b) (hi:X.N[i]?=some x:=by rfl) (a:Loc X.env.scope x:=by exact .inl rfl) (hf:X.fn x=true\/X.env.scope.names.lookup x=some .local:=by first|exact .inl rfl|exact .inr rfl|assumption):PG X (.Name x pos) (bh i):=KO S.nd hi a hf
theorem sB.ar{K:wf}{st:v2}(F:sB K x b st f fd) (S:pu N ps (s1 st)) (len:∀vs H Q E,sp vs H Q E->vs.length=ps.length) (c:∀(a:Tk) (A:bJ) (outer:List Env) (s:Go) (H:Hp) (vs:List W1) (Q:VK) (E:XK),bC k (A.deeper (hl b (s1 st) s.heap.objs.size f a))->sp vs H Q E->let X:=(jE xL P w K mg base N b (s1 st) f a A outer s H E).m4;∃t,eF X (fA st) t/\t {nx:=λ_ I=>Q .ak I,rt:=Q} (start N vs) H):AC P w K mg base xL (k+1) f fd ps sp:=F.ok S len c
end L2
namespace Sx
open PySem PyProof.Rows
theorem Lw(hf:v1.Fits base) (h1:Returns TW v1 p s c e) (h2:Returns TW v1 p s d f):c=d/\e=f:=by
 obtain⟨a,b⟩:=Reach.det (r_ h1 base hf) (r_ h2 base hf);cases b;exact⟨O,a⟩
theorem A8(hf:v1.Fits base) (h1:Runs TW v1 p t fs s a e) (h2:Runs TW v1 p t fs s b f):a=b/\e=f:=by
 obtain⟨c,d⟩:=Reach.det (r_ h1 base hf) (r_ h2 base hf);exact⟨d,c⟩
theorem M'(hf:v1.Fits base) (h1:Wakes TW v1 p g r s m n) (h2:Wakes TW v1 p g r s e f):m=e/\n=f:=by(
unfold Wakes at h1 h2;split at h1
·exact h1.elim
·rename_i c a;simp only[a]at h2;split at h1
 ·obtain⟨j,o,a1,a2,rfl,rfl⟩:=h1;obtain⟨k,q,b,h,rfl,rfl⟩:=h2;obtain⟨rfl,rfl⟩:=A8 (hf.wake c g (λ_=>.unsupported "") [] p) a1 b;exact⟨O,O⟩
 ·rename_i v l;have d:e=.justStarted/\f=s:=by
   cases v<;>first|exact absurd rfl l|exact h2
  exact⟨h1.1.trans d.1.symm,h1.2.trans d.2.symm⟩
 ·exact⟨h1.1.trans h2.1.symm,h1.2.trans h2.2.symm⟩
·rename_i w x i y t u a;simp only[a]at h2;obtain⟨j,o,a1,a2,rfl,rfl⟩:=h1;obtain⟨k,q,b,h,rfl,rfl⟩:=h2;obtain⟨rfl,rfl⟩:=A8 (hf.wake i g (λ_=>.unsupported "") [] p) a1 b;exact⟨O,O⟩
all_goals
 rename_i a;simp only[a]at h2;exact⟨h1.1.trans h2.1.symm,h1.2.trans h2.2.symm⟩)
theorem Ni(hf:v1.Fits base) (t:Sem L):∀ {p:Pos}{s:Go},hp TW v1 t A y p s->hp TW v1 t C z p s->hp TW v1 t (λa p s=>A a p s/\C a p s) (λe p s=>y e p s/\z e p s) p s:=by(
induction t with
|pure a=>intro p s h1 h2;exact⟨h1,h2⟩
|raise e=>intro p s h1 h2;exact⟨h1,h2⟩
|unsupported w=>intro p s h1 h2;exact h1.elim
|finish e=>intro p s h1 h2;exact h1.elim
|rule tag k b=>intro p s h1 h2;exact b () h1 h2
| «at» pos k b=>intro p s h1 h2;exact b () h1 h2
|load a part k b=>
 intro p s h1 h2;obtain⟨o,i,h1⟩:=h1;obtain⟨o',j,h2⟩:=h2;rw[i]at j;cases j;exact⟨o,i,b o h1 h2⟩
|update a part f k b=>intro p s h1 h2;exact⟨h1.1,b () h1.2 h2.2⟩
|alloc o k b=>intro p s h1 h2;exact b _ h1 h2
|loadIfAlive a k b=>intro p s h1 h2;exact b _ h1 h2
|point l k b=>intro p s h1 h2;exact b () h1 h2
|register a k b=>intro p s h1 h2;exact h1.elim
|fresh k b=>intro p s h1 h2;exact b _ h1 h2
|ask k b=>intro p s h1 h2;exact b _ h1 h2
|choose J n k b=>intro p s h1 h2;exact⟨h1.1,b _ h1.2 h2.2⟩
|os H l k b=>intro p s h1 h2;exact b _ h1 h2
|call c h g l k b=>
 intro p s h1 h2;obtain⟨u,x,a1,m⟩:=h1;obtain⟨D,E,a2,q⟩:=h2;obtain⟨rfl,rfl⟩:=Lw (hf.enter c (λ_=>.unsupported "") h g l p (kp:=default)) a1 a2;exact⟨u,x,a1,b _ m q⟩
|handled own k b=>intro p s h1 h2;exact b _ h1 h2
|newGen c k b=>intro p s h1 h2;exact b _ h1 h2
|genState g k b=>
 intro p s h1 h2;obtain⟨o,i,h1⟩:=h1;obtain⟨o',j,h2⟩:=h2;rw[i]at j;cases j;exact⟨o,i,b _ h1 h2⟩
|resume g r l k b=>
 intro p s h1 h2;obtain⟨u,x,a1,m⟩:=h1;obtain⟨D,E,a2,q⟩:=h2;obtain⟨rfl,rfl⟩:=M' hf a1 a2;exact⟨u,x,a1,b _ m q⟩
|yield v g l k b=>intro p s h1 h2;exact h1.elim
|stack k b=>intro p s h1 h2;exact b _ h1 h2
|fork c k b=>intro p s h1 h2;exact h1.elim
|thread k b=>intro p s h1 h2;exact b _ h1 h2
|await a f d l k b=>intro p s h1 h2;exact h1.elim)
theorem Nj(t:Sem z):∀ {p:Pos}{s:Go},hp TW v1 t Q E p s->(∃a j s',Q a j s')\/∃e j s',E e j s':=by(
induction t with
|pure a=>intro p s h;exact .inl ⟨a,p,s,h⟩
|raise e=>intro p s h;exact .inr ⟨e,p,s,h⟩
|unsupported w=>intro p s h;exact h.elim
|finish e=>intro p s h;exact h.elim
|rule tag k b=>intro p s h;exact b () h
| «at» pos k b=>intro p s h;exact b () h
|load a part k b=>intro p s h;obtain⟨o,m,h⟩:=h;exact b o h
|update a part f k b=>intro p s h;exact b () h.2
|alloc o k b=>intro p s h;exact b _ h
|loadIfAlive a k b=>intro p s h;exact b _ h
|point l k b=>intro p s h;exact b () h
|register a k b=>intro p s h;exact h.elim
|fresh k b=>intro p s h;exact b _ h
|ask k b=>intro p s h;exact b _ h
|choose y n k b=>intro p s h;exact b _ h.2
|os x l k b=>intro p s h;exact b _ h
|call c h g l k b=>intro p s h;obtain⟨q,u,a1,i⟩:=h;exact b _ i
|handled own k b=>intro p s h;exact b _ h
|newGen c k b=>intro p s h;exact b _ h
|genState g k b=>intro p s h;obtain⟨o,m,h⟩:=h;exact b _ h
|resume g r l k b=>intro p s h;obtain⟨q,u,a1,i⟩:=h;exact b _ i
|yield v g l k b=>intro p s h;exact h.elim
|stack k b=>intro p s h;exact b _ h
|fork c k b=>intro p s h;exact h.elim
|thread k b=>intro p s h;exact b _ h
|await a f d l k b=>intro p s h;exact h.elim)
end Sx
namespace Sx
open PySem PyProof.Rows
class Vd (a:Type) where
 vd:sL->(cn->Prop)->a->Prop
instance:Vd Nat:=⟨λ_ _ _=>True⟩
instance:Vd Bool:=⟨λ_ _ _=>True⟩
instance:Vd Unit:=⟨λ_ _ _=>True⟩
instance:Vd PUnit:=⟨λ_ _ _=>True⟩
instance:Vd (Tk×Tk):=⟨λ_ ok x=>ok x⟩
instance {b:Type} [Vd b]:Vd (Array b):=⟨λkd ok a=>∀x,x∈a->Vd.vd kd ok x⟩
instance {b:Type} [Vd b]:Vd (Option b):=⟨λkd ok a=>∀x,a=some x->Vd.vd kd ok x⟩
instance {a b:Type} [Vd a] [Vd b]:Vd (a×b):=⟨λkd ok x=>Vd.vd kd ok x.1/\Vd.vd kd ok x.2⟩
instance {a b:Type} [Vd a] [Vd b]:Vd (MProd a b):=⟨λkd ok x=>Vd.vd kd ok x.1/\Vd.vd kd ok x.2⟩
instance:Vd bT:=⟨λkd ok st=>kindOf st=kd/\∀x,x∈arrOf st->ok x⟩
instance {b:Type} [Vd b]:Vd (ForInStep b):=⟨λkd ok x=>match x with|.done a=>Vd.vd kd ok a|.yield a=>Vd.vd kd ok a⟩
section
variable (TW:nS) (v1 s3:Ctx) (s s':Go) (kd:sL) (ok:cn->Prop)
def T {c:Type} [Vd c] (m:StateT bT Sem c):Prop:=∀(st:bT) (p:Pos) (Q:c->bT->Pos->Go->Prop),Vd.vd kd ok st->hp TW s3 (m.run st) (λr a b=>Q r.1 r.2 a b) (λ_ _ _=>False) p s'->
 ∀p2,hp TW v1 (m.run st) (λr _ b=>b=s/\(∃a,Q r.1 r.2 a s')/\Vd.vd kd ok r.2/\Vd.vd kd ok r.1) (λ_ _ _=>False) p2 s
variable {TW v1 s3 s s' kd ok}
local macro_rules| `(tactic| trivial)=> `(tactic| assumption)
theorem T.pure[Vd d] (h:Vd.vd kd ok a):T TW v1 s3 s s' kd ok (oo a:StateT bT Sem d):=by
 intro st p Q c b p2;rw[Et]at b⊢;rw[om]at b⊢;exact⟨O,⟨p,b⟩,c,h⟩
theorem T.bind[Vd k] [Vd l] {f:k->StateT bT Sem l}(hm:T TW v1 s3 s s' kd ok m) (hf:∀a,Vd.vd kd ok a->T TW v1 s3 s s' kd ok (f a)):T TW v1 s3 s s' kd ok (m >>= f):=by
 intro st p Q g d p2;rw[Eu]at d⊢;rw[xO]at d⊢;refine xP TW v1 _ (λr b c h=>?_) (λ_ _ _ h=>h) p2 s (hm st p (λa j b c=>hp TW s3 ((f a).run j) (λr b c=>Q r.1 r.2 b c) (λ_ _ _=>False) b c) g d p2);obtain⟨rfl,⟨i,h1⟩,h2,e⟩:=h;exact hf r.1 e r.2 i Q h2 h1 b
theorem T.get:T TW v1 s3 s s' kd ok (MonadState.get:StateT bT Sem bT):=by
 intro st p Q b a p2;have e:(MonadState.get:StateT bT Sem bT).run st=oo (st,st):=Ex ..;rw[e]at a⊢;rw[om]at a⊢;exact⟨O,⟨p,a⟩,b,b⟩
theorem T.modify {f:bT->bT}(h:∀st,Vd.vd kd ok st->Vd.vd kd ok (f st)):T TW v1 s3 s s' kd ok (modify f:StateT bT Sem PUnit):=by
 intro st p Q b a p2;rw[StateT.run_modify]at a⊢;rw[om]at a⊢;exact⟨O,⟨p,a⟩,h st b,True.intro⟩
theorem T.set {a:bT}(h:Vd.vd kd ok a):T TW v1 s3 s s' kd ok (MonadStateOf.set a:StateT bT Sem PUnit):=by
 intro st p Q c b p2;have e:(MonadStateOf.set a:StateT bT Sem PUnit).run st=oo (PUnit.unit,a):=StateT.run_set ..;rw[e]at b⊢;rw[om]at b⊢;exact⟨O,⟨p,b⟩,h,True.intro⟩
theorem T.rule{tag:String}:T TW v1 s3 s s' kd ok (liftM (wM tag):StateT bT Sem Unit):=by
 intro st p Q c b p2;have e:(liftM (wM tag):StateT bT Sem Unit).run st=(do let a <-wM tag;oo (a,st)):=Ew ..;rw[e]at b⊢;rw[xO]at b⊢;exact⟨O,⟨p,b⟩,c,True.intro⟩
theorem T.none[Vd b] {m:StateT bT Sem b}(h:∀st Q E p s0,¬hp TW s3 (m.run st) Q E p s0):T TW v1 s3 s s' kd ok m:=λst p Q _ a _=>absurd a (h _ _ _ _ _)
theorem T.ite[Vd d]  [Decidable c] {b:StateT bT Sem d}(h1:c->T TW v1 s3 s s' kd ok a) (h2:¬c->T TW v1 s3 s s' kd ok b):T TW v1 s3 s s' kd ok (if c then a else b):=by(
by_cases h:c
·rw[No h];exact h1 h
·rw[Ps h];exact h2 h)
theorem T.zg[Vd e] (h:∀x b,Vd.vd kd ok b->T TW v1 s3 s s' kd ok (f x b)):∀(l:List Nat) (b:e),Vd.vd kd ok b->T TW v1 s3 s s' kd ok (forIn l b f)
 |[],b,a=>by rw[nG];exact T.pure a
 |x::l,b,a=>by
  rw[rO];refine T.bind (h x b a) λr d=>?_;cases r with
  |done c=>exact T.pure d
  |yield c=>exact T.zg h l c d
theorem T.gL[Vd c] {r:Std.Legacy.Range}{b:c}(a:Vd.vd kd ok b) (h:∀x b,Vd.vd kd ok b->T TW v1 s3 s s' kd ok (f x b)):T TW v1 s3 s s' kd ok (forIn r b f):=by
 rw[Std.Legacy.Range.forIn_eq_forIn_range'];exact T.zg h _ b a
theorem T.elem(h:Vd.vd kd ok arr):T TW v1 s3 s s' kd ok (elem' arr i):=by(
rw[elem'_eq];cases e:arr[i]? with
|none=>exact T.none λst Q E p s0 z=>z.elim
|some x=>exact T.pure (h x (Array.mem_of_getElem? e)))
structure f6 (TW:nS) (v1 s3:Ctx) (s s':Go) (kd:sL) (ok:cn->Prop):Prop where
 fits:∃base,s3.Fits base
 E_:∀x y,ok x->ok y->∃c,(∀p,hp TW s3 (xB kd x.1 y.1) (λb _ a=>a=s'/\b=c) (λ_ _ _=>False) p s')/\∀p,hp TW v1 (xB kd x.1 y.1) (λb _ a=>a=s/\b=c) (λ_ _ _=>False) p s
theorem T.lt(C:f6 TW v1 s3 s s' kd ok) (o:Vd.vd kd ok x) (q:Vd.vd kd ok y):T TW v1 s3 s s' kd ok (lt' x y):=by(
obtain⟨base,hf⟩:=C.fits;obtain⟨c,h1,h2⟩:=C.E_ x y o q;intro st p Q g d p2;have l:kindOf st=kd:=g.1;rw[lt'_eq]at d⊢;simp only[Eu,Ex,pure_bind]at d⊢;rw[l]at d⊢;have e:∀(m:Sem (Except Tk Bool)),(liftM m:StateT bT Sem (Except Tk Bool)).run st=(do let a <-m;oo (a,st)):=λm=>Ew ..;rw[e]at d⊢;simp only[xO,Sem.wp_attempt,om]at d⊢;have k:=Ni hf _ (h1 p) d;have j:∃f,Q (some c) st f s':=by
 rcases Nj _ k with⟨b,f,i,⟨rfl,rfl⟩,n⟩|⟨e,f,i,h,_⟩
 ·exact⟨f,n⟩
 ·exact h.elim
refine xP TW v1 _ (λb f i h=>?_) (λ_ _ _ h=>h.elim) p2 s (h2 p2);obtain⟨rfl,rfl⟩:=h;exact⟨O,j,g,λz e=>True.intro⟩)
theorem T.ltAt(C:f6 TW v1 s3 s s' kd ok) :T TW v1 s3 s s' kd ok (ltAt' i j):=by
 rw[ltAt'_eq];exact T.bind T.get λst a=>T.bind (T.elem a.2) λx b=>T.bind (T.elem a.2) λy c=>T.lt C b c
theorem Am{st:bT}(h:Vd.vd kd ok st) (a:∀x,x∈xs->ok x):Vd.vd kd ok (setArr st xs):=⟨h.1,a⟩
theorem Al{ys:Array cn}(h:∀x,x∈xs->ok x) (a:ys.Perm xs):∀x,x∈ys->ok x:=λx b=>h x (by
 have:=xD.mp a;exact(l4).mp (this.mem_iff.mp (l4.mpr b)))
theorem T.rev:T TW v1 s3 s s' kd ok (reverseSlice' i j):=by
 rw[reverseSlice'_eq];exact T.modify λst h=>Am h (Al h.2 (mirror_perm ..))
theorem T.down:T TW v1 s3 s s' kd ok (moveDown' i j):=by
 rw[moveDown'_eq];exact T.modify λst h=>Am h (Al h.2 (bubble_perm ..))
theorem T.q8:T TW v1 s3 s s' kd ok (setMinGallop' g):=by
 rw[setMinGallop'_eq];exact T.modify λst h=>⟨h.1,h.2⟩
theorem NE {n:Nat}:Vd.vd kd ok n:=True.intro
theorem g0 {n:Bool}:Vd.vd kd ok n:=True.intro
theorem rD {n:Unit}:Vd.vd kd ok n:=True.intro
theorem aI[Vd b] {a:b}(h:Vd.vd kd ok a):Vd.vd kd ok (ForInStep.done a):=h
theorem fP[Vd b] {a:b}(h:Vd.vd kd ok a):Vd.vd kd ok (oi a):=h
theorem b9[Vd a]:Vd.vd kd ok (none:Option a):=λ_ h=>by cases h
theorem br[Vd b] {a:b}(h:Vd.vd kd ok a):Vd.vd kd ok (some a):=λ_ e=>by cases e;exact h
theorem Sc[Vd c] [Vd d] {a:c}{b:d}(h:Vd.vd kd ok a) (h':Vd.vd kd ok b):Vd.vd kd ok (a,b):=⟨h,h'⟩
theorem vZ {o:Option Nat}:Vd.vd kd ok o:=λ_ _=>True.intro
theorem M_ {o:Option Bool}:Vd.vd kd ok o:=λ_ _=>True.intro
theorem kc[Vd a] [Vd b] {x:a×b}(h:Vd.vd kd ok x):Vd.vd kd ok x.1:=h.1
theorem rC[Vd a] [Vd b] {x:a×b}(h:Vd.vd kd ok x):Vd.vd kd ok x.2:=h.2
theorem vY[Vd b] {a:b}(h:Vd.vd kd ok o) (e:o=some a):Vd.vd kd ok a:=h a e
theorem pc{b:Array cn}(h:Vd.vd kd ok a) (h':Vd.vd kd ok b):Vd.vd kd ok (a++b):=λx c=>(Array.mem_append.mp c).elim (h x) (h' x)
theorem bv{a:Array cn}(h:Vd.vd kd ok a) (h':Vd.vd kd ok x):Vd.vd kd ok (a.push x):=λy b=>by
 rcases Array.mem_push.mp b with q|rfl
 ·exact h y q
 ·exact h'
theorem h4 {x:cn}(h':Vd.vd kd ok x):Vd.vd kd ok #[x]:=λy a=>by
 simp only[List.mem_toArray,sc,Array.mem_singleton]at a;rw[a];exact h'
theorem py{a:Array cn}(h:Vd.vd kd ok a):Vd.vd kd ok (a.extract i j):=λy b=>by
 obtain⟨k,c,e⟩:=Array.mem_iff_getElem.mp b;rw[Array.getElem_extract]at e;rw[<- e];exact h _ (Array.getElem_mem _)
theorem dP {a:Array cn}(h:Vd.vd kd ok a):Vd.vd kd ok a.reverse:=λy b=>h y (by simpa using b)
theorem T.countRun(C:f6 TW v1 s3 s s' kd ok) {lo:Nat}:T TW v1 s3 s s' kd ok (countRun' lo a):=by(
rw[countRun'_eq];dsimp only
repeat' (first
 |exact NE|exact g0|exact rD|exact vZ|exact b9|assumption|refine br ?_|refine aI ?_|refine fP ?_|refine Sc ?_ ?_|refine pc ?_ ?_|refine bv ?_ ?_|refine h4 ?_|refine py ?_|refine dP ?_|refine kc ?_|refine rC ?_|exact vY (kc (by assumption)) (by assumption)
 |exact T.ltAt C|exact T.rev|exact T.rule|exact T.get
 |refine T.bind ?_ (λ_ _=>?_)
 |refine T.gL ?_ (λ_ _ _=>?_)
 |refine T.ite (λ_=>?_) (λ_=>?_)
 |refine T.pure ?_
 |split))
theorem T.binarySort(C:f6 TW v1 s3 s s' kd ok) {lo:Nat}:T TW v1 s3 s s' kd ok (binarySort' lo n k):=by(
rw[binarySort'_eq];dsimp only
repeat' (first
 |exact NE|exact g0|exact rD|exact vZ|exact b9|assumption|refine br ?_|refine aI ?_|refine fP ?_|refine Sc ?_ ?_|refine pc ?_ ?_|refine bv ?_ ?_|refine h4 ?_|refine py ?_|refine dP ?_|refine kc ?_|refine rC ?_|exact vY (kc (by assumption)) (by assumption)
 |exact T.ltAt C|exact T.down|exact T.rule|exact T.get
 |refine T.bind ?_ (λ_ _=>?_)
 |refine T.gL ?_ (λ_ _ _=>?_)
 |refine T.ite (λ_=>?_) (λ_=>?_)
 |refine T.pure ?_
 |split))
theorem T.beyond(C:f6 TW v1 s3 s s' kd ok) (a:Vd.vd kd ok key) (c:Vd.vd kd ok arr):T TW v1 s3 s s' kd ok (beyond' left key arr base i):=by
 unfold beyond';exact T.bind (T.elem c) λx b=>T.ite (λ_=>T.lt C b a) λ_=>T.bind (T.lt C a b) λ_ _=>T.pure M_
theorem T.gallop(C:f6 TW v1 s3 s s' kd ok) (b:Vd.vd kd ok key) (a:Vd.vd kd ok arr):T TW v1 s3 s s' kd ok (gallop' left key arr base n c):=by(
rw[gallop'_eq];dsimp only
repeat' (first
 |exact NE|exact g0|exact rD|exact vZ|exact b9|assumption|refine br ?_|refine aI ?_|refine fP ?_|refine Sc ?_ ?_|refine pc ?_ ?_|refine bv ?_ ?_|refine h4 ?_|refine py ?_|refine dP ?_|refine kc ?_|refine rC ?_|exact vY (kc (by assumption)) (by assumption)
 |exact T.beyond C b a|exact T.rule|exact T.get
 |refine T.bind ?_ (λ_ _=>?_)
 |refine T.gL ?_ (λ_ _ _=>?_)
 |refine T.ite (λ_=>?_) (λ_=>?_)
 |refine T.pure ?_
 |split))
end
end Sx
namespace Sx
open PySem PyProof.Rows
section
variable {TW:nS}{v1 s3:Ctx}{s s':Go}{kd:sL}{ok:cn->Prop}
theorem T.hD[Vd d] [Vd e] {f:Option d->StateT bT Sem e}(hm:T TW v1 s3 s s' kd ok m) (hf:∀a,Vd.vd kd ok a->T TW v1 s3 s s' kd ok (f (some a))) (b:T TW v1 s3 s s' kd ok (f Option.none)):T TW v1 s3 s s' kd ok (m >>= f):=
 T.bind hm λo c=>match o,c with
  |some a,h=>hf a (h a rfl)
  |Option.none,_=>b
theorem T.jA[Vd e] [Vd g] [Vd i] {f:Option e×i->StateT bT Sem g}(hm:T TW v1 s3 s s' kd ok m) (hf:∀a c,Vd.vd kd ok a->Vd.vd kd ok c->T TW v1 s3 s s' kd ok (f (some a,c))) (b:∀c,Vd.vd kd ok c->T TW v1 s3 s s' kd ok (f (Option.none,c))):T TW v1 s3 s s' kd ok (m >>= f):=
 T.bind hm λo d=>match o,d with
  |(some a,c),h=>hf a c (h.1 a rfl) h.2
  |(Option.none,c),h=>b c h.2
theorem T.mergeLo(C:f6 TW v1 s3 s s' kd ok) (e:Vd.vd kd ok a) (d:Vd.vd kd ok b):T TW v1 s3 s s' kd ok (mergeLo' a b):=by(
rw[mergeLo'_eq];refine T.bind T.rule λ_ _=>?_;refine T.bind (T.elem d) λx0 y=>?_;refine T.ite (λ_=>T.pure (pc (pc (h4 y) (py e)) (py d))) λ_=>T.ite (λ_=>T.pure (pc (pc (h4 y) (py d)) (py e))) λ_=>?_;refine T.bind T.get λst _=>?_;refine T.jA (T.gL (Sc b9 (Sc (h4 y) (Sc NE (Sc NE NE)))) λ_ S m=>?_) (λr c t j=>T.pure t) (λc j=>T.none λst Q E p s0 z=>z.elim);obtain⟨_,out,D,H,mg⟩:=S;have f:Vd.vd kd ok out:=m.2.1;clear m;refine T.jA (T.gL (Sc b9 (Sc f (Sc NE (Sc NE (Sc NE NE))))) λ_ S m=>?_) (λr c t j=>T.pure (Sc (br t) (Sc j.1 (Sc NE (Sc NE NE))))) (λc j=>?_)
·obtain⟨_,out,D,H,ac,J⟩:=S;have f:Vd.vd kd ok out:=m.2.1;clear m;refine T.bind (T.elem d) λOM A=>T.bind (T.elem e) λON l=>T.hD (T.lt C A l) (λw _=>?_) (T.pure (aI (Sc (br (pc (pc f (py e)) (py d))) (Sc f (Sc NE (Sc NE (Sc NE NE)))))));refine T.ite (λ_=>T.bind (T.elem d) λOL h=>?_) (λ_=>T.bind (T.elem e) λOL h=>?_)
 ·exact T.ite (λ_=>T.pure (aI (Sc (br (pc (pc (bv f h) (py e)) (py d))) (Sc (bv f h) (Sc NE (Sc NE (Sc NE NE))))))) λ_=>
   T.ite (λ_=>T.pure (aI (Sc b9 (Sc (bv f h) (Sc NE (Sc NE (Sc NE NE))))))) λ_=>T.pure (fP (Sc b9 (Sc (bv f h) (Sc NE (Sc NE (Sc NE NE))))))
 ·exact T.ite (λ_=>T.pure (aI (Sc (br (pc (pc (bv f h) (py d)) (py e))) (Sc (bv f h) (Sc NE (Sc NE (Sc NE NE))))))) λ_=>
   T.ite (λ_=>T.pure (aI (Sc b9 (Sc (bv f h) (Sc NE (Sc NE (Sc NE NE))))))) λ_=>T.pure (fP (Sc b9 (Sc (bv f h) (Sc NE (Sc NE (Sc NE NE))))))
·obtain⟨out,D,H,ac,J⟩:=c;have f:Vd.vd kd ok out:=j.1;clear j;refine T.bind T.rule λ_ _=>?_;refine T.jA (T.gL (Sc b9 (Sc f (Sc NE (Sc NE (Sc NE (Sc NE NE)))))) λ_ S m=>?_) (λr c t j=>?_) (λc j=>?_)
 ·obtain⟨_,out,D,H,mg,ac,J⟩:=S;have f:Vd.vd kd ok out:=m.2.1;clear m;dsimp -zeta only
  extract_lets OX OK OY Y OZ OT O0 OW O1 OO OQ OU OH
  have u:Vd.vd kd ok OK:=f;have L:∀r n,T TW v1 s3 s s' kd ok (OH r n):=by
   intro r n;refine T.bind T.q8 λ_ _=>T.bind (T.elem d) λOM A=>T.hD (T.gallop C A e) (λk _=>?_) ?_
   ·dsimp -zeta only
    extract_lets OP OI
    have N:∀r o i,Vd.vd kd ok o->T TW v1 s3 s s' kd ok (OI r o i):=by
     intro r o i g;refine T.bind (T.elem d) λON l=>T.ite (λ_=>T.pure (aI (Sc (br (pc (pc (bv g l) (py e)) (py d))) (Sc (bv g l) (Sc NE (Sc NE (Sc NE (Sc NE NE)))))))) λ_=>?_;refine T.bind (T.elem e) λOL h=>T.hD (T.gallop C h d) (λOV _=>?_) (T.pure (aI (Sc (br (pc (pc (bv g l) (py e)) (py d))) (Sc (bv g l) (Sc NE (Sc NE (Sc NE (Sc NE NE))))))));dsimp -zeta only
     extract_lets OR OS OJ
     have U:∀r o i,Vd.vd kd ok o->T TW v1 s3 s s' kd ok (OJ r o i):=by
      intro r o i g;refine T.bind (T.elem e) λO2 x=>T.ite (λ_=>T.pure (aI (Sc (br (pc (pc (bv g x) (py d)) (py e))) (Sc (bv g x) (Sc NE (Sc NE (Sc NE (Sc NE NE)))))))) λ_=>?_;exact T.ite (λ_=>T.pure (aI (Sc b9 (Sc (bv g x) (Sc NE (Sc NE (Sc NE (Sc NE NE)))))))) λ_=>T.pure (fP (Sc b9 (Sc (bv g x) (Sc NE (Sc NE (Sc NE (Sc NE NE)))))))
     clear_value OJ
     refine T.ite (λ_=>T.ite (λ_=>?_) λ_=>U _ _ _ (pc (bv g l) (py d))) λ_=>U _ _ _ (bv g l);exact T.pure (aI (Sc (br (pc (pc (pc (bv g l) (py d)) (py e)) (py d))) (Sc (pc (bv g l) (py d)) (Sc NE (Sc NE (Sc NE (Sc NE NE)))))))
    clear_value OI
    have q:Vd.vd kd ok (OK++a.extract Y (Y+k)):=pc u (py e);refine T.ite (λ_=>T.ite (λ_=>?_) λ_=>T.ite (λ_=>?_) λ_=>N _ _ _ q) λ_=>N _ _ _ u
    ·exact T.pure (aI (Sc (br (pc (pc q (py d)) (py e))) (Sc q (Sc NE (Sc NE (Sc NE (Sc NE NE)))))))
    ·exact T.pure (aI (Sc (br (pc (pc q (py e)) (py d))) (Sc q (Sc NE (Sc NE (Sc NE (Sc NE NE)))))))
   ·exact T.pure (aI (Sc (br (pc (pc u (py e)) (py d))) (Sc u (Sc NE (Sc NE (Sc NE (Sc NE NE)))))))
  clear_value OH
  exact T.ite (λ_=>L _ _) λ_=>L _ _
 ·exact T.pure (aI (Sc (br t) (Sc j.1 (Sc NE (Sc NE NE)))))
 ·exact T.bind T.q8 λ_ _=>T.pure (fP (Sc b9 (Sc j.1 (Sc NE (Sc NE NE))))))
theorem T.mergeHi(C:f6 TW v1 s3 s s' kd ok) (d:Vd.vd kd ok a) (e:Vd.vd kd ok b):T TW v1 s3 s s' kd ok (mergeHi' a b):=by(
rw[mergeHi'_eq];refine T.bind T.rule λ_ _=>?_;refine T.bind (T.elem d) λx0 A=>?_;refine T.ite (λ_=>T.pure (pc (pc (py d) (py e)) (dP (h4 A)))) λ_=>T.ite (λ_=>T.pure (pc (pc (py e) (py d)) (dP (h4 A)))) λ_=>?_;refine T.bind T.get λst _=>?_;refine T.jA (T.gL (Sc b9 (Sc NE (Sc NE (Sc (h4 A) NE)))) λ_ S l=>?_) (λr c t j=>T.pure t) (λc j=>T.none λst Q E p s0 z=>z.elim);obtain⟨_,H,J,out,mg⟩:=S;have f:Vd.vd kd ok out:=l.2.2.2.1;clear l;refine T.jA (T.gL (Sc b9 (Sc NE (Sc NE (Sc f (Sc NE NE))))) λ_ S l=>?_) (λr c t j=>T.pure (aI (Sc (br t) (Sc NE (Sc NE (Sc j.2.2.1 NE)))))) (λc j=>?_)
·obtain⟨_,H,J,out,ac,L⟩:=S;have f:Vd.vd kd ok out:=l.2.2.2.1;clear l;refine T.bind (T.elem e) λOQ D=>T.bind (T.elem d) λOL m=>T.hD (T.lt C D m) (λw _=>?_) (T.pure (aI (Sc (br (pc (pc (py d) (py e)) (dP f))) (Sc NE (Sc NE (Sc f (Sc NE NE)))))));refine T.ite (λ_=>T.bind (T.elem d) λOM h=>?_) (λ_=>T.bind (T.elem e) λOM h=>?_)
 ·exact T.ite (λ_=>T.pure (aI (Sc (br (pc (pc (py d) (py e)) (dP (bv f h)))) (Sc NE (Sc NE (Sc (bv f h) (Sc NE NE))))))) λ_=>T.ite (λ_=>T.pure (aI (Sc b9 (Sc NE (Sc NE (Sc (bv f h) (Sc NE NE))))))) λ_=>T.pure (fP (Sc b9 (Sc NE (Sc NE (Sc (bv f h) (Sc NE NE))))))
 ·exact T.ite (λ_=>T.pure (aI (Sc (br (pc (pc (py e) (py d)) (dP (bv f h)))) (Sc NE (Sc NE (Sc (bv f h) (Sc NE NE))))))) λ_=>T.ite (λ_=>T.pure (aI (Sc b9 (Sc NE (Sc NE (Sc (bv f h) (Sc NE NE))))))) λ_=>T.pure (fP (Sc b9 (Sc NE (Sc NE (Sc (bv f h) (Sc NE NE))))))
·obtain⟨H,J,out,ac,L⟩:=c;have f:Vd.vd kd ok out:=j.2.2.1;clear j;refine T.bind T.rule λ_ _=>?_;refine T.jA (T.gL (Sc b9 (Sc NE (Sc NE (Sc f (Sc NE (Sc NE NE)))))) λ_ S l=>?_) (λr c t j=>?_) (λc j=>?_)
 ·obtain⟨_,H,J,out,mg,ac,L⟩:=S;have f:Vd.vd kd ok out:=l.2.2.2.1;clear l;dsimp -zeta only
  extract_lets O0 OO O1 OZ O2 OK O3 OX O4 OR OT OP OH
  have u:Vd.vd kd ok OK:=f;have N:∀r n,T TW v1 s3 s s' kd ok (OH r n):=by
   intro r n;refine T.bind T.q8 λ_ _=>T.bind (T.elem e) λOQ D=>T.hD (T.gallop C D d) (λk _=>?_) (T.pure (aI (Sc (br (pc (pc (py d) (py e)) (dP u))) (Sc NE (Sc NE (Sc u (Sc NE (Sc NE NE))))))));dsimp -zeta only
   extract_lets OV OS OI
   have U:∀r i o,Vd.vd kd ok o->T TW v1 s3 s s' kd ok (OI r i o):=by
    intro r i o g;refine T.bind (T.elem e) λOL m=>T.ite (λ_=>T.pure (aI (Sc (br (pc (pc (py e) (py d)) (dP (bv g m)))) (Sc NE (Sc NE (Sc (bv g m) (Sc NE (Sc NE NE)))))))) λ_=>?_;refine T.bind (T.elem d) λOM h=>T.hD (T.gallop C h e) (λON _=>?_) (T.pure (aI (Sc (br (pc (pc (py d) (py e)) (dP (bv g m)))) (Sc NE (Sc NE (Sc (bv g m) (Sc NE (Sc NE NE))))))));dsimp -zeta only
    extract_lets OW OU OY OJ
    have Y:∀r i o,Vd.vd kd ok o->T TW v1 s3 s s' kd ok (OJ r i o):=by
     intro r i o g;refine T.bind (T.elem d) λO5 x=>T.ite (λ_=>T.pure (aI (Sc (br (pc (pc (py d) (py e)) (dP (bv g x)))) (Sc NE (Sc NE (Sc (bv g x) (Sc NE (Sc NE NE)))))))) λ_=>?_;exact T.ite (λ_=>T.pure (aI (Sc b9 (Sc NE (Sc NE (Sc (bv g x) (Sc NE (Sc NE NE)))))))) λ_=>T.pure (fP (Sc b9 (Sc NE (Sc NE (Sc (bv g x) (Sc NE (Sc NE NE)))))))
    clear_value OJ
    have q:Vd.vd kd ok (o.push OL++(b.extract ON OP).reverse):=pc (bv g m) (dP (py e));exact T.ite (λ_=>T.ite (λ_=>T.pure (aI (Sc (br (pc (pc (py e) (py d)) (dP q))) (Sc NE (Sc NE (Sc q (Sc NE (Sc NE NE)))))))) λ_=>T.ite (λ_=>T.pure (aI (Sc (br (pc (pc (py d) (py e)) (dP q))) (Sc NE (Sc NE (Sc q (Sc NE (Sc NE NE)))))))) λ_=>Y _ _ _ q) λ_=>Y _ _ _ (bv g m)
   clear_value OI
   have y:Vd.vd kd ok (OK++(a.extract k OO).reverse):=pc u (dP (py d));exact T.ite (λ_=>T.ite (λ_=>T.pure (aI (Sc (br (pc (pc (py d) (py e)) (dP y))) (Sc NE (Sc NE (Sc y (Sc NE (Sc NE NE)))))))) λ_=>U _ _ _ y) λ_=>U _ _ _ u
  clear_value OH
  exact T.ite (λ_=>N _ _) λ_=>N _ _
 ·exact T.pure (aI (Sc (br t) (Sc NE (Sc NE (Sc j.2.2.1 NE)))))
 ·exact T.bind T.q8 λ_ _=>T.pure (fP (Sc b9 (Sc NE (Sc NE (Sc j.2.2.1 NE))))))
theorem t4:∀(l:List (cn×Nat)) (arr:Array cn),(∀p,p∈l->ok p.1)->(∀x,x∈arr->ok x)->∀x,x∈l.foldl (λa x=>match x with|(p,j)=>a.setIfInBounds (n+j) p) arr->ok x
 |[],arr,_,h,x,b=>h x b
 |(p,j)::l,arr,c,h,x,b=>by
  rw[dS]at b;refine t4 l _ (λq d=>c q (o0 _ d)) (λy e=>?_) x b;rcases Array.mem_or_eq_of_mem_setIfInBounds e with z|z
  ·exact h y z
  ·rw[z];exact c (p,j) (kw ..)
theorem T.mergeAt(C:f6 TW v1 s3 s s' kd ok) :T TW v1 s3 s s' kd ok (mergeAt' i):=by(
rw[mergeAt'_eq];refine T.bind T.get λst a=>?_;split
·rename_i sa g pw j h _ _;refine T.bind (T.set ⟨a.1,a.2⟩) λ_ _=>T.bind (T.elem a.2) λl c=>T.hD (T.gallop C c a.2) (λk _=>?_) (T.pure g0);refine T.ite (λ_=>T.pure g0) λ_=>T.bind (T.elem a.2) λn d=>T.hD (T.gallop C d a.2) (λf _=>T.ite (λ_=>T.pure g0) λ_=>?_) (T.pure g0);have hz:∀m:Array cn,Vd.vd kd ok m->∀p,p∈m.toList.zipIdx->ok p.1:=λm hm p b=>hm _ (by
  have:=ig.mp b;exact l4.mp (pi this))
 refine T.ite (λ_=>T.bind (T.mergeLo C (py a.2) (py a.2)) λm hm=>?_) (λ_=>T.bind (T.mergeHi C (py a.2) (py a.2)) λm hm=>?_)
 ·exact T.bind (T.modify λe h'=>⟨h'.1,t4 _ _ (hz m hm) h'.2⟩) λ_ _=>T.bind T.get λ_ _=>T.pure g0
 ·exact T.bind (T.modify λe h'=>⟨h'.1,t4 _ _ (hz m hm) h'.2⟩) λ_ _=>T.bind T.get λ_ _=>T.pure g0
·exact T.none λst Q E p s0 z=>z.elim)
theorem T.pend {f:bT->Array (Nat×Nat×Nat)}:T TW v1 s3 s s' kd ok (_root_.modify λst=>setPending st (f st):StateT bT Sem PUnit):=T.modify λst h=>⟨h.1,h.2⟩
theorem T.sortRuns (C:f6 TW v1 s3 s s' kd ok):T TW v1 s3 s s' kd ok sortRuns':=by(
rw[sortRuns'_eq]
repeat' (first
 |exact NE|exact g0|exact rD|exact b9|assumption|refine br ?_|refine aI ?_|refine fP ?_|refine Sc ?_ ?_|refine kc ?_|refine rC ?_
 |exact T.countRun C|exact T.binarySort C|exact T.mergeAt C|exact T.pend|exact T.rule|exact T.get
 |refine T.gL ?_ (λ_ _ _=>?_)
 |refine T.jA ?_ (λ_ _ _ _=>?_) (λ_ _=>?_)
 |refine T.hD ?_ (λ_ _=>?_) ?_
 |refine T.bind ?_ (λ_ _=>?_)
 |refine T.ite (λ_=>?_) (λ_=>?_)
 |refine T.pure ?_
 |dsimp -zeta only
 |dsimp only
 |split))
end
end Sx
namespace Sx
open PySem PySem.W PyProof.Rows L2
def NT (h:s2) (a:WF) (k:Int) (d:List Int):Prop:=∃t b Op,jf h a #[.int k t,.ref b]/\jf h b (wy Op)/\cD Op d
theorem zu(p:cD vs ns):ItemsAre (Dg P w) ns vs:=by(
induction p with
|nil=>exact .nil
|cons n t h a=>exact .cons (by show sC n (.int n t)=true;simp[sC]) a)
section
variable {prog:fr}{w:g2}{A:bJ}{s:Go}
theorem z2:∀a b:List Int,HT.lexLt a b=ci a b
 |[],[]=>rfl
 |[],_::_=>rfl
 |_::_,[]=>rfl
 |x::a,y::b=>by
  rw[HT.k2,z2 a b];show _=(decide (x<y)||(decide (x=y)&&ci a b));by_cases e:x=y
  ·subst e;simp
  ·simp[e]
theorem IS(hu:A.units<cT) (h1:NT s.heap x a c) (h2:NT s.heap y j d):
  wpAny (AT prog w) A (xB (ko true) (.ref x) (.ref y)) (λb C=>C=s/\b=ci (a::c) (j::d)) (λ_ _=>False) s:=by(
obtain⟨U,D,L,⟨Q,u,H,n1,r⟩,k,m⟩:=h1;obtain⟨Y,E,N,⟨T,z,J,n2,t⟩,l,p⟩:=h2;refine kat_lt u r z t (kat_cons (CZ ?_));by_cases e:a=j
·subst e;have q:(a==a)=true:=by simp
 rw[q];refine kat_yes (kat_cons (wpAny_eqBool_tuple (knd:=Dg prog w) (x:=c) (y:=d) hu ?_ ?_ ?_))
 ·obtain⟨o,i,g,n,h⟩:=k;exact⟨o,_,n,i,g,h,zu m⟩
 ·obtain⟨o,i,g,n,h⟩:=l;exact⟨o,_,n,i,g,h,zu p⟩
 by_cases f:c=d
 ·subst f;rw[sK rfl];exact kat_yes (kat_nil ⟨O,by rw[Tw.oT];rfl⟩)
 ·rw[sn f];refine kat_no (kat_one _ _ (HT.z6 k l m p hu ⟨O,?_⟩));rw[z2 c d];simp[ci]
·have q:(a==j)=false:=by simpa using e
 rw[q];refine kat_no (oneLt_int ⟨O,?_⟩);simp[ci,e])
noncomputable def t2 (ns:List Int):Obj:=je "tuple" (ns.map λn=>ij n 0).toArray 0
noncomputable def dE (f:WF->List Int) (n:Nat):s2:= {objs:=((s4 n).map λi=>t2 (f i)).toArray}
theorem GN(h:a<n):(dE f n).get? a=some (t2 (f a)):=by(
have e:(dE f n).objs[a]?=some (t2 (f a)):=by
 unfold dE;simp[gy h]
unfold Heap.get?;rw[e];rfl)
theorem zb:∀ns:List Int,cD (ns.map λn=>ij n 0) ns
 |[]=>.nil
 |n::ns=>.cons n 0 (zb ns)
theorem o7(h:a<n):G.tupKeyC (dE f n) bp (.ref a)=some ((f a).map im):=
 BQ (Op:=(f a).map λn=>ij n 0) ⟨_,GN h,O,0,O⟩ (zb _)
theorem IT(hu:A.units<cT) {arr:Array cn}{n:Nat}(h2:2<=arr.size) (ag:∀x,x∈arr->∃a k d,x.1=.ref a/\a<n/\NT s.heap a k d/\f a=k::d) 
  (h:∀e,(arrOf e).Perm arr->oe e=none->l2 (G.tupKindC (dE f n) bp) (arrOf e) arr.size->Q () e):
  wpS (AT prog w) A E s sortRuns' Q (SortSt.mk' (ko true) arr #[] 7 none):=by(
let s':Go:= {s with heap:=dE f n}
let ok:cn->Prop:=λx=>∃a k d,x.1=.ref a/\a<n/\NT s.heap a k d/\f a=k::d
let s3:Ctx:=Ctx.of (.call .none ⟨[],[]⟩) []
let m:bJ:= {handled:=s3.handled,depth:=frameCount s3.below+s3.code.weight,units:=s3.units}
have H:s3.In m:=⟨O,tz _,(λl U=>nomatch (show(none:Option (List Env))=some l from U)),(λg hg=>nomatch (show(none:Option (List Code))=some g from hg)),tz _⟩;have lt':G.LtAt prog w s' (G.tupKindC (dE f n) bp) (ko true):=G.tupC_ltAt (s:=s') true (G.KeepsTups.refl _);have keys:KeysOf (G.tupKindC (dE f n) bp) arr:=by
 intro p Y;obtain⟨a,k,d,i,o,q,u⟩:=ag p (l4.mp Y);rw[i];exact⟨_,o7 o⟩
have run:=G.wpS_sortRunsSt (prog:=prog) (w:=w) (s:=s') (A:=m) (E:=λ_ _=>False) (κ:=G.tupKindC (dE f n) bp) (kd:=ko true) (a₀:=arr) (st:=SortSt.mk' (ko true) arr #[] 7 none)
 (Q:=λ_ e=>(arrOf e).Perm arr/\oe e=none/\l2 (G.tupKindC (dE f n) bp) (arrOf e) arr.size) lt' keys ⟨xT _,O,O⟩ rfl (Stable.refl _) h2 λe a1 a2 a3 _=>⟨a1,a2,a3⟩
intro v1 p OK;have C:f6 (AT prog w) v1 s3 s s' (ko true) ok:=by
 refine⟨⟨[],Ctx.fits_of _ _⟩,λx y OI OJ=>?_⟩;obtain⟨a,k,d,i,o,q,u⟩:=OI;obtain⟨b,l,g,D,J,L,N⟩:=OJ;refine⟨ci (k::d) (l::g),λp=>?_,λp=>?_⟩
 ·have:=lt' m (λ_ _=>False) x.1 y.1 ((f a).map im) ((f b).map im) (Q:=λc j=>j=s'/\c=ci (k::d) (l::g)) (by rw[i];exact o7 o) (by rw[D];exact o7 J) ⟨O,by
   rw[<- u,<-N,<-pq]⟩
  exact this s3 p H
 ·rw[i,D];exact IS hu q L v1 p OK
have t:=T.sortRuns C (SortSt.mk' (ko true) arr #[] 7 none) p (λa e _ j=>j=s'/\(arrOf e).Perm arr/\oe e=none/\l2 (G.tupKindC (dE f n) bp) (arrOf e) arr.size) ⟨O,ag⟩ (run s3 p H) p;refine xP (AT prog w) v1 _ (λr OP j OH=>?_) (λ_ _ _ z=>z.elim) p s t;obtain⟨OL,⟨_,_,OM,ON,OO⟩,_⟩:=OH;exact⟨OL,h r.2 OM ON OO⟩)
open G in
theorem IU (hu:A.units<cT) {E:Tk->Go->Prop}{a:WF}{vs fs:List Tk}{n:Nat}{P:PySem.Fin->Go->Prop}{f:WF->List Int}(l:s.heap.get? a=some (je "list" vs.toArray n)) (C:sM s.heap bp vs fs)
  (OJ:∀v,v∈vs->∃b k d,v=.ref b/\b<s.heap.objs.size/\NT s.heap b k d/\f b=k::d) (u:vs.length<=Gc)
  (h:∀arr:Array cn,arr.Perm (gz vs)->l2 (xR (dE f s.heap.objs.size) bp) arr (gz vs).size->P (.done (.ret .none)) {s with heap:=sortedHeap s.heap a vs (arr.map (·.2))}):
  wpAny (AT prog w) A (h8.«list.sort» ⟨[.ref a],[]⟩) P E s:=by
 have hz:vs.length<=16777216:=by rw[h7]at u;exact u
 have r:a<s.heap.objs.size:=cr l;obtain⟨ep,p⟩:∃ep,(s.heap.update a (ho λ_=> #[])).get? a=some (je "list" #[] ep):=⟨_,get?_update_seq l λ_=> #[]⟩;rw[list_sort_plain];refine IR (listItems_at l rfl (IR (xv l rfl (IR (xw p rfl (IR (C' (IR (Dh (i4 ?_))))))))));have q:=keeps_sort6 (vs:=vs) l;have m:(l6 s.heap a vs).get? a=some (je "list" #[] ep):=by
  unfold l6;rw[Du _ _ _ (by rw[xy,w4];exact cb (lZ r)),Du _ _ _ (by rw[w4];exact cb r)];exact p
 show wpAny (AT prog w) A _ P E {s with heap:=l6 s.heap a vs};have OT:vs.toArray.size=vs.length:=by simp
 have H:∀arr:Array cn,arr.Perm (gz vs)->(arr.map (·.2)).size<=Gc+1:=λarr p=>by
  rw[Array.size_map,p.size_eq,sI];lia
 dsimp only;by_cases c:vs.toArray.size<2
 ·rw[No c,No c];refine IR (t3 ?_);rw[Et];refine IR (t3 ?_);dsimp only;refine IR (xw m rfl (IR (xv m rfl ?_ (hsz2:=H _ (xT _)))));simp only[CD,fX,aK];refine t3 (h (gz vs) (xT _) λi j OR OI=>?_);have:i=j:=by rw[sI]at OI;lia
  subst this;exact KeyOrd.kle_refl _
 ·rw[Ps c,Ps c];have h2:2<=vs.length:=by lia
  refine IR (tup_kind (s:= {s with heap:=l6 s.heap a vs}) (by rw[TupsOf.length C];lia) (TupsOf.keep q C) ?_);have kept:∀b k d,NT s.heap b k d->NT (l6 s.heap a vs) b k d:=by
   rintro b k d ⟨t,c,Op,⟨o,OK,y,Y⟩,⟨ON,OL,z,OH⟩,hi⟩;exact⟨t,c,Op,⟨o,q _ _ OK y,y,Y⟩,⟨ON,q _ _ OL z,z,OH⟩,hi⟩
  refine IR (eT (IT (s:= {s with heap:=l6 s.heap a vs}) (E:=E) hu (arr:=gz vs) (f:=f) (n:=s.heap.objs.size) (by rw[sI];exact h2) (λx OM=>?_) (Q:=λ_ g=>(arrOf g).Perm (gz vs)/\oe g=none/\l2 (xR (dE f s.heap.objs.size) bp) (arrOf g) (gz vs).size) λg a1 a2 a3=>⟨a1,a2,a3⟩) ?_ λ_ _ e=>e)
  ·have D:=l4.mpr OM;rw[xu]at D;obtain⟨e,hm⟩:=mem_zip_self D;obtain⟨b,k,d,L,N,T,U⟩:=OJ x.1 hm;exact⟨b,k,d,L,N,kept _ _ _ T,U⟩
  ·rintro⟨⟨⟩,g⟩ OS ⟨rfl,J,OO,OQ⟩;dsimp only;refine IR (xw m rfl (IR (xv m rfl ?_ (hsz2:=H _ J))));have OP:oe g=Option.none:=OO;rw[OP];simp only[CD,fX,aK];exact t3 (h _ J OQ)
open G in
theorem IV (hu:A.units+64<cT) {E:Tk->Go->Prop}{l:WF}{vs fs:List Tk}{Q:Tk->Go->Prop}{f:WF->List Int}(z:s.heap.IsList l vs.toArray) (D:sM s.heap bp vs fs)
  (y:∀v,v∈vs->∃b k d,v=.ref b/\NT s.heap b k d/\f b=k::d) (r:vs.length<=Gc)
  (h:∀(arr:Array cn) (n:Nat),s.heap.objs.size<=n->arr.Perm (gz vs)->l2 (xR (dE f n) bp) arr (gz vs).size->Q (.ref (s.heap.objs.size+1)) {s with heap:=sortedAll s.heap vs (arr.map (·.2))}):
  wpAny (AT prog w) A (call (.builtin "sorted") [.ref l]) Q E s:=by
 refine Calls.call_function_entry kind_sorted plain_sorted entry_sorted (args_sorted1 _) ?_;unfold h8.«sorted»;refine IR (m:=checkCount "sorted" 1 1 _) (t3 (IR (collect_list z (IR (Dh ?_)))));have g:((s.heap.push (je "list" #[] 0)).update s.heap.objs.size (ho (· ++vs.toArray))).objs.size=s.heap.objs.size+1:=by rw[w4,xy]
 generalize a:(((s.heap.push (je "list" #[] 0)).update s.heap.objs.size (ho (· ++vs.toArray))).push (je "list" vs.toArray 0))=h1;have j:h1.get? (s.heap.objs.size+1)=some (je "list" vs.toArray 0):=by rw[<- a,<-g];exact bc _ rfl
 have e:KeepsTups s.heap h1:=by
  rw[<- a];exact((KeepsTups.push _ _).trans (KeepsTups.update _ (bc _ rfl) not_tuple_list)).trans (KeepsTups.push _ _)
 have sz:s.heap.objs.size<=h1.objs.size:=by rw[<- a,xy,g];lia
 dsimp only;rw[g];refine IR (i4 (i3 slot_list_sort ⟨_,j,O⟩ entry_list_sort (IU (s:= {s with heap:=h1}) (f:=f) ?_ j (TupsOf.keep e D) (λv hv=>?_) r λarr a1 a2=>⟨_,O,t3 ⟨_,O,?_⟩⟩) (args_list_sort _)))
 ·show A.units+1+1<cT;lia
 ·obtain⟨b,k,d,J,⟨t,c,Op,⟨o,q,i,u⟩,⟨H,C,p,x⟩,hi⟩,L⟩:=y v hv;refine⟨b,k,d,J,cr (e _ _ q i),⟨t,c,Op,⟨o,e _ _ q i,i,u⟩,⟨H,e _ _ C p,p,x⟩,hi⟩,L⟩
 ·have:=h arr h1.objs.size sz a1 a2;unfold sortedAll at this;rw[a]at this;exact this
end
end Sx
namespace L2
open PySem PySem.Spec PyProof.Rows
structure NP where
 a:WF
 k:Int
 b:WF
 d:List Int
def Lm (K:wf):List W1->Hp->VK->Prop:=λvs H Q=>∃(a:WF) (ts:List NP),vs=[W1.ref a]/\TD K H a (ts.map λt=>W1.ref t.a)/\(∀t,t∈ts->pm K H t.a [.int t.k,.ref t.b]/\pm K H t.b (t.d.map W1.int))/\
 ∀(us:List NP) (p:WF),us.Perm ts->us.Pairwise (λx y=>x.k<=y.k)->H p=none->Q (.ref p) (Uf H p (.lst (us.map λt=>W1.ref t.a)))
theorem AR:∀ {ts:List NP}{us:List Tk},ww (ts.map λt=>W1.ref t.a) us->us=ts.map λt=>em t.a
 |[],_,.nil=>rfl
 |t::ts,_,.cons r b=>by cases r;rw[m0,AR b]
theorem BX:∀(ts:List NP),ww (ts.map λt=>W1.ref t.a) (ts.map λt=>em t.a)
 |[]=>.nil
 |_::ts=>.cons rfl (BX ts)
open Sx in
theorem FJ {X:Cx}(hu:X.A.units+64<cT):hs X (.builtin "sorted") (Lm X.K):=by
 intro WP s ZB H vs us Q XV r h;obtain⟨a,ts,rfl,O3,Y,q⟩:=h;obtain⟨Op,OP,O0,hz⟩:=XV.list O3;rw[ww.u3 r];have T:=AR OP;have OH:∀t,t∈ts->NT s.heap t.a t.k t.d/\∃u o n,s.heap.get? t.a=some o/\o.cls=.type "tuple" /\o.data=.seq #[.int t.k u,.ref t.b] n:=λt m=>by
  obtain⟨h1,h2⟩:=Y t m;obtain⟨Pb,J,OR,_⟩:=XV.tuple h1;obtain⟨ks,O9,tk,_⟩:=XV.tuple h2;cases J with
  |cons O7 J=>
   cases J with
   |cons O8 J=>
    cases J;obtain⟨u,rfl⟩:=O7;cases O8;obtain⟨o,D,U,n,hd⟩:=id OR;exact⟨⟨u,t.b,ks,OR,tk,O9.ints⟩,u,o,n,D,U,hd⟩
 have inj:∀(l m:List Int),l.map W1.int=m.map W1.int->l=m:=λl=>by
  induction l with
  |nil=>intro m e;cases m with
   |nil=>rfl
   |cons=>cases e
  |cons x l E=>intro m e;cases m with
   |nil=>cases e
   |cons y m=>
    rw[m0,m0]at e;injection e with N OT;injection N with N;rw[N,E m OT]
 have same:∀t t',t∈ts->t'∈ts->t.a=t'.a->t=t':=λt t' m g e=>by
  obtain⟨h1,h2⟩:=Y t m;obtain⟨OU,OV⟩:=Y t' g;rw[e]at h1;have z:=XV.vU h1 OU;injection z with C w;injection w with w Pg;injection C with C;injection w with w;rw[w]at h2;have OS:=inj _ _ (XV.vU h2 OV);obtain⟨ta,tk,tb,td⟩:=t;obtain⟨Pc,Pf,Pd,Pe⟩:=t';simp only at e C w OS;subst e C w OS;rfl
 let f:WF->List Int:=λb=>match ts.find? (λt=>decide (t.a=b))with
  |some t=>t.k::t.d
  |none=>[]
 have OJ:∀t,t∈ts->f t.a=t.k::t.d:=λt m=>by
  show(match ts.find? (λt'=>decide (t'.a=t.a))with|some t=>t.k::t.d|none=>[])=_;cases e:ts.find? (λt'=>decide (t'.a=t.a))with
  |none=>exact absurd (Cs.mp e t m) (by simp)
  |some t'=>
   have h1:=CC e;have h2:=Cc e;have C:=same t' t h2 m (by simpa using h1);simp only;rw[C]
 have fb:∀l:List NP,(∀t,t∈l->t∈ts)->∃fs,sM s.heap bp (l.map λt=>em t.a) fs:=by
  intro l
  induction l with
  |nil=>intro _;exact⟨[],.nil⟩
  |cons t l E=>
   intro hm;obtain⟨fs,L⟩:=E λu hu=>hm u (o0 _ hu);obtain⟨_,u,o,n,D,U,hd⟩:=OH t (hm t (kw ..));exact⟨_,.cons ⟨t.a,o,_,n,O,D,U,hd,O,λ_=>⟨_,_,O⟩,λe=>by cases e⟩ L⟩
 obtain⟨fs,L⟩:=fb ts λ_ m=>m;rw[<- T]at L;refine IV hu (f:=f) O0.isList L (λv hv=>?_) (by have:=OP.length;lia) λarr n O2 OL O4=>?_
 ·rw[T]at hv;obtain⟨t,m,rfl⟩:=mo.mp hv;exact⟨t.a,t.k,t.d,O,(OH t m).1,OJ t m⟩
 let c:cn->NP:=λp=>match p.2 with
  |.ref b=>(ts.find? (λt=>decide (t.a=b))).getD ⟨0,0,0,[]⟩
  |_=>⟨0,0,0,[]⟩
 have OI:∀t,t∈ts->c (.ref t.a,.ref t.a)=t:=λt m=>by
  show(ts.find? (λt'=>decide (t'.a=t.a))).getD ⟨0,0,0,[]⟩=t;cases e:ts.find? (λt'=>decide (t'.a=t.a))with
  |none=>exact absurd (Cs.mp e t m) (by simp)
  |some t'=>exact same t' t (Cc e) m (by simpa using CC e)
 have OM:arr.toList.Perm (ts.map λt=>((.ref t.a,.ref t.a):cn)):=by
  have e:=xD.mp OL;rw[xu,T]at e;have z:∀l:List NP,(l.map λt=>em t.a).zip (l.map λt=>em t.a)=l.map λt=>((.ref t.a,.ref t.a):cn):=λl=>by
   induction l with
   |nil=>rfl
   |cons t l E=>simp only[m0,oC,E]
  rw[z ts]at e;exact e
 have OO:∀p,p∈arr.toList->∃t,t∈ts/\p=(.ref t.a,.ref t.a):=λp m=>by
  obtain⟨t,g,e⟩:=mo.mp (OM.mem_iff.mp m);exact⟨t,g,e.symm⟩
 have perm:(arr.toList.map c).Perm ts:=by
  refine(OM.map c).trans ?_;rw[ax];refine xS ?_
  conv=>rhs;rw[<- rR ts]
  exact eE λt m=>OI t m
 have O6:(arr.map (·.2)).toList=(arr.toList.map c).map λt=>em t.a:=by
  rw[Eb,ax];refine eE λp m=>?_;obtain⟨t,g,rfl⟩:=OO p m;show em t.a=em (c (.ref t.a,.ref t.a)).a;rw[OI t g]
 have O5:∀t,t∈ts->t.a<n:=λt m=>by
  obtain⟨_,u,o,_,D,_⟩:=OH t m;exact c_ (cr D) O2
 have ON:∀i (hi:i<arr.toList.length),KK (G.tupKindC (dE f n) bp) arr i=(((c arr.toList[i]).k::(c arr.toList[i]).d)).map im:=λi hi=>by
  obtain⟨t,g,e⟩:=OO _ (eX hi);unfold KK;have OX:i<arr.size:=by simpa using hi
  rw[xE OX,<-Ea];show((G.tupKeyC (dE f n) bp (arr.toList[i]).1).getD [])=_;rw[e,OI t g];show(G.tupKeyC (dE f n) bp (.ref t.a)).getD []=_;rw[o7 (O5 t g),OJ t g];rfl
 have O_:(arr.toList.map c).Pairwise (λx y=>x.k<=y.k):=by
  rw[ji,kr];intro i j hi OK OY;have OZ:j<(gz Op).size:=by
   have e:=OL.size_eq;have Pa:j<arr.size:=by simpa using OK
   lia
  have:=O4 i j (ed OY) OZ;rw[ON i hi,ON j OK]at this;have OQ:lexLt xA ((((c arr.toList[j]).k::(c arr.toList[j]).d)).map im) ((((c arr.toList[i]).k::(c arr.toList[i]).d)).map im)=false:=this;rw[pq]at OQ;simp only[ci,Bool.or_eq_false_iff,wt]at OQ;lia
 obtain⟨ep,OW⟩:=D6 s.heap Op (arr.map (·.2));have O1:((arr.toList.map c).map λt=>W1.ref t.a).length<=Gc:=by
  rw[FM,perm.length_eq];rw[FM]at hz;exact hz
 refine⟨.ref _,Uf H (s.heap.objs.size+1) (.lst ((arr.toList.map c).map λt=>W1.ref t.a)),XV.laid (t':=s.toks) (λ_ _=>D5) (ie _) ⟨O1,(arr.map (·.2)).toList,ep,?_,OW⟩,O,q _ _ perm O_ (XV.ag.fresh (ie _))⟩;rw[O6];exact BX _
end L2
namespace Dv
open PySem L2 Tw
variable {P:fr}{w:g2}{K:wf}{mg:Str->Option Tk}{base:s2}{CP CN CS CL CG:WF}
noncomputable def na (i:Nat):v2:=oc.main.body.getD i (.Pass ⟨0,0,0,0⟩)
abbrev qS:v2:=bj (na 21) 0
abbrev qf:v2:=bj (na 21) 1
abbrev qe:v2:=bj (na 21) 2
abbrev j3:v2:=bj (na 21) 3
abbrev qY:v2:=bj (na 21) 4
abbrev qV:v2:=bj (na 21) 5
abbrev qw:v2:=bj (na 21) 6
abbrev qX:v2:=bj (na 21) 7
theorem c5{i:Nat}{y:b}(p:Paired R xs ys) (e:ys[i]?=some y):∃x,xs[i]?=some x/\R x y:=by(
induction p generalizing i with
|nil=>cases e
|cons r t a=>
 cases i with
 |zero=>cases e;exact B rfl r
 |succ i=>exact a e)
theorem eu{ys:List b}{i:Nat}(p:Paired R xs ys) (e:xs[i]?=some x):∃y,ys[i]?=some y/\R x y:=by(
induction p generalizing i with
|nil=>cases e
|cons r t a=>
 cases i with
 |zero=>cases e;exact B rfl r
 |succ i=>exact a e)
theorem aj{S:b->c->Prop}(h:∀x y,R x y->S x y) (p:Paired R xs ys):Paired S xs ys:=by(
induction p with
|nil=>exact .nil
|cons r t a=>exact .cons (h _ _ r) a)
def TupAt (H:Hp) (v:W1) (xs:List W1):Prop:=∃a,v=.ref a/\H a=some (.tup xs)
def LstAt (H:Hp) (v:W1) (xs:List W1):Prop:=∃a,v=.ref a/\H a=some (.lst xs)
theorem TupAt.same(s:Tl H I) (h:TupAt H v xs):TupAt I v xs:=by obtain⟨a,e,q⟩:=h;exact(Ix a e (s a _ q))
theorem LstAt.same(s:Tl H I) (h:LstAt H v xs):LstAt I v xs:=by obtain⟨a,e,q⟩:=h;exact(Ix a e (s a _ q))
def Rs (n:Nat):W1:=.int (n:Int)
noncomputable def aX (e:on):List W1:=[.int e.1,Rs e.2.1,Rs e.2.2]
def jH (w:Nat×Int×Nat):List W1:=[Rs w.1,.int w.2.1,Rs w.2.2]
noncomputable def jY (x:Nat×Int):List W1:=[Rs x.1,.int x.2]
noncomputable def nf (c r o d f:WF):List (Str×W1):=[("changes",.ref c),("runs",.ref r),("origins",.ref o),("departures",.ref d),("footpaths",.ref f)]
structure f2 (CN:WF) (H:Hp) (n:WF) (N:Nt):Prop where
 ex:∃g c r o d f b os ds fs,H n=some (.ins CN g (nf c r o d f))/\H c=some (.lst (N.chg.map W1.int))/\
  H r=some (.lst b)/\Paired (λv (x:List Nat×List Int)=>∃s a,TupAt H v [.ref s,.ref a]/\H s=some (.lst (x.1.map Rs))/\H a=some (.lst (x.2.map W1.int))) b N.runs/\
  H d=some (.lst ds)/\Paired (λv x=>∃es,LstAt H v es/\Paired (λv e=>TupAt H v (aX e)) es x) ds N.af/\
  H f=some (.lst fs)/\Paired (λv x=>∃es,LstAt H v es/\Paired (λv e=>TupAt H v (jH e)) es x) fs N.foot/\
  H o=some (.lst os)/\Paired (λv x=>TupAt H v (jY x)) os N.aZ
theorem f2.same(s:Tl H I) (h:f2 CN H n N):f2 CN I n N:=by
 refine et h.ex λi c r o d f A os ds fs h1 h2 k l m p t u y j=>?_;refine⟨i,c,r,o,d,f,A,os,ds,fs,s _ _ h1,s _ _ h2,s _ _ k,aj (λv x C=>by obtain⟨a,b,e,g,z⟩:=C;exact IN a b (e.same s) (s _ _ g) (s _ _ z)) l,s _ _ m,aj (λv x D=>by obtain⟨es,e,g⟩:=D;exact Ix es (e.same s) (aj (λ_ _ q=>q.same s) g)) p,s _ _ t,aj (λv x E=>by obtain⟨es,e,g⟩:=E;exact Ix es (e.same s) (aj (λ_ _ q=>q.same s) g)) u,s _ _ y,aj (λ_ _ q=>q.same s) j⟩
noncomputable def sf (n a1 a2 a3 a4 a5 a6 a7:WF) (k:Nat):List (Str×W1):=[("network",.ref n),("taken",Rs k),("arrivals",.ref a1),("rides",.ref a2),("ridden",.ref a3),("ready",.ref a4),("unboarded",.ref a5),("first_calls",.ref a6),("boardings",.ref a7)]
structure SA where
 x:WF
 dx:WF
 n:WF
 a1:WF
 a2:WF
 a3:WF
 a4:WF
 a5:WF
 a6:WF
 a7:WF
noncomputable def SA.own (A:SA):List WF:=[A.x,A.a1,A.a2,A.a3,A.a4,A.a5,A.a6,A.a7]
structure ul (CS CN:WF) (H:Hp) (A:SA) (N:Nt) (S:SS):Prop where
 ob:H A.x=some (.ins CS A.dx (sf A.n A.a1 A.a2 A.a3 A.a4 A.a5 A.a6 A.a7 S.taken))
 arr:H A.a1=some (.lst (S.arr.map W1.int))
 rides:H A.a2=some (.lst (S.rides.map Rs))
 ab:H A.a3=some (.lst (S.ab.map W1.int))
 ready:H A.a4=some (.lst (S.ready.map W1.int))
 ah:H A.a5=some (.lst (S.ah.map Rs))
 aa:H A.a6=some (.lst (S.aa.map Rs))
 ae:∃es,H A.a7=some (.lst es)/\Paired (λv e=>TupAt (hide A.own H) v (aX e)) es S.ae
 nd:A.own.Nodup
 au:f2 CN (hide A.own H) A.n N
structure dd (N:Nt):Prop where
 af:N.af.length=N.n
 foot:N.foot.length=N.n
 kS:∀s g m,s<N.n->(g,m)∈N.ft s->g<N.n
 eO:∀r i,r<N.runs.length->i<N.len r->N.stop r i<N.n
 pos:∀r,r<N.runs.length->0<N.len r
 comes:∀r,r<N.runs.length->(N.runs.getD r ([],[])).2.length=N.len r
 mB:∀s e,s<N.n->e∈N.af.getD s []->e.2.1<N.runs.length
 small:N.n<=1000/\(N.af.map cC).sum<=300000/\N.runs.length<=1000000/\∀r,N.len r<=1000000
structure pp (N:Nt) (S:SS):Prop where
 au:dd N
 iI:∀e,e∈S.ae->e.2.1<N.runs.length
 dD:∀r,r<N.runs.length->S.aa.getD r 0<N.len r
 arr:S.arr.length=N.n
 rides:S.rides.length=N.n
 ab:S.ab.length=N.n
 ready:S.ready.length=N.n
 ah:S.ah.length=N.n
 aa:S.aa.length=N.runs.length
 bH:∀s,s<N.n->S.ah.getD s 0<=(N.af.getD s []).length
 dC:S.ae.length+S.ah.sum<=1000000
structure bg (K:wf) (mg:Str->Option Tk) (CS CN:WF):Prop where
 aq:cE K CS
 ly:ao K CS "network"
 nt:ao K CS "taken"
 dJ:ao K CS "arrivals"
 nr:ao K CS "rides"
 qP:ao K CS "ridden"
 qO:ao K CS "ready"
 vb:ao K CS "unboarded"
 qo:ao K CS "first_calls"
 lx:ao K CS "boardings"
 aS:cE K CN
 pF:ao K CN "changes"
 iQ:ao K CN "runs"
 pG:ao K CN "origins"
 hK:ao K CN "departures"
 mW:ao K CN "footpaths"
 range:mg "range"=none
 len:mg "len"=none
theorem jO:∀(l:List Nat) (i:Nat),l.getD i 0<=l.sum
 |[],i=>by simp
 |x::l,0=>by simp
 |x::l,i+1=>by have:=jO l i;simp at this ⊢;lia
theorem k4 {a b:Type}(f:a->b) (l:List a) (i:Nat) (x:a):(l.set i x).map f=(l.map f).set i (f x):=by rw[List.map_set]
theorem bV{a:Type}{l:List a}(h:i<l.length) (d:a):l[i]?=some (l.getD i d):=Tw.getD_some h d
theorem M7(h:H a=some o):Uf H a o=H:=by(
funext b;by_cases e:b=a
·subst e;rw[KE,h]
·rw[UF e])
theorem small(h:n<=1000000):n<Gc:=by rw[h7];lia
def q_ (CS CN:WF):Sp:=λvs H Q _=>∃(A:SA) (N:Nt) (S:SS) (stop:Nat) (ready:Int),vs=[.ref A.x,Rs stop,.int ready]/\ul CS CN H A N S/\pp N S/\stop<N.n/\
 ∀I:Hp,ul CS CN I A N (Tw.board N S stop ready)->Ch A.own H I->Q .ak I
theorem q2:pu ["self","stop","ready","departures","place"] zaq (s1 j3):=nb rfl rfl rfl (by decide +kernel)
theorem Ai(F:sB K "get_on" "Search.get_on" j3 f fd) (T:bg K mg CS CN):AC P w K mg base xL 1 f fd zaq (q_ CS CN):=by(
refine F.ar q2 (λvs H Q E h=>?_) (λPa O9 outer s H vs Q E Pm h=>?_)
·refine hL h λA N S stop ready O6 _=>?_;subst O6;rfl
·intro O_;refine hM h λA N S stop ready O7 g C Y k=>?_;subst O7;refine et g.au.ex λOV c r og d Pd Pp Po ds fs h1 h2 Pf Pg OX OY Ph Pj Pk Pe=>?_;obtain⟨bs,OK,O3⟩:=g.ae;have nd:=g.nd;have sub:=b7 A.own H;obtain⟨Pb,OZ,es,⟨t,rfl,OL⟩,OR⟩:=c5 OY (bV (l:=N.af) (i:=stop) (by rw[C.au.af];exact Y) []);refine B (On (zS 3 q2 (xz wE (wS (wS (V 0) rfl) rfl) (V 1)))
  (On (zS 4 q2 (xz wE (wS (V 0) rfl) (V 1)))
  (On (ll bN (PW.pt (nj (ga m6 (V 4) EQ (li _)) (nk (ga k8 (xz gN (xz wE (V 3) (kt gP (V 4) EQ)) EQ) (V 2) (li _)))))
   (On (uU (i:=4) q2.nd rfl (Or.inl rfl) EQ zw)
   (Fa (ca (cG cm da dc cZ (wS (V 0) rfl) (UV (xz wE (V 3) (V 4)) PP))))))
  (Fa (dI (V 4) (lj (wS (V 0) rfl) (V 1) lB)))))) ?_
 refine B rfl (wv A.x CS A.dx _ _ O g.ob T.aq T.ly O (wv A.n CN OV _ _ O (sub _ _ h1) T.aS T.hK O (B rfl (Db d ds _ _ O O (TD.of (sub _ _ OX)) (lv OZ) ?_))));have hu:(S.ah.map Rs)[stop]?=some (Rs (S.ah.getD stop 0)):=by rw[pr,bV (l:=S.ah) (i:=stop) (by rw[C.ah];exact Y) 0];rfl
 refine B rfl (wv A.x CS A.dx _ _ O g.ob T.aq T.vb O (B rfl (Db A.a5 _ _ _ O O (TD.of g.ah) (lv hu) ?_)));generalize OJ:N.af.getD stop []=D at OR;generalize OQ:S.ah.getD stop 0=y;have Pn:y<=D.length:=by rw[<- OQ,<-OJ];exact C.bH stop Y
 have dC:S.ae.length+y<=1000000:=by have:=C.dC;have:=jO S.ah stop;lia
 have OU:t≠A.a7:=λe=>(wl.mp OL).1 (by rw[e];simp[SA.own]);have O5:A.x≠A.a7:=by have:=nd;simp[SA.own]at this;exact this.1.2.2.2.2.2.2
 have OS:A.a5≠A.a7:=by have:=nd;simp[SA.own]at this;exact this.2.2.2.2.2.1.2
 have OH:∀o,(Uf H A.a7 o) A.x=some (.ins CS A.dx (sf A.n A.a1 A.a2 A.a3 A.a4 A.a5 A.a6 A.a7 S.taken)):=λo=>by rw[UF O5];exact g.ob
 let OT:Nat->St->Hp->Prop:=λm ZB H2=>∃(b:List on) (a:List W1),ZB=[some (.ref A.x),some (Rs stop),some (.int ready),some (.ref t),some (Rs m)]/\H2=Uf H A.a7 (.lst a)/\Paired (λv e=>TupAt (hide A.own H) v (aX e)) a b/\
  m<=y/\aR D ready m b=aR D ready y S.ae/\b.length+m=S.ae.length+y
 refine⟨OT,(b_ y S.ae bs ⟨O,(M7 OK).symm,O3,tz _,O,O⟩),?_⟩;rintro m ZB H2 ⟨b,a,rfl,rfl,OI,hm,OP,Pl⟩;have fin:∀q,aR D ready m b=(q,b)->m=q->Q .ak (Uf (Uf H A.a7 (.lst a)) A.a5 (.lst ((S.ah.set stop q).map Rs))):=by
  intro q u L;have OW:Tw.board N S stop ready= {S with ah:=S.ah.set stop q,ae:=b}:=by
   unfold Tw.board;rw[OJ,OQ,<-OP,u]
  refine k _ ?_ (((Ch.rfl' _ _).put (by simp[SA.own])).put (by simp[SA.own]));rw[OW];have OO:hide A.own (Uf (Uf H A.a7 (.lst a)) A.a5 (.lst ((S.ah.set stop q).map Rs)))=hide A.own H:=by
   rw[fD (by simp[SA.own]),fD (by simp[SA.own])]
  have j:=nd;simp[SA.own]at j;refine {ob:=?_,arr:=?_,rides:=?_,ab:=?_,ready:=?_,ah:=KE,aa:=?_,ae:=Ix a ?_ (by rw[OO];exact OI),nd:=nd,au:=by rw[OO];exact g.au}
  ·rw[UF (by simp[j])];exact OH _
  ·rw[UF (by simp[j]),UF (by simp[j])];exact g.arr
  ·rw[UF (by simp[j]),UF (by simp[j])];exact g.rides
  ·rw[UF (by simp[j]),UF (by simp[j])];exact g.ab
  ·rw[UF (by simp[j]),UF (by simp[j])];exact g.ready
  ·rw[UF (by simp[Ne.symm,j,eq_comm]),UF (by simp[j])];exact g.aa
  ·rw[UF (Ne.symm OS),KE]
 have O4:Q .ak (Uf (Uf H A.a7 (.lst a)) A.a5 (.lst ((S.ah.set stop m).map Rs)))->Q .ak (Uf (Uf H A.a7 (.lst a)) A.a5 (.lst ((S.ah.map Rs).set stop (Rs m)))):=λq=>by rw[k4]at q;exact q
 have done:∀q,aR D ready m b=(q,b)->m=q->hY (bY 4) (t_ (rq K (bY 0) "unboarded") (bY 1) uX) {nx:=λ_ I=>Q .ak I,rt:=Q} [some (.ref A.x),some (Rs stop),some (.int ready),some (.ref t),some (Rs m)] (Uf H A.a7 (.lst a)):=by
  intro q u L;refine B rfl (B rfl (wv A.x CS A.dx _ _ O (OH _) T.aq T.vb O (B rfl (Db A.a5 (S.ah.map Rs) _ stop O O (by rw[UF OS];exact g.ah) ?_ ?_))))
  ·unfold e7;rw[No (by lia),No (by rw[FM,C.ah];lia)];simp
  ·exact O4 (L▸fin q u L)
 refine B rfl (IN _ _ O O (B rfl ?_));cases m with
 |zero=>
  rw[Ps (by decide)];refine v6 ?_;exact done 0 rfl rfl
 |succ p=>
  rw[No (sK (by show(0:Int)<((p+1:Nat):Int);lia))];have O1:p<D.length:=by lia
  obtain⟨Pc,ON,⟨J,rfl,U⟩⟩:=c5 OR (bV O1 dB);have O0:(Uf H A.a7 (.lst a)) J=some (.tup (aX (D.getD p dB))):=by
   rw[UF (Aa (sub _ _ U) OK (by intro z;cases z))];exact sub _ _ U
  have OM:(Uf H A.a7 (.lst a)) t=some (.lst es):=by rw[UF OU];exact sub _ _ OL
  have u:((p+1:Nat):Int)-1=(p:Int):=by lia
  refine B rfl (B rfl (IN _ _ O O (Db t es _ _ O O (TD.of OM) (by rw[u];exact lv ON) (Db J _ _ _ O O (pm.of O0) O (B rfl (IN _ _ O O (B rfl ?_)))))));by_cases c:ready<=(D.getD p dB).1
  ·rw[sK c];refine wn ⟨λO8 I=>∃O2,O2<p+1/\_,λO8 I q=>q,?_⟩;refine B rfl (IN _ _ O O ?_);refine B rfl (b' A.x CS A.dx _ _ O (OH _) T.aq T.lx O (.inl ⟨O,⟨_,TD.of KE⟩⟩) (B rfl (B rfl (Db t es _ _ O O (TD.of OM) (by show dW es (((p+1:Nat):Int)-1)=_;rw[u];exact lv ON) (bb A.a7 a _ O O KE ?_ ?_)))))
   ·have:a.length=b.length:=Paired.length OI;exact small (by lia)
   ·rw[gZ];refine Ix p (so _) ⟨b++[D.getD p dB],a++[W1.ref J],?_,O,Paired.snoc OI (Ix J O U),by lia,?_,?_⟩
    ·show [some (W1.ref A.x),some (Rs stop),some (W1.int ready),some (W1.ref t),some (W1.int (((p+1:Nat):Int)-1))]=_;rw[u];rfl
    ·rw[<- OP]
     conv=>rhs;unfold aR
     rw[No c]
    ·rw[ls,bK];lia
  ·rw[sn c];refine v6 ?_;refine done (p+1) ?_ rfl;unfold aR;rw[Ps c])
theorem z' {l:List WF}(nd:l.Nodup) (i j:Nat) (hi:i<l.length) (a:j<l.length) (h:i≠j):l[i]≠l[j]:=λe=>h ((rM nd).mp e)
theorem gT {A:SA}(nd:A.own.Nodup) (i j:Nat) (h:decide (i<8/\j<8/\i≠j)=true):A.own[i]'(gB h).1≠A.own[j]'(gB h).2.1:=z' nd i j _ _ (gB h).2.2
section
variable {CS CN:WF}{H:Hp}{A:SA}{N:Nt}{S:SS}
theorem ul.setArr (h:ul CS CN H A N S) (l:List Int):ul CS CN (Uf H A.a1 (.lst (l.map W1.int))) A N {S with arr:=l}:=by
 have a:hide A.own (Uf H A.a1 (.lst (l.map W1.int)))=hide A.own H:=fD (by simp[SA.own]);have n:=gT h.nd;obtain⟨es,b,c⟩:=h.ae;exact {ob:=(UF (n 0 1 rfl)).trans h.ob,arr:=KE,rides:=(UF (n 2 1 rfl)).trans h.rides,ab:=(UF (n 3 1 rfl)).trans h.ab,ready:=(UF (n 4 1 rfl)).trans h.ready,ah:=(UF (n 5 1 rfl)).trans h.ah,aa:=(UF (n 6 1 rfl)).trans h.aa,ae:=Ix es ((UF (n 7 1 rfl)).trans b) (by rw[a];exact c),nd:=h.nd,au:=by rw[a];exact h.au}
theorem ul.Mj (h:ul CS CN H A N S) (l:List Nat):ul CS CN (Uf H A.a2 (.lst (l.map Rs))) A N {S with rides:=l}:=by
 have a:hide A.own (Uf H A.a2 (.lst (l.map Rs)))=hide A.own H:=fD (by simp[SA.own]);have n:=gT h.nd;obtain⟨es,b,c⟩:=h.ae;exact {ob:=(UF (n 0 2 rfl)).trans h.ob,arr:=(UF (n 1 2 rfl)).trans h.arr,rides:=KE,ab:=(UF (n 3 2 rfl)).trans h.ab,ready:=(UF (n 4 2 rfl)).trans h.ready,ah:=(UF (n 5 2 rfl)).trans h.ah,aa:=(UF (n 6 2 rfl)).trans h.aa,ae:=Ix es ((UF (n 7 2 rfl)).trans b) (by rw[a];exact c),nd:=h.nd,au:=by rw[a];exact h.au}
theorem ul.Mi (h:ul CS CN H A N S) (l:List Int):ul CS CN (Uf H A.a3 (.lst (l.map W1.int))) A N {S with ab:=l}:=by
 have a:hide A.own (Uf H A.a3 (.lst (l.map W1.int)))=hide A.own H:=fD (by simp[SA.own]);have n:=gT h.nd;obtain⟨es,b,c⟩:=h.ae;exact {ob:=(UF (n 0 3 rfl)).trans h.ob,arr:=(UF (n 1 3 rfl)).trans h.arr,rides:=(UF (n 2 3 rfl)).trans h.rides,ab:=KE,ready:=(UF (n 4 3 rfl)).trans h.ready,ah:=(UF (n 5 3 rfl)).trans h.ah,aa:=(UF (n 6 3 rfl)).trans h.aa,ae:=Ix es ((UF (n 7 3 rfl)).trans b) (by rw[a];exact c),nd:=h.nd,au:=by rw[a];exact h.au}
theorem ul.Mh (h:ul CS CN H A N S) (l:List Int):ul CS CN (Uf H A.a4 (.lst (l.map W1.int))) A N {S with ready:=l}:=by
 have a:hide A.own (Uf H A.a4 (.lst (l.map W1.int)))=hide A.own H:=fD (by simp[SA.own]);have n:=gT h.nd;obtain⟨es,b,c⟩:=h.ae;exact {ob:=(UF (n 0 4 rfl)).trans h.ob,arr:=(UF (n 1 4 rfl)).trans h.arr,rides:=(UF (n 2 4 rfl)).trans h.rides,ab:=(UF (n 3 4 rfl)).trans h.ab,ready:=KE,ah:=(UF (n 5 4 rfl)).trans h.ah,aa:=(UF (n 6 4 rfl)).trans h.aa,ae:=Ix es ((UF (n 7 4 rfl)).trans b) (by rw[a];exact c),nd:=h.nd,au:=by rw[a];exact h.au}
theorem ul.Mg (h:ul CS CN H A N S) (l:List Nat):ul CS CN (Uf H A.a6 (.lst (l.map Rs))) A N {S with aa:=l}:=by
 have a:hide A.own (Uf H A.a6 (.lst (l.map Rs)))=hide A.own H:=fD (by simp[SA.own]);have n:=gT h.nd;obtain⟨es,b,c⟩:=h.ae;exact {ob:=(UF (n 0 6 rfl)).trans h.ob,arr:=(UF (n 1 6 rfl)).trans h.arr,rides:=(UF (n 2 6 rfl)).trans h.rides,ab:=(UF (n 3 6 rfl)).trans h.ab,ready:=(UF (n 4 6 rfl)).trans h.ready,ah:=(UF (n 5 6 rfl)).trans h.ah,aa:=KE,ae:=Ix es ((UF (n 7 6 rfl)).trans b) (by rw[a];exact c),nd:=h.nd,au:=by rw[a];exact h.au}
theorem ul.Ml (h:ul CS CN H A N S) (k:Nat):ul CS CN (Uf H A.x (.ins CS A.dx (sf A.n A.a1 A.a2 A.a3 A.a4 A.a5 A.a6 A.a7 k))) A N {S with taken:=k}:=by
 have a:hide A.own (Uf H A.x (.ins CS A.dx (sf A.n A.a1 A.a2 A.a3 A.a4 A.a5 A.a6 A.a7 k)))=hide A.own H:=fD (by simp[SA.own]);have n:=gT h.nd;obtain⟨es,b,c⟩:=h.ae;exact {ob:=KE,arr:=(UF (n 1 0 rfl)).trans h.arr,rides:=(UF (n 2 0 rfl)).trans h.rides,ab:=(UF (n 3 0 rfl)).trans h.ab,ready:=(UF (n 4 0 rfl)).trans h.ready,ah:=(UF (n 5 0 rfl)).trans h.ah,aa:=(UF (n 6 0 rfl)).trans h.aa,ae:=Ix es ((UF (n 7 0 rfl)).trans b) (by rw[a];exact c),nd:=h.nd,au:=by rw[a];exact h.au}
theorem mM(h:k<n):e7 n (k:Int)=some k:=by
 unfold e7;rw[No (by lia),No (by lia)];simp
theorem jz{l:List Int}(h:i<l.length):dW (l.map W1.int) (i:Int)=some (.int (l.getD i 0)):=lv (by rw[pr,bV h 0];rfl)
theorem tq{l:List Nat}(h:i<l.length):dW (l.map Rs) (i:Int)=some (Rs (l.getD i 0)):=lv (by rw[pr,bV h 0];rfl)
theorem sum_set:∀(l:List Nat) (i x:Nat),i<l.length->(l.set i x).sum+l.getD i 0=l.sum+x
 |[],i,x,h=>absurd h (xj _)
 |y::l,0,x,_=>by simp;lia
 |y::l,i+1,x,h=>by
  have:=sum_set l i x (by simpa using h);simp at this⊢;lia
theorem tH:∀(p:Nat) (b:List on),(aR d ready p b).1<=p/\(aR d ready p b).2.length+(aR d ready p b).1=b.length+p
 |0,b=>⟨tz _,O⟩
 |p+1,b=>by
  unfold aR;split
  ·obtain⟨h1,h2⟩:=tH (d:=d) (ready:=ready) p (b++[d.getD p dB]);rw[ls,bK]at h2;exact⟨by lia,by lia⟩
  ·exact⟨tz _,O⟩
theorem yz:∀(p:Nat) (b:List on),p<=d.length->∀e,e∈(aR d ready p b).2->e∈b\/e∈d
 |0,b,_,e,h=>.inl h
 |p+1,b,a,e,h=>by
  unfold aR at h;split at h
  ·rcases yz p (b++[d.getD p dB]) (by lia) e h with q|q
   ·rcases cs.mp q with q|q
    ·exact .inl q
    ·simp only[sc]at q;rw[q];exact .inr (Tw.getD_mem (by lia) _)
   ·exact .inr q
  ·exact .inl h
theorem pp.board(h:pp N S) (a:stop<N.n) (ready:Int):pp N (Tw.board N S stop ready):=by(
obtain⟨h1,h2⟩:=tH (d:=N.af.getD stop []) (ready:=ready) (S.ah.getD stop 0) S.ae;refine {au:=h.au,iI:=λe b=>(yz _ _ (h.bH stop a) e b).elim (h.iI e) (h.au.mB stop e a),dD:=h.dD,arr:=h.arr,rides:=h.rides,ab:=h.ab,ready:=h.ready,ah:=by simp[Tw.board,h.ah],aa:=h.aa,bH:=λs c=>?_,dC:=?_}
·show(S.ah.set stop _).getD s 0<=_;rw[Tw.gW (by rw[h.ah];exact a)];split
 ·rename_i e;rw[e];exact dz h1 (h.bH stop a)
 ·exact h.bH s c
·have:=h.dC;have e:=sum_set S.ah stop (aR (N.af.getD stop []) ready (S.ah.getD stop 0) S.ae).1 (by rw[h.ah];exact a);show(aR (N.af.getD stop []) ready (S.ah.getD stop 0) S.ae).2.length+(S.ah.set stop (aR (N.af.getD stop []) ready (S.ah.getD stop 0) S.ae).1).sum<=_;lia)
theorem pp.az (h:pp N S) (stop:Nat) (Is:Int):pp N (Tw.az S stop Is):=by(
unfold Tw.az;split
·exact {h with arr:=by simp[h.arr],rides:=by simp[h.rides]}
·exact h)
theorem pp.e1(h:pp N S) (a:stop<N.n) (ready:Int):pp N (Tw.e1 N S stop ready):=by(
unfold Tw.e1;split
·exact pp.board (S:= {S with ready:=S.ready.set stop ready}) {h with ready:=by simp[h.ready]} a ready
·exact h)
theorem pp.av(h:pp N S) (a:stop<N.n) (Is ready:Int):pp N (Tw.av N S stop Is ready):=(h.az stop Is).e1 a ready
end
def nC (CS CN:WF):Sp:=λvs H Q _=>∃(A:SA) (N:Nt) (S:SS) (stop:Nat) (Is ready:Int),vs=[.ref A.x,Rs stop,.int Is,.int ready]/\ul CS CN H A N S/\pp N S/\stop<N.n/\
 ∀I:Hp,ul CS CN I A N (Tw.av N S stop Is ready)->Ch A.own H I->Q .ak I
theorem LX:pu zaf zaf (s1 qe):=nb rfl rfl rfl (by decide +kernel)
theorem Jo(F:sB K "arrive" "Search.arrive" qe f fd) (T:bg K mg CS CN) (FB:sB K "get_on" "Search.get_on" j3 o p) (bB:Binds K p zaq []) (J:cf K CS "get_on" o):
  AC P w K mg base xL 2 f fd zaf (nC CS CN):=by(
have t:AC P w K mg base xL 1 o p zaq (q_ CS CN):=Ai FB T;refine F.ar LX (λvs H Q E h=>?_) (λOI Y outer s H vs Q E D h=>?_)
·refine k_ h λA N S stop Is ready L=>?_;obtain⟨rfl,_⟩:=L;rfl
·intro OH;refine k_ h λA N S stop Is ready U=>?_;obtain⟨rfl,a,l,g,k⟩:=U;refine B (On (jp (ga d1 (V 2) (xz wE (wS (V 0) rfl) (V 1)) (li _))
   (On (dI (V 2) (lj (wS (V 0) rfl) (V 1) lB)) (Fa (dI (wS (V 0) rfl) (lj (wS (V 0) rfl) (V 1) lB)))) ii)
  (Fa (jp (ga d1 (V 3) (xz wE (wS (V 0) rfl) (V 1)) (li _))
   (On (dI (V 3) (lj (wS (V 0) rfl) (V 1) lB)) (Fa (ca (aA (V 0) T.aq J t D bB .nil ws (UV (V 1) (UV (V 3) PP)))))) ii))) ?_
 have r:∀(H1:Hp),ul CS CN H1 A N (az S stop Is)->Ch A.own H H1->
   vK (rx (hZ (d3 λi j=>.bl (decide (i<j))) (bY 3) (hZ (AH K) (rq K (bY 0) "ready") (bY 1))))
    (lE (hY (bY 3) (t_ (rq K (bY 0) "ready") (bY 1) uX)) (BB (vM CS "get_on" (q_ CS CN) [] E0 (bY 0) (rp (bY 1) (rp (bY 3) j7))))) rr
    {nx:=λ_ I=>Q .ak I,rt:=Q} [some (.ref A.x),some (Rs stop),some (.int Is),some (.int ready)] H1:=by
  intro H1 d q;have m:=l.az stop Is;refine B rfl (B rfl (wv A.x CS A.dx _ _ O d.ob T.aq T.qO O (B rfl (Db A.a4 _ _ _ O O (TD.of d.ready) (jz (by rw[m.ready];exact g)) (IN _ _ O O (B rfl ?_))))));by_cases c:ready<(az S stop Is).ready.getD stop 0
  ·rw[sK c];refine wn ?_;have n:=d.Mh ((az S stop Is).ready.set stop ready);rw[k4]at n;refine B rfl (B rfl (wv A.x CS A.dx _ _ O d.ob T.aq T.qO O (B rfl (Db A.a4 _ _ stop O O d.ready (mM (by rw[FM,m.ready];exact g)) ?_))));refine B rfl (nw A.x A.dx _ O n.ob O (B rfl (B rfl (bZ A N _ stop ready ⟨O,n,{m with ready:=by simp[m.ready]},g,λu z y=>?_⟩))));refine k u ?_ ((q.put (by simp[SA.own])).tr y λb C=>.inl C);have e:Tw.av N S stop Is ready=Tw.board N {az S stop Is with ready:=(az S stop Is).ready.set stop ready} stop ready:=by
    unfold Tw.av e1;rw[No c]
   rw[e];exact z
  ·rw[sn c];refine v6 ?_;refine k H1 ?_ q;have e:Tw.av N S stop Is ready=az S stop Is:=by unfold Tw.av e1;rw[Ps c]
   rw[e];exact d
 refine B rfl (B rfl (wv A.x CS A.dx _ _ O a.ob T.aq T.dJ O (B rfl (Db A.a1 _ _ _ O O (TD.of a.arr) (jz (by rw[l.arr];exact g)) (IN _ _ O O (B rfl ?_))))));by_cases c:Is<S.arr.getD stop 0
 ·rw[sK c];refine wn ?_;have h1:=a.setArr (S.arr.set stop Is);rw[k4]at h1;have h2:=h1.Mj (S.rides.set stop S.taken);rw[k4]at h2;refine B rfl (B rfl (wv A.x CS A.dx _ _ O a.ob T.aq T.dJ O (B rfl (Db A.a1 _ _ stop O O a.arr (mM (by rw[FM,l.arr];exact g)) ?_))));refine B rfl (wv A.x CS A.dx _ _ O h1.ob T.aq T.nt O (B rfl (wv A.x CS A.dx _ _ O h1.ob T.aq T.nr O (B rfl (Db A.a2 _ _ stop O O h1.rides (mM (by rw[FM,l.rides];exact g)) ?_)))));refine r _ ?_ (((Ch.rfl' _ _).put (by simp[SA.own])).put (by simp[SA.own]));have e:az S stop Is= {S with arr:=S.arr.set stop Is,rides:=S.rides.set stop S.taken}:=by unfold az;rw[No c]
  rw[e];exact h2
 ·rw[sn c];refine v6 ?_;refine r H ?_ (Ch.rfl' _ _);have e:az S stop Is=S:=by unfold az;rw[Ps c]
  rw[e];exact a)
section
variable {N:Nt}{S:SS}
theorem pp.walks:∀(W:List (Nat×Int)) {S:SS},pp N S->(∀g m,(g,m)∈W->g<N.n)->pp N (W.foldl (λS w=>Tw.av N S w.1 (Is+w.2) (Is+w.2)) S)
 |[],S,h,_=>h
 |(g,m)::W,S,h,hw=>by
  rw[dS];exact pp.walks W (h.av (hw g m (kw ..)) _ _) λg' a q=>hw g' a (o0 _ q)
theorem pp.bI(h:pp N S) (a:stop<N.n) (Is:Int):pp N (Tw.bI N S stop Is):=pp.walks _ h λg m q=>h.au.kS stop g m a q
end
def rh (CS CN:WF):Sp:=λvs H Q _=>∃(A:SA) (N:Nt) (S:SS) (stop:Nat) (Is:Int),vs=[.ref A.x,Rs stop,.int Is]/\ul CS CN H A N S/\pp N S/\stop<N.n/\
 ∀I:Hp,ul CS CN I A N (Tw.bI N S stop Is)->Ch A.own H I->Q .ak I
theorem q7:pu ["self","stop","minute","goal","minutes","number"] zad (s1 qY):=nb rfl rfl rfl (by decide +kernel)
theorem J5(F:sB K "walk_on" "Search.walk_on" qY f fd) (T:bg K mg CS CN) (D:AC P w K mg base xL 2 OH OI zaf (nC CS CN)) (L:Binds K OI zaf []) (mA:cf K CS "arrive" OH):
  AC P w K mg base xL 3 f fd zad (rh CS CN):=by(
refine F.ar q7 (λvs H Q E h=>?_) (λO1 OY outer s H vs Q E OR h=>?_)
·refine hL h λA N S stop Is OW _=>?_;subst OW;rfl
·intro O0;refine hM h λA N S stop Is OX p o t k=>?_;subst OX;refine et p.au.ex λU c r og d Y O9 O8 ds fs h1 h2 O3 O4 O5 O6 OJ OK O7 O2=>?_;have sub:=b7 A.own H;obtain⟨fv,OP,es,⟨fa,rfl,y⟩,C⟩:=c5 OK (bV (l:=N.foot) (i:=stop) (by rw[o.au.foot];exact t) []);refine B (Fa (cH bN rfl (cy (xz wE (wS (wS (V 0) rfl) rfl) (V 1))) (cw rfl (re (zG 3 q7) (re (zG 4 q7) (re (zG 5 q7) cx))))
  (Fa (ca (aA (V 0) T.aq mA D OR L .nil ws (UV (V 3) (UV (kt bG (V 2) (V 4)) (UV (kt bG (V 2) (V 4)) PP)))))))) ?_
 refine B rfl (wv A.x CS A.dx _ _ O p.ob T.aq T.ly O (wv A.n CN U _ _ O (sub _ _ h1) T.aS T.mW O (B rfl (Db Y fs _ _ O O (TD.of (sub _ _ OJ)) (lv OP) (zn fa O ⟨es,TD.of (sub _ _ y)⟩ ?_)))));have OQ:es.length=(N.foot.getD stop []).length:=Paired.length C
 let J:Nat->St->Hp->Prop:=λi ZB H2=>∃g m q,ZB=[some (.ref A.x),some (Rs stop),some (.int Is),g,m,q]/\
   ul CS CN H2 A N (((N.ft stop).take i).foldl (λS w=>Tw.av N S w.1 (Is+w.2) (Is+w.2)) S)/\Ch A.own H H2
 refine gM (K:=K) (a:=fa) (xs:=es) J
  (b_ none none none ⟨O,p,Ch.rfl' _ _⟩) (λi ZB H2 _ OV=>by obtain⟨_,_,_,_,_,e⟩:=OV;exact TD.of (b7 _ _ _ _ (e.hide _ _ y))) ?_ ?_
 ·rintro i x ZB H2 hi ⟨g,m,q,rfl,j,e⟩;obtain⟨⟨goal,u,num⟩,OU,⟨ta,rfl,OS⟩⟩:=eu C hi;have z:(N.ft stop)[i]?=some (goal,u):=by unfold Nt.ft;rw[pr,OU];rfl
  have OT:H2 ta=some (.tup (jH (goal,u,num))):=b7 _ _ _ _ (e.hide _ _ OS);refine he ta _ O (pm.of OT) O (io _ _ O (io _ _ O (IN _ _ O O ?_)));have OM:pp N (((N.ft stop).take i).foldl (λS w=>Tw.av N S w.1 (Is+w.2) (Is+w.2)) S):=pp.walks _ o λg m q=>o.au.kS stop g m t (ox q);have hg:goal<N.n:=o.au.kS stop goal u t (pi z);refine B rfl (nw A.x A.dx _ O j.ob O (B rfl (B rfl (B rfl (IN _ _ O O (B rfl (B rfl (IN _ _ O O (i1 A N _ goal _ _ ⟨O,j,OM,hg,λOZ ON OL=>?_⟩)))))))));refine b_ _ _ _ ⟨O,?_,e.tr OL λb OO=>.inl OO⟩;rw[cB,z,cK,oD];exact ON
 ·rintro ZB H2 ⟨g,m,q,rfl,j,e⟩;refine k H2 ?_ e;rw[show es.length=(N.ft stop).length by unfold Nt.ft;rw[FM];exact OQ,dy]at j;exact j)
noncomputable def dk (r:List Nat):List (sw×W1):=r.map λ(s:Nat)=>((im (s:Int):sw),W1.bl true)
theorem F2 (r:List Nat) (s:Nat):aC (dk r) (im (s:Int)) (W1.bl true)=dk (if s∈r then r else r++[s]):=by(
have e:((dk r).any λc=>decide (c.1=im (s:Int)))=decide (s∈r):=by
 unfold dk;rw[List.any_map]
 induction r with
 |nil=>rfl
 |cons x r b=>
  rw[rQ,b];by_cases e:x=s
  ·subst e;simp
  ·have a:¬((im (x:Int):sw)=im (s:Int)):=λq=>e (by injection q with q;lia);simp[a,Ne.symm e]
unfold aC;rw[e];by_cases m:s∈r
·rw[No (sK m),No m];unfold dk;rw[ax];refine eE λx _=>?_;show(if(im (x:Int):sw)=im (s:Int)then(im (x:Int),W1.bl true)else(im (x:Int),W1.bl true))=_;split<;>rfl
·rw[Ps (by simpa using m),Ps m];unfold dk;rw[bL];rfl)
section
variable {N:Nt}{S:SS}
structure de (N:Nt) (o:Off):Prop where
 ab:o.ab.length=N.n
 aa:o.aa.length=N.runs.length
 dD:∀r,r<N.runs.length->o.aa.getD r 0<N.len r
 ai:∀s,s∈o.ai->s<N.n
 nd:o.ai.Nodup
theorem de.step(h:de N o) {run:Nat}(g:N.stop run cu<N.n):de N (cP N run o cu):=by(
unfold cP;split
·refine {ab:=by simp[h.ab],aa:=h.aa,dD:=h.dD,ai:=λs c=>?_,nd:=?_}
 ·have c:s∈(if N.stop run cu∈o.ai then o.ai else o.ai++[N.stop run cu]):=c;split at c
  ·exact h.ai s c
  ·rcases cs.mp c with q|q
   ·exact h.ai s q
   ·simp at q;rw[q];exact g
 ·show(if N.stop run cu∈o.ai then o.ai else o.ai++[N.stop run cu]).Nodup;split
  ·exact h.nd
  ·rename_i q;rw[il];refine⟨h.nd,by simp,λa d b f=>?_⟩;simp at f;rw[f];intro e;rw[e]at d;exact q d
·exact h)
theorem de.steps {run:Nat}:∀(L:List Nat) {o:Off},de N o->(∀j,j∈L->N.stop run j<N.n)->de N (L.foldl (cP N run) o)
 |[],o,h,_=>h
 |j::L,o,h,a=>by
  rw[dS];exact de.steps L (h.step (a j (kw ..))) λi hi=>a i (o0 _ hi)
theorem de.run(b:dd N) (h:de N o) (a:e.2.1<N.runs.length):de N (er N o e):=by(
unfold er;split
·rename_i c;have g:=h.dD e.2.1 a;refine de.steps _ {ab:=h.ab,aa:=by simp[h.aa],dD:=λr f=>?_,ai:=h.ai,nd:=h.nd} λj d=>b.eO _ _ a ?_
 ·show(o.aa.set e.2.1 e.2.2).getD r 0<_;rw[Tw.gW (by rw[h.aa];exact a)];split
  ·rename_i q;rw[q];lia
  ·exact h.dD r f
 ·rw[sW]at d;lia
·exact h)
theorem de.fold (b:dd N):∀(L:List on) {o:Off},de N o->(∀e,e∈L->e.2.1<N.runs.length)->de N (L.foldl (er N) o)
 |[],o,h,_=>h
 |e::L,o,h,a=>by
  rw[dS];exact de.fold b L (h.run b (a e (kw ..))) λi hi=>a i (o0 _ hi)
theorem ub (h:pp N S):de N (bF N S):=de.fold h.au _ ⟨h.ab,h.aa,h.dD,λs q=>by simp at q,rP⟩ h.iI
theorem I7:∀(n:Nat) (l:List Nat),l.Nodup->(∀s,s∈l->s<n)->l.length<=n:=by
 intro n l nd h;have:=Eo (l₂:=s4 n) nd (λx a=>bR.mpr (h x a));simpa using this
end
section
variable {CS CN:WF}{H:Hp}{A:SA}{N:Nt}{S:SS}
theorem ul.oU(h:ul CS CN H A N S) (hd:d∉A.own) (au:f2 CN (hide A.own (Uf H d o)) A.n N) (a:H A.a7=some (.lst es)) (b:Paired (λv e=>TupAt (hide A.own (Uf H d o)) v (aX e)) es S.ae):ul CS CN (Uf H d o) A N S:=by
 have ne:∀i (hi:i<8),A.own[i]'hi≠d:=λi hi e=>hd (by rw[<- e];exact eX _);exact {ob:=(UF (ne 0 (by decide))).trans h.ob,arr:=(UF (ne 1 (by decide))).trans h.arr,rides:=(UF (ne 2 (by decide))).trans h.rides,ab:=(UF (ne 3 (by decide))).trans h.ab,ready:=(UF (ne 4 (by decide))).trans h.ready,ah:=(UF (ne 5 (by decide))).trans h.ah,aa:=(UF (ne 6 (by decide))).trans h.aa,ae:=Ix es ((UF (ne 7 (by decide))).trans a) b,nd:=h.nd,au:=au}
theorem m9(h:ul CS CN H A N S) (a:b∈A.own):H b≠none:=by(
obtain⟨es,c,d⟩:=h.ae;simp only[SA.own,rs,ip,g9]at a;rcases a with rfl|rfl|rfl|rfl|rfl|rfl|rfl|rfl
·rw[h.ob];simp
·rw[h.arr];simp
·rw[h.rides];simp
·rw[h.ab];simp
·rw[h.ready];simp
·rw[h.ah];simp
·rw[h.aa];simp
·rw[c];simp)
theorem ue(hd:H d=none) (a:Ch l H H2):Tl (hide l H) (hide l (Uf H2 d o)):=λb u e=>by
 obtain⟨h1,h2⟩:=wl.mp e;refine wl.mpr ⟨h1,?_⟩;rw[UF (v0 h2 hd)];exact a b u h2 h1
end
def vv (CS CN:WF):Sp:=λvs H Q _=>∃(A:SA) (N:Nt) (S:SS),vs=[.ref A.x]/\ul CS CN H A N S/\pp N S/\
 ∀(I:Hp) (d:WF),H d=none->I d=some (.dK (dk (bF N S).ai))->ul CS CN I A N {S with aa:=(bF N S).aa,ab:=(bF N S).ab}->Ch A.own H I->Q (.ref d) I
theorem gr:pu ["self","ridden","reached","goes","run","call","last","stops","comes","later","stop"] zaa (s1 qw):=nb rfl rfl rfl (by decide +kernel)
structure f_ (CS CN:WF) (H:Hp) (A:SA) (N:Nt) (S:SS) (d:WF) (es:List W1) (H2:Hp) (o:Off):Prop where
 at_:ul CS CN H2 A N {S with aa:=o.aa,ab:=o.ab}
 es:H2 A.a7=some (.lst es)
 tU:H2 d=some (.dK (dk o.ai))
 but:Ch A.own H H2
 ok:de N o
theorem JG(F:sB K "get_off" "Search.get_off" qw f fd) (T:bg K mg CS CN):AC P w K mg base xL 1 f fd zaa (vv CS CN):=by(
refine F.ar gr (λvs H Q E h=>?_) (λPM PK outer s H vs Q E Po h=>?_)
·refine pQ h λA N S PH _=>?_;subst PH;rfl
·intro PL;refine k9 h λA N S PJ p t k=>?_;subst PJ;have hu:=hI Po;refine et p.au.ex λPc c r og d' PN Pz P0 ds fs h1 h2 Pg Ph PR PU PV PX PY PQ=>?_;obtain⟨bs,OM,OH⟩:=p.ae;refine B (On (zS 1 gr (wS (V 0) rfl))
  (On (zS 2 gr KD)
  (On (cH bN rfl (cy (wS (V 0) rfl)) (cw rfl (re (zG 3 gr) (re (zG 4 gr) (re (zG 5 gr) cx))))
   (On (zS 6 gr (xz wE (wS (V 0) rfl) (V 4)))
   (Fa (jp (ga d1 (V 5) (V 6) (li _))
    (On (dI (V 5) (lj (wS (V 0) rfl) (V 4) lB))
    (On (dI (xz wE (wS (wS (V 0) rfl) rfl) (V 4)) (cw rfl (re (zG 7 gr) (re (zG 8 gr) cx))))
    (Fa (cH bN rfl (KP rfl T.range (UV (kt bG (V 5) EQ) (UV (kt bG (V 6) EQ) PP))) (zG 9 gr)
     (On (zS 10 gr (xz wE (V 7) (V 9)))
     (Fa (jp (ga d1 (xz wE (V 8) (V 9)) (xz wE (V 1) (V 10)) (li _))
      (On (dI (xz wE (V 8) (V 9)) (lj (V 1) (V 10) lB)) (Fa (ni hu (V 2) (V 10) m' rfl))) ii)))))))
    ii))))
  (Fa (tt (V 2)))))) ?_
 refine B rfl (wv A.x CS A.dx _ _ O p.ob T.aq T.qP O ?_);intro d hd;have D:d∉A.own:=λq=>m9 p q hd;have O0:ul CS CN (Uf H d (.dK [])) A N S:=p.oU D (p.au.same (ue hd (Ch.rfl' _ _))) OM (aj (λ_ _ q=>q.same (ue hd (Ch.rfl' _ _))) OH);have OL:A.a7≠d:=λe=>D (by rw[<- e];simp[SA.own]);refine B rfl (wv A.x CS A.dx _ _ O O0.ob T.aq T.lx O (zn A.a7 O ⟨bs,TD.of (by rw[UF OL];exact OM)⟩ ?_));have Pk:bs.length=S.ae.length:=Paired.length OH
 let OJ:Nat->St->Hp->Prop:=λi ZB H2=>∃OR OS OT OU OV OW U L,ZB=[some (.ref A.x),some (.ref A.a3),some (.ref d),OR,OS,OT,OU,OV,OW,U,L]/\
   f_ CS CN H A N S d bs H2 ((S.ae.take i).foldl (er N) ⟨S.aa,S.ab,[]⟩)
 refine gM (K:=K) (a:=A.a7) (xs:=bs) OJ
  (fc none none none none none none none none ⟨O,⟨O0,by rw[UF OL];exact OM,KE,(Ch.rfl' _ _).new hd,⟨t.ab,t.aa,t.dD,λs q=>by simp at q,rP⟩⟩⟩)
  (λi ZB H2 _ PF=>by obtain⟨_,_,_,_,_,_,_,_,_,q⟩:=PF;exact TD.of q.es) ?_ ?_
 ·rintro i x ZB H2 hi ⟨OR,OS,OT,OU,OV,OW,U,L,rfl,XV⟩;obtain⟨⟨g,run,call⟩,O4,⟨ta,rfl,Pu⟩⟩:=eu OH hi;have y:run<N.runs.length:=t.iI _ (pi O4);generalize Pm:(S.ae.take i).foldl (er N) ⟨S.aa,S.ab,[]⟩=o at XV;have O6:(S.ae.take (i+1)).foldl (er N) ⟨S.aa,S.ab,[]⟩=er N o (g,run,call):=by
   rw[cB,O4,cK,oD,Pm];rfl
  have Pw:H2 ta=some (.tup (aX (g,run,call))):=b7 _ _ _ _ (XV.but.hide _ _ Pu);refine he ta _ O (pm.of Pw) O (io _ _ O (io _ _ O (IN _ _ O O ?_)));refine B rfl (wv A.x CS A.dx _ _ O XV.at_.ob T.aq T.qo O (B rfl (Db A.a6 _ _ _ O O (TD.of XV.at_.aa) (tq (by show run<o.aa.length;rw[XV.ok.aa];exact y)) ?_)));generalize Y:o.aa.getD run 0=m;refine B rfl (B rfl (IN _ _ O O (B rfl ?_)));by_cases c:call<m
  ·rw[sK (show((call:Nat):Int)<((m:Nat):Int) by lia)];refine wn ?_;have O_:call<o.aa.getD run 0:=by rw[Y];exact c
   have PZ:m<N.len run:=by rw[<- Y];exact XV.ok.dD run y
   have OI:=XV.at_.Mg (o.aa.set run call);rw[k4]at OI;refine B rfl (B rfl (wv A.x CS A.dx _ _ O XV.at_.ob T.aq T.qo O (B rfl (Db A.a6 _ _ run O O XV.at_.aa (mM (by rw[FM];show run<o.aa.length;rw[XV.ok.aa];exact y)) ?_))));obtain⟨P1,Pr,sa,OK,⟨Py,rfl,Pq⟩,Pt,O1⟩:=c5 Ph (bV (l:=N.runs) (i:=run) y ([],[]));have OP:∀b u,hide A.own H b=some u->∀o',(Uf H2 A.a6 o') b=some u:=λb u e o'=>by
    have q:=wl.mp (XV.but.hide _ _ e);have ne:b≠A.a6:=λz=>q.1 (by rw[z];simp[SA.own]);rw[UF ne];exact q.2
   refine B rfl (wv A.x CS A.dx _ _ O OI.ob T.aq T.ly O (wv A.n CN Pc _ _ O (OP _ _ h1 _) T.aS T.iQ O (B rfl (Db r Pz _ _ O O (TD.of (OP _ _ Pg _)) (lv Pr) (he Py _ O (pm.of (OP _ _ Pq _)) O (io _ _ O (IN _ _ O O ?_)))))));refine B rfl (IN _ _ O O (B rfl (IN _ _ O O (IN _ _ O ?_ ?_))))
   ·have h':=t.au.small.2.2.2 run;refine⟨?_,?_,?_,?_⟩
    ·show -(2^62)<=((call:Nat):Int)+1;lia
    ·show((call:Nat):Int)+1<2^62;lia
    ·show -(2^62)<=((m:Nat):Int)+1;lia
    ·show((m:Nat):Int)+1<2^62;lia
   ·have en:(((m:Nat):Int)+1-(((call:Nat):Int)+1)).toNat=m-call:=by lia
    let OJ:Nat->St->Hp->Prop:=λq ZB C=>∃U L,ZB=[some (.ref A.x),some (.ref A.a3),some (.ref d),some (.int g),some (Rs run),some (Rs call),some (Rs m),some (.ref sa),some (.ref OK),U,L]/\
      f_ CS CN H A N S d bs C ((kA (call+1) q).foldl (cP N run) {o with aa:=o.aa.set run call})
    refine kT OJ
     (io _ _ O ?_) ?_ ?_
    ·have Px:=gT p.nd 7 6 rfl;have Pb:d≠A.a6:=λe=>D (by rw[e];simp[SA.own]);refine⟨OI,(UF Px).trans XV.es,(UF Pb).trans XV.tU,XV.but.put (by simp[SA.own]),{ab:=XV.ok.ab,aa:=by simp[XV.ok.aa],dD:=λO9 Pp=>?_,ai:=XV.ok.ai,nd:=XV.ok.nd}⟩;show(o.aa.set run call).getD O9 0<_;rw[Tw.gW (by rw[XV.ok.aa];exact y)];split
     ·rename_i q;rw[q];lia
     ·exact XV.ok.dD O9 Pp
    ·rintro q ZB C O3 ⟨PD,PB,rfl,J⟩;have O3:q<m-call:=nZ O3 en;generalize Pn:(kA (call+1) q).foldl (cP N run) {o with aa:=o.aa.set run call}=j at J;have O7:(kA (call+1) (q+1)).foldl (cP N run) {o with aa:=o.aa.set run call}=cP N run j (call+1+q):=by
      rw[List.range'_1_concat,oD,Pn];rfl
     have ON:call+1+q<N.len run:=by lia
     have OO:=t.au.eO run (call+1+q) y ON;have Pd:(((call:Nat):Int)+1+((q:Nat):Int))=((call+1+q:Nat):Int):=by lia
     have OQ:∀b u,hide A.own H b=some u->C b=some u:=λb u e=>b7 _ _ _ _ (J.but.hide _ _ e);show bh 9 (W1.int (((call:Nat):Int)+1+((q:Nat):Int))) _ _ _;rw[Pd];have Pf:dW ((N.runs.getD run ([],[])).1.map Rs) ((call+1+q:Nat):Int)=some (Rs (N.stop run (call+1+q))):=tq ON;have OZ:dW ((N.runs.getD run ([],[])).2.map W1.int) ((call+1+q:Nat):Int)=some (W1.int (N.comes run (call+1+q))):=jz (by rw[t.au.comes run y];exact ON);refine B rfl (B rfl (Db sa _ _ _ O O (TD.of (OQ _ _ Pt)) Pf ?_));have Pe:dW (j.ab.map W1.int) ((N.stop run (call+1+q):Nat):Int)=some (W1.int (j.ab.getD (N.stop run (call+1+q)) 0)):=jz (by rw[J.ok.ab];exact OO);refine B rfl (B rfl (Db OK _ _ _ O O (TD.of (OQ _ _ O1)) OZ (B rfl (B rfl (Db A.a3 _ _ _ O O (TD.of J.at_.ab) Pe (IN _ _ O O (B rfl ?_)))))));by_cases c3:N.comes run (call+1+q)<j.ab.getD (N.stop run (call+1+q)) 0
     ·rw[sK c3];refine wn ?_;have OX:=J.at_.Mi (j.ab.set (N.stop run (call+1+q)) (N.comes run (call+1+q)));rw[k4]at OX;refine B rfl (B rfl (Db OK _ _ _ O O (TD.of (OQ _ _ O1)) OZ (B rfl (B rfl (Db A.a3 _ _ (N.stop run (call+1+q)) O O J.at_.ab (mM (by rw[FM,J.ok.ab];exact OO)) ?_)))));have Pa:d≠A.a3:=λe=>D (by rw[e];simp[SA.own]);have O5:=gT p.nd 7 3 rfl;have Pl:(dk j.ai).length<Gc:=by
       have:=I7 N.n _ J.ok.nd J.ok.ai;have:=t.au.small.1;unfold dk;rw[FM];exact Bm (by lia)
      refine B rfl (B rfl (IN d _ O (f7.k (k:=im ((N.stop run (call+1+q):Nat):Int)) ((UF Pa).trans J.tU) Pl) ?_));rw[F2];have OY:Ch A.own H (Uf C A.a3 (.lst ((j.ab.map W1.int).set (N.stop run (call+1+q)) (W1.int (N.comes run (call+1+q)))))):=J.but.put (by simp[SA.own]);have O2:=λo'=>ue (o:=o') hd OY;have e:cP N run j (call+1+q)= {j with ab:=j.ab.set (N.stop run (call+1+q)) (N.comes run (call+1+q)),ai:=if N.stop run (call+1+q)∈j.ai then j.ai else j.ai++[N.stop run (call+1+q)]}:=by
       unfold cP;rw[No c3]
      refine io _ _ O ?_;rw[O7];have O8:=J.ok.step (run:=run) (cu:=call+1+q) OO;rw[e]at O8⊢;exact⟨OX.oU D (p.au.same (O2 _)) ((UF O5).trans J.es) (aj (λ_ _ z=>z.same (O2 _)) OH),(UF OL).trans ((UF O5).trans J.es),KE,λb u z Pj=>by rw[UF (v0 z hd)];exact OY b u z Pj,O8⟩
     ·rw[sn c3];refine v6 ?_;refine io _ _ O ?_;rw[O7];have e:cP N run j (call+1+q)=j:=by unfold cP;rw[Ps c3]
      rw[e];exact J
    ·rintro ZB C ⟨PD,PB,rfl,J⟩;refine fc _ _ _ _ _ _ _ _ ⟨O,?_⟩;rw[O6];have e:er N o (g,run,call)=(kA (call+1) (m-call)).foldl (cP N run) {o with aa:=o.aa.set run call}:=by
      unfold er;rw[No O_,Y]
     rw[e,<-en];exact J
  ·rw[sn (show ¬((call:Nat):Int)<((m:Nat):Int) by lia)];refine v6 ?_;refine fc _ _ _ _ _ _ _ _ ⟨O,?_⟩;rw[O6];have e:er N o (g,run,call)=o:=by unfold er;rw[Ps (by rw[Y];exact c)]
   rw[e];exact XV
 ·rintro ZB H2 ⟨OR,OS,OT,OU,OV,OW,U,L,rfl,XV⟩;rw[Pk,dy]at XV;exact B rfl (k H2 d hd XV.tU XV.at_ XV.but))
end Dv
namespace L2
open PySem
theorem zh{g:TG}{tb:TS}{D:Ends}(Pv:Nat->St->Hp->Prop) (h0:Pv 0 ZB H) (l:∀i ZB H,i<=T0.length->Pv i ZB H->H d=some (.aw o (.dK T0)))
  (n:∀i k v ZB H,T0[i]?=some (k,v)->Pv i ZB H->g (kV k) ZB H λb H2=>tb {D with nx:=Pv (i+1),ct:=Pv (i+1),bk:=D.nx} b H2) (hd:∀ZB H,Pv T0.length ZB H->D.nx ZB H):
  ∃W:Nat->Nat->St->Hp->Prop,(∃m,W 0 m ZB H)/\∀i m ZB H,W i m ZB H->
   ((mh d o T0).stop i H/\D.nx ZB H)\/((mh d o T0).go i H/\∃N:St->Hp->Prop,(∀a I,N a I->∃f,f<m/\W (i+1) f a I)/\∀x I,(mh d o T0).eQ i H x I->g x ZB I λb H2=>tb {D with nx:=N,ct:=N,bk:=D.nx} b H2):=by(
refine Ix (λi m ZB H=>m=T0.length-i/\i<=T0.length/\Pv i ZB H) (zn T0.length (by simp) (f4 _) h0) ?_;rintro i m ZB H ⟨rfl,hi,p⟩;have q:=l i ZB H hi p;by_cases c:i<T0.length
·refine .inr ⟨⟨q,c⟩,Ix (Pv (i+1)) (λa I r=>⟨T0.length-(i+1),by lia,O,c,r⟩) (λx I y=>?_)⟩;obtain⟨e,k,v,h,j⟩:=y;subst e j;exact n i k v ZB _ h p
·have e:i=T0.length:=by lia
 subst e;exact .inl ⟨⟨q,tz _⟩,hd ZB H p⟩)
end L2
namespace Dv
open PySem L2 Tw
variable {P:fr}{w:g2}{K:wf}{mg:Str->Option Tk}{base:s2}{CP CN CS CL CG:WF}
section
variable {N:Nt}{S:SS}
theorem yi(h:pp N S) (a:stop<N.n) (Is ready:Int):(Tw.av N S stop Is ready).ae.length+(Tw.av N S stop Is ready).ah.sum=S.ae.length+S.ah.sum:=by(
have h':=h.az stop Is;have e:(az S stop Is).ae=S.ae/\(az S stop Is).ah=S.ah:=by unfold az;split<;>exact⟨O,O⟩
unfold Tw.av e1;split
·have h1:=tH (d:=N.af.getD stop []) (ready:=ready) ((az S stop Is).ah.getD stop 0) (az S stop Is).ae;have h2:=sum_set (az S stop Is).ah stop (aR (N.af.getD stop []) ready ((az S stop Is).ah.getD stop 0) (az S stop Is).ae).1 (by rw[h'.ah];exact a);show(aR (N.af.getD stop []) ready ((az S stop Is).ah.getD stop 0) (az S stop Is).ae).2.length+((az S stop Is).ah.set stop (aR (N.af.getD stop []) ready ((az S stop Is).ah.getD stop 0) (az S stop Is).ae).1).sum=_;rw[<- e.1,<-e.2];lia
·rw[e.1,e.2])
theorem B3:∀(W:List (Nat×Int)) {S:SS},pp N S->(∀g m,(g,m)∈W->g<N.n)->(W.foldl (λS w=>Tw.av N S w.1 (Is+w.2) (Is+w.2)) S).ae.length+(W.foldl (λS w=>Tw.av N S w.1 (Is+w.2) (Is+w.2)) S).ah.sum=S.ae.length+S.ah.sum
 |[],S,h,_=>rfl
 |(g,m)::W,S,h,hw=>by
  rw[dS];have hg:=hw g m (kw ..);rw[B3 W (h.av hg _ _) λg' a q=>hw g' a (o0 _ q)];exact yi h hg _ _
theorem pp.ba(h:pp N S) (a:stop<N.n):pp N (Tw.ba N S stop):=(h.av a _ _).bI a _
theorem J9(h:pp N S) (a:stop<N.n):(Tw.ba N S stop).ae.length+(Tw.ba N S stop).ah.sum=S.ae.length+S.ah.sum:=
 (B3 _ (h.av a _ _) λg m q=>h.au.kS stop g m a q).trans (yi h a _ _)
theorem uI:∀(U:List Nat) {S:SS},pp N S->(∀u,u∈U->u<N.n)->pp N (U.foldl (Tw.ba N) S)/\(U.foldl (Tw.ba N) S).ae.length+(U.foldl (Tw.ba N) S).ah.sum=S.ae.length+S.ah.sum
 |[],S,h,_=>⟨h,O⟩
 |u::U,S,h,hu=>by
  rw[dS];have hg:=hu u (kw ..);obtain⟨h1,h2⟩:=uI U (h.ba hg) λv q=>hu v (o0 _ q);exact⟨h1,h2.trans (J9 h hg)⟩
noncomputable def jU (N:Nt) (S:SS):SS:= {S with taken:=S.taken+1,aa:=(bF N S).aa,ab:=(bF N S).ab,ae:=[]}
theorem An (h:pp N S):pp N (jU N S):=by
 have o:=ub h;exact {au:=h.au,iI:=λe q=>by simp[jU]at q,dD:=o.dD,arr:=h.arr,rides:=h.rides,ab:=o.ab,ready:=h.ready,ah:=h.ah,aa:=o.aa,bH:=h.bH,dC:=by have:=h.dC;show 0+S.ah.sum<=_;lia}
theorem vQ (h:pp N S):pp N (cA N S)/\(cA N S).ae.length+(cA N S).ah.sum=S.ah.sum:=by
 obtain⟨h1,h2⟩:=uI (bF N S).ai (An h) (ub h).ai;exact⟨h1,h2.trans (by show 0+S.ah.sum=_;lia)⟩
end
section
variable {CS CN:WF}{H:Hp}{A:SA}{N:Nt}{S:SS}
theorem ul.IW(h:ul CS CN H A N S) (f:H p=none):ul CS CN (Uf (Uf H p (.lst [])) A.x (.ins CS A.dx (sf A.n A.a1 A.a2 A.a3 A.a4 A.a5 A.a6 p S.taken))) {A with a7:=p} N {S with ae:=[]}:=by(
have n:=gT h.nd;have d:∀i (hi:i<8),A.own[i]'hi≠p:=λi hi e=>m9 h (eX (l:=A.own) (n:=i) hi) (by rw[e];exact f);have s:Tl (hide A.own H) (hide ({A with a7:=p}:SA).own (Uf (Uf H p (.lst [])) A.x (.ins CS A.dx (sf A.n A.a1 A.a2 A.a3 A.a4 A.a5 A.a6 p S.taken)))):=λb o e=>by
 obtain⟨c,j⟩:=wl.mp e;have g:b≠p:=v0 j f;have q:b≠A.x:=λz=>c (by rw[z];simp[SA.own]);refine wl.mpr ⟨λz=>?_,by rw[UF q,UF g];exact j⟩;simp only[SA.own,rs,ip,g9]at z c;rcases z with z|z|z|z|z|z|z|z
 ·exact c (.inl z)
 ·exact c (.inr (.inl z))
 ·exact c (.inr (.inr (.inl z)))
 ·exact c (.inr (.inr (.inr (.inl z))))
 ·exact c (.inr (.inr (.inr (.inr (.inl z)))))
 ·exact c (.inr (.inr (.inr (.inr (.inr (.inl z))))))
 ·exact c (.inr (.inr (.inr (.inr (.inr (.inr (.inl z)))))))
 ·exact g z
refine {ob:=KE,arr:=(UF (n 1 0 rfl)).trans ((UF (d 1 (by decide))).trans h.arr),rides:=(UF (n 2 0 rfl)).trans ((UF (d 2 (by decide))).trans h.rides),ab:=(UF (n 3 0 rfl)).trans ((UF (d 3 (by decide))).trans h.ab),ready:=(UF (n 4 0 rfl)).trans ((UF (d 4 (by decide))).trans h.ready),ah:=(UF (n 5 0 rfl)).trans ((UF (d 5 (by decide))).trans h.ah),aa:=(UF (n 6 0 rfl)).trans ((UF (d 6 (by decide))).trans h.aa),ae:=Ix ([]) ?_ (.nil),nd:=?_,au:=h.au.same s}
·exact(UF (b:=p) (a:=A.x) (Ne.symm (d 0 (by decide)))).trans KE
·have nd:=h.nd;show([A.x,A.a1,A.a2,A.a3,A.a4,A.a5,A.a6,p]:List WF).Nodup;have e:([A.x,A.a1,A.a2,A.a3,A.a4,A.a5,A.a6,A.a7]:List WF)=[A.x,A.a1,A.a2,A.a3,A.a4,A.a5,A.a6]++[A.a7]:=rfl;have m:([A.x,A.a1,A.a2,A.a3,A.a4,A.a5,A.a6]++[A.a7]:List WF).Nodup:=nd;rw[il]at m;show([A.x,A.a1,A.a2,A.a3,A.a4,A.a5,A.a6]++[p]:List WF).Nodup;rw[il];refine⟨m.1,by simp,λa r b k=>?_⟩;simp only[sc]at k;rw[k];intro z;have:a∈A.own:=by
  show a∈([A.x,A.a1,A.a2,A.a3,A.a4,A.a5,A.a6]++[A.a7]:List WF);exact gx _ r
 exact m9 h this (by rw[z];exact f))
theorem BP(hd:H d=some u) (c:∀ys,u≠.tup ys) (h:TupAt (hide l H) v xs):TupAt (hide l (Uf H d o)) v xs:=by(
obtain⟨a,e,q⟩:=h;obtain⟨f,b⟩:=wl.mp q;have ne:a≠d:=λz=>by rw[z,hd]at b;exact c _ (b2 b)
exact Ix a e (wl.mpr ⟨f,(UF ne).trans b⟩))
theorem pY(a:b∈({A with a7:=p}:SA).own):b∈A.own\/b=p:=by(
simp only[SA.own,rs,ip,g9]at a⊢;rcases a with z|z|z|z|z|z|z|z
·exact .inl (.inl z)
·exact .inl (.inr (.inl z))
·exact .inl (.inr (.inr (.inl z)))
·exact .inl (.inr (.inr (.inr (.inl z))))
·exact .inl (.inr (.inr (.inr (.inr (.inl z)))))
·exact .inl (.inr (.inr (.inr (.inr (.inr (.inl z))))))
·exact .inl (.inr (.inr (.inr (.inr (.inr (.inr (.inl z)))))))
·exact .inr z)
end
theorem Ft{A:SA}(f:Ch A.own H d) (g:H p=none):Tl (hide A.own H) (hide ({A with a7:=p}:SA).own d):=λb u e=>by
 obtain⟨c,a⟩:=wl.mp e;refine wl.mpr ⟨λz=>?_,f b u a c⟩;rcases pY z with q|q
 ·exact c q
 ·rw[q,g]at a;cases a
def nE (CS CN:WF):Sp:=λvs H Q _=>∃(A:SA) (N:Nt) (S:SS),vs=[.ref A.x]/\ul CS CN H A N S/\pp N S/\
 ∀(I:Hp) (p:WF),H p=none->ul CS CN I {A with a7:=p} N (cA N S)->Ch A.own H I->Q .ak I
theorem q6:pu ["self","reached","stop","minute"] zaa (s1 qV):=nb rfl rfl rfl (by decide +kernel)
theorem J2(F:sB K "take_ride" "Search.take_ride" qV f fd) (T:bg K mg CS CN)
  (Pd:AC P w K mg base xL 2 Pr Pw zaf (nC CS CN)) (Pj:Binds K Pw zaf []) (mA:cf K CS "arrive" Pr)
  (Pf:AC P w K mg base xL 3 Pu Py zad (rh CS CN)) (Pl:Binds K Py zad []) (PJ:cf K CS "walk_on" Pu)
  (Pe:AC P w K mg base xL 1 Pt Px zaa (vv CS CN)) (Pk:Binds K Px zaa []) (PH:cf K CS "get_off" Pt):AC P w K mg base xL 4 f fd zaa (nE CS CN):=by(
refine F.ar q6 (λvs H Q E h=>?_) (λPY PR outer s H vs Q E OR h=>?_)
·refine pQ h λA N S PN _=>?_;subst PN;rfl
·intro PX;refine k9 h λA N S PQ y OP k=>?_;subst PQ;refine B (On (K0 (V 0) EQ Hh)
  (On (zS 1 q6 (lg (V 0) T.aq PH Pe (OR.mono) Pk .nil ws))
  (On (bq (V 0) (db PP) rfl)
  (Fa (uV (cH bN rfl (AA (V 1)) (zG 2 q6)
   (On (zS 3 q6 (xz wE (wS (V 0) rfl) (V 2)))
   (On (ca (aA (V 0) T.aq mA Pd (OR.mono) Pj .nil ws (UV (V 2) (UV (V 3) (UV (kt bG (V 3) (xz wE (wS (wS (V 0) rfl) rfl) (V 2))) PP)))))
   (Fa (ca (aA (V 0) T.aq PJ Pf OR Pl .nil ws (UV (V 2) (UV (V 3) PP))))))))))))) ?_
 refine B rfl (wv A.x CS A.dx _ _ O y.ob T.aq T.nt O (IN _ _ O O (IN _ _ y.ob (by show 9<1000;decide) ?_)));have O3:=y.Ml (S.taken+1);have Pn:rc ("taken":Str) (W1.int ((S.taken:Int)+1)) (sf A.n A.a1 A.a2 A.a3 A.a4 A.a5 A.a6 A.a7 S.taken)=sf A.n A.a1 A.a2 A.a3 A.a4 A.a5 A.a6 A.a7 (S.taken+1):=rfl;rw[Pn];have Pz:pp N {S with taken:=S.taken+1}:= {OP with};have Pq:bF N {S with taken:=S.taken+1}=bF N S:=rfl;refine B rfl (nw A.x A.dx _ O O3.ob O (nw A N _ O O3 Pz (λH2 d OH OQ C O0=>?_)));rw[Pq]at OQ C;have hd:H d=none:=by
  have dx:d≠A.x:=λz=>by rw[z,KE]at OH;cases OH
  rw[UF dx]at OH;exact OH
 have OZ:d∉A.own:=λq=>m9 y q hd;refine⟨f4 _,λp m=>?_⟩;have pd:p≠d:=λz=>by rw[z,OQ]at m;cases m
 have Pc:A.x≠p:=λz=>by rw[<- z,C.ob]at m;cases m
 refine B rfl (bi A.x CS A.dx _ O ((UF Pc).trans C.ob) T.aq T.lx (by show 9<1000;decide) ?_);have D:=C.IW m;have Po:rc ("boardings":Str) (W1.ref p) (sf A.n A.a1 A.a2 A.a3 A.a4 A.a5 A.a6 A.a7 (S.taken+1))=sf A.n A.a1 A.a2 A.a3 A.a4 A.a5 A.a6 p (S.taken+1):=rfl;rw[show rc _ (W1.ref p) (sf A.n A.a1 A.a2 A.a3 A.a4 A.a5 A.a6 A.a7 (S.taken+1))=sf A.n A.a1 A.a2 A.a3 A.a4 A.a5 A.a6 p (S.taken+1) from Po];generalize t:({A with a7:=p}:SA)=g at D;generalize OO:Uf (Uf H2 p (.lst [])) A.x (.ins CS A.dx (sf A.n A.a1 A.a2 A.a3 A.a4 A.a5 A.a6 p (S.taken+1)))=ON;have D:ul CS CN ON g N (jU N S):=by rw[<- OO];exact D
 have OM:g.x=A.x:=by rw[<- t]
 have n1:g.n=A.n:=by rw[<- t]
 have OJ:H p=none:=by
  cases q:H p with
  |none=>rfl
  |some o=>
   have PK:p∉A.own:=λz=>m9 C z m;have PL:p≠A.x:=Ne.symm Pc;have:=O0 p o (by rw[UF PL];exact q) PK;rw[m]at this;cases this
 have dx:d≠A.x:=λz=>OZ (by rw[z];simp[SA.own]);have U:d∉g.own:=λz=>by
  rw[<- t]at z;rcases pY z with q|q
  ·exact OZ q
  ·exact pd q.symm
 have OX:Ch A.own H ON:=λb u e l=>by
  have OY:b≠A.x:=λz=>l (by rw[z];simp[SA.own]);rw[<- OO,UF OY,UF (v0 e OJ)];exact O0 b u (by rw[UF OY];exact e) l
 have O5:ON d=some (.dK (dk (bF N S).ai)):=by rw[<- OO,UF dx,UF (Ne.symm pd)];exact OQ
 have Pb:∀b,b∈g.own->b∈A.own\/H b=none:=λb l=>by
  rw[<- t]at l;rcases pY l with q|q
  ·exact .inl q
  ·exact .inr (by rw[q];exact OJ)
 have O7:∀a,Ch A.own H a->f2 CN (hide g.own a) g.n N:=λa l=>by
  rw[n1,<-t];exact y.au.same (Ft l OJ)
 have OL:∀ {a:Hp}{o:HO},Ch A.own H a->Ch A.own H (Uf a d o):=λ{a o} l b u e PD=>by rw[UF (v0 e hd)];exact l b u e PD
 refine IN d _ O5 True.intro (λO_=>?_);refine B rfl (io d O_ O (.inl (B KE ?_)));have Pa:=ub OP;have e8:(dk (bF N S).ai).length=(bF N S).ai.length:=by unfold dk;rw[FM]
 let Pg:Nat->St->Hp->Prop:=λi ZB a=>∃OU OV,ZB=[some (.ref A.x),some (.ref d),OU,OV]/\ul CS CN a g N (((bF N S).ai.take i).foldl (ba N) (jU N S))/\a d=some (.aw O_ (.dK (dk (bF N S).ai)))/\Ch A.own H a
 refine zh Pg
  (he none none O ?_ KE (OL OX)) (λi ZB a _ PM=>by obtain⟨_,_,_,_,q,_⟩:=PM;exact q) ?_ ?_
 ·obtain⟨es,OS,OT⟩:=D.ae;exact D.oU U (O7 _ (OL OX)) OS (aj (λ_ _ z=>BP O5 (λys OW=>by cases OW) z) OT)
 ·rintro i PF v ZB a hi ⟨OU,OV,rfl,j,OI,L⟩;obtain⟨st,O6,Pp⟩:∃st,(bF N S).ai[i]?=some st/\PF=im ((st:Nat):Int):=by
   unfold dk at hi;rw[pr]at hi;cases q:(bF N S).ai[i]? with
   |none=>rw[q]at hi;cases hi
   |some st=>rw[q]at hi;cases hi;exact Ix st O O
  subst Pp;have J:st<N.n:=Pa.ai st (pi O6);obtain⟨Y,_⟩:=uI ((bF N S).ai.take i) (An OP) λu q=>Pa.ai u (ox q);have O8:((bF N S).ai.take (i+1)).foldl (ba N) (jU N S)=ba N (((bF N S).ai.take i).foldl (ba N) (jU N S)) st:=by
   rw[cB,O6,cK,oD];rfl
  generalize ((bF N S).ai.take i).foldl (ba N) (jU N S)=Ph at j Y O8;have OK:=j.ob;rw[OM]at OK;refine et j.au.ex λPm c r og PZ P0 Qa P_ ds fs h1 h2 P2 P4 P5 P6 P7 P8 P9 P1=>?_;have sub:=b7 g.own a;refine B rfl (wv A.x CS _ _ _ O OK T.aq T.qP O (B rfl (Db g.a3 _ _ _ O O (TD.of j.ab) (jz (by rw[Y.ab];exact J)) ?_)));refine B rfl (nw A.x _ _ O OK O (B rfl (B rfl (B rfl (B rfl (wv A.x CS _ _ _ O OK T.aq T.ly O (wv g.n CN Pm _ _ O (sub _ _ h1) T.aS T.pF O (B rfl (Db c _ _ _ O O (TD.of (sub _ _ h2)) (jz J) (IN _ _ O O (i1 g N Ph st _ _ ⟨by rw[OM];rfl,j,Y,J,λPU O4 O1=>?_⟩)))))))))));have O9:=O4.ob;rw[OM]at O9;refine B rfl (nw A.x _ _ O O9 O (B rfl (B rfl (bZ g N _ st _ ⟨by rw[OM];rfl,O4,Y.av J _ _,J,λPV PB O2=>?_⟩))));exact he _ _ O (by rw[O8];exact PB) (O2 d _ (O1 d _ OI U) U) ((L.tr O1 Pb).tr O2 Pb)
 ·rintro ZB a ⟨OU,OV,rfl,j,OI,L⟩;refine⟨OI,?_⟩;rw[e8,dy]at j;refine k _ p OJ ?_ (OL L);rw[t];obtain⟨es,OS,OT⟩:=j.ae;exact j.oU U (O7 _ (OL L)) OS (aj (λ_ _ z=>BP OI (λys OW=>by cases OW) z) OT))
noncomputable def aN (N:Nt) (S:SS):Nat->SS
 |0=>S
 |k+1=>cA N (aN N S k)
noncomputable def pj (S:SS):Nat:=S.ah.sum+(if S.ae=[]then 0 else 1)
theorem fJ(h:pp N S):∀k,pp N (aN N S k)
 |0=>h
 |k+1=>(vQ (fJ h k)).1
def rg (CS CN:WF):Sp:=λvs H Q _=>∃(A:SA) (N:Nt) (S:SS),vs=[.ref A.x]/\ul CS CN H A N S/\pp N S/\
 ∀(I:Hp) (Wp:SA) (k:Nat),Wp.x=A.x->Wp.n=A.n->(∀b,b∈Wp.own->b∈A.own\/H b=none)->ul CS CN I Wp N (aN N S k)->(aN N S k).ae=[]->Ch A.own H I->Q .ak I
theorem Mc:pu zaa zaa (s1 qX):=nb rfl rfl rfl (by decide +kernel)
theorem J4(F:sB K "ride_to_the_end" "Search.ride_to_the_end" qX f fd) (T:bg K mg CS CN)
  (GT:AC P w K mg base xL 4 J L zaa (nE CS CN)) (u:Binds K L zaa []) (OM:cf K CS "take_ride" J):AC P w K mg base xL 5 f fd zaa (rg CS CN):=by(
refine F.ar Mc (λvs H Q E h=>?_) (λOT OQ outer s H vs Q E OK h=>?_)
·refine pQ h λA N S ON _=>?_;subst ON;rfl
·intro OS;refine k9 h λA N S OO OH Y k=>?_;subst OO;refine B (Fa (ll bN (ga m6 (a0 b6 (by rfl) T.len b0 (UV (wS (V 0) rfl) PP)) EQ (li _))
  (Fa (ca (lg (V 0) T.aq OM GT OK u .nil ws))))) ?_
 let t:Nat->St->Hp->Prop:=λm ZB H2=>∃(Wp:SA) (j:Nat),ZB=[some (.ref A.x)]/\(Wp.x=A.x/\Wp.n=A.n)/\ul CS CN H2 Wp N (aN N S j)/\Ch A.own H H2/\(∀b,b∈Wp.own->b∈A.own\/H b=none)/\m=pj (aN N S j)
 refine⟨t,(b_ _ A 0 ⟨O,⟨O,O⟩,OH,Ch.rfl' _ _,λb g=>.inl g,O⟩),?_⟩;rintro m ZB H2 ⟨Wp,j,rfl,⟨d,r⟩,a,e,own,rfl⟩;have i:=fJ Y j;obtain⟨es,C,D⟩:=a.ae;have l:es.length=(aN N S j).ae.length:=Paired.length D;have ob:=a.ob;rw[d]at ob;refine B rfl (wv A.x CS _ _ _ O ob T.aq T.lx O (IN Wp.a7 es O (.inl (TD.of C)) (IN _ _ O O (B rfl ?_))));by_cases c:0<es.length
 ·rw[sK (show(0:Int)<(es.length:Int) by lia)];have y:(aN N S j).ae≠[]:=λz=>by rw[z]at l;rw[l]at c;exact absurd c (hh _)
  refine wn ⟨λOP I=>∃OL,OL<pj (aN N S j)/\_,λOP I q=>q,?_⟩;refine B rfl (nw A.x _ _ O ob O (nw Wp N _ (by rw[d];rfl) a i (λOR p OJ OI U=>?_)));obtain⟨OU,hf⟩:=vQ i;refine Ix (pj (cA N (aN N S j))) ?_ ⟨{Wp with a7:=p},j+1,O,⟨d,r⟩,OI,e.tr U own,λb g=>?_,O⟩
  ·unfold pj;rw[Ps y];split
   ·lia
   ·rename_i z;have:0<(cA N (aN N S j)).ae.length:=List.length_pos_iff.mpr z;lia
  ·rcases pY g with z|z
   ·exact own b z
   ·subst z;cases q:H b with
    |none=>exact .inr rfl
    |some o=>
     by_cases hm:b∈A.own
     ·exact .inl hm
     ·have:=e b o q hm;rw[OJ]at this;cases this
 ·rw[sn (show ¬(0:Int)<(es.length:Int) by lia)];refine v6 ?_;refine k H2 Wp j d r own a ?_ e;exact Cg.mp (by lia))
end Dv
namespace L2
open PySem
theorem pe{g:TG}{te:TE}{k:Hp->Prop}(f:W1->W1) (l:H1 D=none) (o:TD K H1 a xs) (hz:xs.length<=Gc)
  (step:∀x,x∈xs->∀(H:Hp) (Q:VK),Tl H1 H->Q (f x) H->g x (nm ZB vs) H λc H2=>nm c vs=nm ZB vs/\te c H2 Q) (post:k (Uf H1 D (.lst (xs.map f)))):
  ∃W:Nat->Nat->Hp->Prop,(∃m,W 0 m (Uf H1 D (.lst [])))/\∀i m H,W i m H->
   ((cO K a).stop i H/\k H)\/((cO K a).go i H/\∃d:Hp->Prop,(∀I,d I->∃n,n<m/\W (i+1) n I)/\∀x I,(cO K a).eQ i H x I->g x (nm ZB vs) I λc H2=>nm c vs=nm ZB vs/\iX c H2 λb h=>
    if b=true then te c h λy j=>∃acc,j D=some (.lst acc)/\acc.length<Gc/\d (Uf j D (.lst (acc++[y])))else d h):=by(
refine mP (xs:=xs) (λi H=>H=Uf H1 D (.lst ((xs.take i).map f))) (by simp) (λi H _ (e:H=_)=>by rw[e];exact o.same (Tl.new l)) ?_ (λH (e:H=_)=>by rw[e,dy];exact post);rintro i x H hi rfl;have p:i<xs.length:=(aD.mp hi).1;refine step x (pi hi) _ _ (Tl.new l) (zn _ KE (by rw[FM,aP];lia) ?_);rw[gZ]
congr 2
rw[cB,hi,cK,bL,List.map_singleton])
end L2
namespace Dv
open PySem L2 Tw
variable {P:fr}{w:g2}{K:wf}{mg:Str->Option Tk}{base:s2}{CP CN CS CL CG:WF}
def uW (K:wf):List W1->Hp->VK->Prop:=λxs H Q=>∃p ys,xs=[.ref p]/\(TD K H p ys\/pm K H p ys)/\Q (.int ys.length) H
theorem yH:hs X (.builtin "len") (uW X.K):=b6
def a_ (mg:Str->Option Tk) (x:Str) (i:Int):Prop:=∃t,mg x=some (.int i t)
theorem nl {X:Cx}{x:Str}{i:Int}{pos:Pos}(h:a_ X.mg x i) (hg:Gl X x) (hd:(x==("__debug__":Str))=false:=by decide):PE X (.Name x pos) (tC (.int i)):=by
 obtain⟨t,e⟩:=h;exact KG hg e ⟨t,O⟩ hd
theorem o8(h0:ZB[0]?=some (some (.ref x))) (g:ZB[j]?=some (some (Rs n))) (b:H x=some (.ins C dx fs)) (h:n<=1000) (cl:cE K C) (l:ao K C fl) (hf:fs.length<1000)
  (k:∀(I:Hp) (q:WF),Ch [x] H I->H q=none->I q=some (.lst (f8 n c))->I x=some (.ins C dx (rc fl (.ref q) fs))->D.nx ZB I):
  A_ K (bY 0) (hZ AJ (vL (rp (tC c) j7)) (bY j)) fl D ZB H:=by(
refine⟨by show 1<=Gc;decide,λp d=>B g (b_ p _ ([c]) ⟨O,O,KE,by lia,by lia,?_,λq a=>?_⟩)⟩
·have:(n:Int).toNat=n:=by lia
 rw[this];show 1*n<=Gc;have:=Bm h;lia
·have s:x≠p:=v0 b d;have r:q≠p:=λz=>by rw[z,KE]at a;cases a
 have e:H q=none:=by rw[UF r]at a;exact a
 have f:x≠q:=v0 b e;refine B h0 (bi x C dx fs O ((UF f).trans ((UF s).trans b)) cl l hf ?_);refine k _ q ((((Ch.rfl' _ _).new d).new (o:=.lst _) a).put (by simp)) e ?_ KE;rw[UF (Ne.symm f),KE];have:(n:Int).toNat=n:=by lia
 rw[this]
 congr 2
 have:∀m:Nat,(f8 m [c]).flatten=f8 m c:=λm=>by
  induction m with
  |zero=>rfl
  |succ m i=>rw[jh,kv,i,jh];rfl
 exact this n)
theorem gJ{D:Ends}(h0:ZB[0]?=some (some (.ref x))) (c:H x=some (.ins C dx fs)) (b:H q=none) (cl:cE K C) (e:ao K C fl) (hf:fs.length<1000)
  (k:∀(I:Hp),Ch [x] H I->I q=some (.lst l)->I x=some (.ins C dx (rc fl (.ref q) fs))->D.nx ZB I):
  bY 0 ZB (Uf H q (.lst l)) λf H2=>∃a C dx fs,f=.ref a/\H2 a=some (.ins C dx fs)/\cE K C/\ao K C fl/\fs.length<1000/\D.nx ZB (Uf H2 a (.ins C dx (rc fl (.ref q) fs))):=by
 have d:x≠q:=v0 c b;refine B h0 (bi x C dx fs O ((UF d).trans c) cl e hf (k _ (((Ch.rfl' _ _).new b).put (by simp)) ?_ KE));rw[UF (Ne.symm d),KE]
def iW (CS CN:WF):Sp:=λvs H Q _=>∃(x dx n:WF) (N:Nt),vs=[.ref x,.ref n]/\H x=some (.ins CS dx [])/\f2 CN (hide [x] H) n N/\dd N/\
 ∀(I:Hp) (A:SA),A.x=x->A.n=n->ul CS CN I A N (f1 N)->Ch [x] H I->(∀b,b∈A.own->b=x\/H b=none)->Q .ak I
theorem j4:pu ["self","network","stop_count","departures","stops","comes"] zae (s1 qS):=nb rfl rfl rfl (by decide +kernel)
theorem fw(h:dd N):pp N (f1 N):=by(
refine {au:=h,iI:=λe q=>by simp[f1]at q,dD:=λr a=>?_,arr:=by simp[f1],rides:=by simp[f1],ab:=by simp[f1],ready:=by simp[f1],ah:=by simp[f1,h.af],aa:=by simp[f1],bH:=λs b=>?_,dC:=?_}
·have e:(f1 N).aa.getD r 0=N.len r-1:=by
  show(N.runs.map λr=>r.1.length-1).getD r 0=_;simp only[np,pr,Nt.len];rw[g1 a];rfl
 rw[e];have:=h.pos r a;lia
·show(N.af.map cC).getD s 0<=_;simp only[np,pr];rw[g1 (by rw[h.af];exact b)];exact tz _
·have:=h.small.2.1;show 0+(N.af.map cC).sum<=_;lia)
theorem m_{ys:List b}(p:Paired R xs ys) (h:x∈xs):∃y,y∈ys/\R x y:=by(
induction p with
|nil=>cases h
|cons r t a=>
 cases h with
 |head=>exact B (kw ..) r
 |tail _ h=>obtain⟨y,h1,h2⟩:=a h;exact Ix y (o0 _ h1) h2)
theorem Ky{a:Type}{f:c->a}{g:d->a}(h:∀x y,R x y->f x=g y) (p:Paired R xs ys):xs.map f=ys.map g:=by(
induction p with
|nil=>rfl
|cons r t b=>rw[m0,m0,h _ _ r,b])
structure eh (x:WF) (H I:Hp) (l:List WF):Prop where
 but:Ch [x] H I
 nd:l.Nodup
 there:∀b,b∈l->I b≠none
 fresh:∀b,b∈l->b=x\/H b=none
theorem eh.start(h:H x≠none):eh x H H [x]:=⟨Ch.rfl' _ _,by simp,λb a=>by simp at a;rw[a];exact h,λb a=>.inl (by simpa using a)⟩
theorem eh.put(h:eh x H H1 l) (o:HO):eh x H (Uf H1 x o) l:=⟨h.but.put (by simp),h.nd,λb a=>by
 by_cases e:b=x
 ·rw[e,KE];simp
 ·rw[UF e];exact h.there b a,h.fresh⟩
theorem eh.free(h:eh x H H1 l) (b:H1 x≠none) (a:H1 q=none):H q=none:=by(
cases e:H q with
|none=>rfl
|some o=>
 have ne:q≠x:=λz=>b (by rw[<- z];exact a);rw[h.but q o e (by simpa using ne)]at a;cases a)
theorem eh.step(h:eh x H H1 l) (d:Ch [x] H1 H2) (j:H1 x≠none) (k:H2 x≠none) (f:H1 q=none) (i:H2 q≠none):eh x H H2 (l++[q]):=by(
refine⟨h.but.tr d λb c=>.inl c,?_,λb c=>?_,λb c=>?_⟩
·rw[il];refine⟨h.nd,by simp,λa g b c=>?_⟩;simp only[sc]at c;rw[c];intro z;exact h.there a g (by rw[z];exact f)
·rcases cs.mp c with c|c
 ·by_cases e:b=x
  ·rw[e];exact k
  ·cases z:H1 b with
   |none=>exact absurd z (h.there b c)
   |some o=>rw[d b o z (by simpa using e)];simp
 ·simp only[sc]at c;rw[c];exact i
·rcases cs.mp c with c|c
 ·exact h.fresh b c
 ·simp only[sc]at c;rw[c];exact .inr (h.free j f))
theorem eh.hide {x:WF}{H I:Hp}{l:List WF}(h:eh x H I l):Tl (hide [x] H) (L2.hide l I):=λb o e=>by
 obtain⟨c,a⟩:=wl.mp e;refine wl.mpr ⟨λz=>?_,h.but b o a c⟩;rcases h.fresh b z with q|q
 ·exact c (by simp[q])
 ·rw[q]at a;cases a
theorem lc{H:Hp}(h:H a=some o):H a≠none:=by rw[h];simp
noncomputable def jM (H:Hp) (v:W1):W1:=match v with
 |.ref a=>match H a with
  |some (.lst es)=>Rs es.length
  |_=>.ak
 |_=>.ak
noncomputable def lu (H:Hp) (v:W1):W1:=match v with
 |.ref a=>match H a with
  |some (.tup (.ref s::_))=>match H s with
   |some (.lst es)=>.int ((es.length:Int)-1)
   |_=>.ak
  |_=>.ak
 |_=>.ak
theorem JZ(F:sB K "__init__" "Search.__init__" qS f fd) (T:bg K mg CS CN) (OU:a_ mg "NEVER" 1000000):AC P w K mg base xL 1 f fd zae (iW CS CN):=by(
refine F.ar j4 (λvs H Q E h=>?_) (λQe P_ outer s H vs Q E Qm h=>?_)
·refine jX h λx dx n N P7 _=>?_;subst P7;rfl
·intro Qd;refine gQ h λx dx n N P8 Pj Pf OJ k=>?_;subst P8;refine et Pf.ex λOV c r og d Qg O5 Qn ds fs h1 h2 Pd O2 Pe O3 Qi Qj Qk Qh=>?_;have sub:=b7 [x] H;refine B (On (zS 2 j4 (a0 b6 (by rfl) T.len b0 (UV (wS (V 1) rfl) PP)))
  (On (bq (V 0) (V 1) rfl)
  (On (bq (V 0) EQ rfl)
  (On (bq (V 0) (kt pN (db (UV (nl OU rfl) PP)) (V 2)) rfl)
  (On (bq (V 0) (kt pN (db (UV EQ PP)) (V 2)) rfl)
  (On (bq (V 0) (kt pN (db (UV (nl OU rfl) PP)) (V 2)) rfl)
  (On (bq (V 0) (kt pN (db (UV (nl OU rfl) PP)) (V 2)) rfl)
  (On (bq (V 0) (iT (own:=[("departures",3)]) rfl j4.nd (cy (wS (V 1) rfl)) (fx rfl) (λ_ _ _ _ _=>zG 3 j4) (λ_ _ _ _ _=>gn) (λ_ _ _ _ _=>a0 (r:=uW K) yH (by rfl) T.len b0 (UV (V 3) PP))) rfl)
  (On (bq (V 0) (iT (own:=[("stops",4),("comes",5)]) (g:=ua K 2 (kX (bh 4) (kX (bh 5) t9))) rfl j4.nd (cy (wS (V 1) rfl)) (fx rfl) (λ_ _ _ _ _=>cw rfl (re (zG 4 j4) (re (zG 5 j4) cx))) (λ_ _ _ _ _=>gn) (λ_ _ _ _ _=>kt gP (a0 (r:=uW K) yH (by rfl) T.len b0 (UV (V 4) PP)) EQ)) rfl)
  (Fa (bq (V 0) (db PP) rfl))))))))))) ?_
 refine B rfl (wv n CN OV _ _ O (sub _ _ h1) T.aS T.pF O (IN c _ O (.inl (TD.of (sub _ _ h2))) ?_));have en:((N.chg.map W1.int).length:Int)=((N.n:Nat):Int):=by rw[FM];rfl
 rw[en];have OK:N.n<=1000:=OJ.small.1;refine B rfl (B rfl (bi x CS dx ([]) O Pj T.aq T.ly (by decide) ?_));refine B rfl (bi x CS dx _ O KE T.aq T.nt (by show 1<1000;decide) ?_);have Pq:=((eh.start (lc Pj)).put (.ins CS dx (rc "network" (.ref n) []))).put (.ins CS dx (rc "taken" (.int 0) (rc "network" (.ref n) [])));have x0:(Uf (Uf H x (.ins CS dx (rc "network" (.ref n) []))) x (.ins CS dx (rc "taken" (.int 0) (rc "network" (.ref n) [])))) x=some _:=KE;refine o8 rfl rfl KE OK T.aq T.dJ (by show 2<1000;decide) λH1 PX PB n1 OW ON=>?_;have Pr:=Pq.step PB (lc x0) (lc ON) n1 (lc OW);refine o8 rfl rfl ON OK T.aq T.nr (by show 3<1000;decide) λH2 PY Pa n2 OX OO=>?_;have Pt:=Pr.step Pa (lc ON) (lc OO) n2 (lc OX);refine o8 rfl rfl OO OK T.aq T.qP (by show 4<1000;decide) λQa PZ OT n3 OY OP=>?_;have Pu:=Pt.step OT (lc OO) (lc OP) n3 (lc OY);refine o8 rfl rfl OP OK T.aq T.qO (by show 5<1000;decide) λOH P0 OI n4 OZ OQ=>?_;have O8:=Pu.step OI (lc OP) (lc OQ) n4 (lc OZ);have U:∀b o,hide [x] H b=some o->OH b=some o:=λb o e=>by obtain⟨O6,O7⟩:=wl.mp e;exact O8.but b o O7 O6
 refine B rfl (wv n CN OV _ _ O (U _ _ h1) T.aS T.hK O (zn d O ⟨ds,TD.of (U _ _ Pe)⟩ (λP1 n5=>?_)));have PN:ds.length=N.af.length:=Paired.length O3;have sz:∀ {m:Nat},m<=1000000->m<=Gc:=λh=>ed (small h);refine pe (jM OH) n5 (TD.of (U _ _ Pe)) (sz (by rw[PN,OJ.af];lia)) (λv hv u Qb P5 Pk=>?_) ?_
 ·obtain⟨y,_,es,⟨a,rfl,l⟩,_⟩:=m_ O3 hv;have Pg:=U _ _ l;refine⟨O,B rfl (IN a es O (.inl (TD.of (P5 _ _ Pg))) ?_)⟩;have:jM OH (.ref a)=Rs es.length:=by simp[jM,Pg]
  rw[this]at Pk;exact Pk
 have PH:ds.map (jM OH)=(N.af.map cC).map Rs:=by
  rw[ax];refine Ky (λv y P6=>?_) O3;obtain⟨es,⟨a,e,l⟩,PU⟩:=P6;subst e;simp only[jM,U _ _ l,xX];rw[Paired.length PU]
 rw[PH];refine gJ rfl OQ n5 T.aq T.vb (by show 6<1000;decide) λu J O0 OR=>?_;have O9:=O8.step J (lc OQ) (lc OR) n5 (lc O0);have j:∀b o,hide [x] H b=some o->u b=some o:=λb o e=>by obtain⟨O6,O7⟩:=wl.mp e;exact O9.but b o O7 O6
 refine B rfl (wv n CN OV _ _ O (j _ _ h1) T.aS T.iQ O (zn r O ⟨O5,TD.of (j _ _ Pd)⟩ (λP2 n6=>?_)));have PQ:O5.length=N.runs.length:=Paired.length O2;refine pe (lu u) n6 (TD.of (j _ _ Pd)) (sz (by rw[PQ];exact OJ.small.2.2.1)) (λv hv Px Qc Pn Pl=>?_) ?_
 ·obtain⟨y,_,sa,PD,⟨a,rfl,l⟩,OL,Ql⟩:=m_ O2 hv;refine he a _ O (pm.of (Pn _ _ (j _ _ l))) O (io _ _ O (he _ _ O O O (B rfl (IN sa _ O (.inl (TD.of (Pn _ _ (j _ _ OL)))) (IN _ _ O O ?_)))));have:lu u (.ref a)=.int (((y.1.map Rs).length:Int)-1):=by simp[lu,j _ _ l,j _ _ OL]
  rw[this]at Pl;exact Pl
 have PJ:O5.map (lu u)=(N.runs.map λr=>r.1.length-1).map Rs:=by
  rw[ax];have pos:∀y,y∈N.runs->0<y.1.length:=λy PL=>by
   obtain⟨i,hi,e⟩:=Tw.mem_getD PL ([],[]);have:=OJ.pos i hi;unfold Nt.len at this;rw[e]at this;exact this
  have Pz:∀ {xs:List W1}{ys:List (List Nat×List Int)},(∀y,y∈ys->0<y.1.length)->Paired (λv (Pp:List Nat×List Int)=>∃s Pb,TupAt (hide [x] H) v [.ref s,.ref Pb]/\hide [x] H s=some (.lst (Pp.1.map Rs))/\hide [x] H Pb=some (.lst (Pp.2.map W1.int))) xs ys->xs.map (lu u)=ys.map (Rs∘λr=>r.1.length-1):=by
   intro xs ys Ph PV
   induction PV with
   |nil=>rfl
   |@cons v y xs ys r t PM=>
    rw[m0,m0,PM λz hz=>Ph z (o0 _ hz)]
    congr 1
    refine Do r λsa PD P9 OL _=>?_;obtain⟨a,rfl,l⟩:=P9;have:=Ph y (kw ..);simp only[lu,j _ _ l,j _ _ OL,xX,Rs,FM]
    congr 1
    lia
  exact Pz pos O2
 rw[PJ];refine gJ rfl OR n6 T.aq T.qo (by show 7<1000;decide) λPx A O1 OS=>?_;have Pw:=O9.step A (lc OR) (lc OS) n6 (lc O1);refine⟨f4 _,λP4 n7=>gJ rfl OS n7 T.aq T.lx (by show 8<1000;decide) λPy p Pc Po=>?_⟩;have Y:=Pw.step p (lc OS) (lc Po) n7 (lc Pc);have nx:∀ {q:WF}{O_:Hp}{o:HO},O_ q=some o->(∃C dx fs,O_ x=some (.ins C dx fs))->(∀C dx fs,o≠.ins C dx fs)->q∉[x]:=λe ⟨C,dx,fs,PF⟩ PK=>by
  simp only[sc];intro z;rw[z,PF]at e;exact PK _ _ _ (b2 e).symm
 have D:=nx OW (b_ _ _ _ ON) (λ_ _ _ z=>by cases z);have L:=nx OX (b_ _ _ _ OO) (λ_ _ _ z=>by cases z);have OM:=nx OY (b_ _ _ _ OP) (λ_ _ _ z=>by cases z);have O4:=nx OZ (b_ _ _ _ OQ) (λ_ _ _ z=>by cases z);have Pm:=nx O0 (b_ _ _ _ OR) (λ_ _ _ z=>by cases z);have PR:=nx O1 (b_ _ _ _ OS) (λ_ _ _ z=>by cases z);refine k Py ⟨x,dx,n,PX,PY,PZ,P0,P1,P2,P4⟩ rfl rfl ⟨Po,?_,?_,?_,?_,?_,?_,(Ix ([]) Pc (.nil)),Y.nd,Pf.same Y.hide⟩ Y.but Y.fresh
 ·refine(p _ _ (A _ _ (J _ _ (OI _ _ (OT _ _ (Pa _ _ OW D) D) D) D) D) D).trans ?_;simp[f1,FS]
 ·refine(p _ _ (A _ _ (J _ _ (OI _ _ (OT _ _ OX L) L) L) L) L).trans ?_;simp[f1,Rs]
 ·refine(p _ _ (A _ _ (J _ _ (OI _ _ OY OM) OM) OM) OM).trans ?_;simp[f1,FS]
 ·refine(p _ _ (A _ _ (J _ _ OZ O4) O4) O4).trans ?_;simp[f1,FS]
 ·exact p _ _ (A _ _ O0 Pm) Pm
 ·exact p _ _ O1 PR)
abbrev qT:v2:=na 47
def nD (CS CN:WF):Sp:=λvs H Q _=>∃(A:SA) (N:Nt) (S:SS) (stop:Nat) (Is:Int),vs=[.ref A.x,Rs stop,.int Is]/\ul CS CN H A N S/\pp N S/\stop<N.n/\
 ∀I:Hp,ul CS CN I A N (Tw.bI N (Tw.av N S stop Is Is) stop Is)->Ch A.own H I->Q .ak I
theorem LZ:pu zaj zaj (s1 qf):=nb rfl rfl rfl (by decide +kernel)
theorem Jq(F:sB K "begin" "Search.begin" qf f fd) (T:bg K mg CS CN)
  (i:AC P w K mg base xL 2 n p zaf (nC CS CN)) (l:Binds K p zaf []) (mA:cf K CS "arrive" n)
  (j:AC P w K mg base xL 3 o q zad (rh CS CN)) (m:Binds K q zad []) (z:cf K CS "walk_on" o):AC P w K mg base xL 4 f fd zaj (nD CS CN):=by(
refine F.ar LZ (λvs H Q E h=>?_) (λU J outer s H vs Q E g h=>?_)
·refine hL h λA N S stop Is C _=>?_;subst C;rfl
·intro L;refine hM h λA N S stop Is D d c a k=>?_;subst D;refine B (On (ca (aA (V 0) T.aq mA i (g.mono) l .nil ws (UV (V 1) (UV (V 2) (UV (V 2) PP)))))
  (Fa (ca (aA (V 0) T.aq z j g m .nil ws (UV (V 1) (UV (V 2) PP)))))) ?_
 refine B rfl (nw A.x A.dx _ O d.ob O (B rfl (B rfl (B rfl (i1 A N S stop Is Is ⟨O,d,c,a,λH1 e r=>?_⟩)))));refine B rfl (nw A.x A.dx _ O e.ob O (B rfl (B rfl (bZ A N _ stop Is ⟨O,e,c.av a _ _,a,λH2 u t=>?_⟩))));exact k H2 u (r.tr t λb y=>.inl y))
def lC (CS CN:WF):Sp:=λvs H Q _=>∃(n:WF) (N:Nt) (stop:Nat) (Is:Int),vs=[.ref n,Rs stop,.int Is]/\f2 CN H n N/\dd N/\stop<N.n/\
 ∀(I:Hp) (A:SA) (k:Nat),ul CS CN I A N (aN N (cp N stop Is) k)->(aN N (cp N stop Is) k).ae=[]->Tl H I->Q (.ref A.x) I
theorem Bg:pu ["network","start","minute","search"] zah (s1 qT):=nb rfl rfl rfl (by decide +kernel)
theorem z7(g:f2 CN H n N) (i:dd N) (nx:H x=none) (l:H dx=none) (ne:dx≠x)
  (k:∀(I:Hp) (A:SA),A.x=x->ul CS CN I A N (f1 N)->Tl H I->(∀b,b∈A.own->H b=none)->a .ak I):
  iW CS CN [.ref x,.ref n] (Uf (Uf H dx (.own x)) x (.ins CS dx [])) a E0:=by(
have s0:Tl H (Uf (Uf H dx (.own x)) x (.ins CS dx [])):=λb o e=>by
 rw[UF (v0 e nx),UF (v0 e l)];exact e
have m:Tl H (hide [x] (Uf (Uf H dx (.own x)) x (.ins CS dx []))):=λb o e=>wl.mpr ⟨by simp only[sc];exact v0 e nx,s0 b o e⟩;refine Db x dx n N O KE (g.same m) i (λI A ex en h f hf=>?_);refine k I A ex h (λb o e=>f b o (s0 b o e) (by simp only[sc];exact v0 e nx)) λb j=>?_;rcases hf b j with rfl|q
·exact nx
·have c:b≠x:=λz=>by rw[z,KE]at q;cases q
 have d:b≠dx:=λz=>by rw[z,UF ne,KE]at q;cases q
 rwa [UF c,UF d]at q)
theorem kM(s:Tl H H1) (b:Ch l H1 H2) (f:∀b,b∈l->H b=none):Tl H H2:=λa o e=>b a o (s a o e) λz=>by rw[f a z]at e;cases e
theorem J0(F:sB K "searched" "searched" qT f fd) (T:bg K mg CS CN) (OJ:mg "Search"=some (.ref CS)) (TW:Mk K CS t)
  (l:AC P w K mg base xL 1 t z zae (iW CS CN)) (p:Binds K z zae [])
  (i:AC P w K mg base xL 4 q u zaj (nD CS CN)) (bB:Binds K u zaj []) (OH:cf K CS "begin" q)
  (GE:AC P w K mg base xL 5 r y zaa (rg CS CN)) (o:Binds K y zaa []) (OI:cf K CS "ride_to_the_end" r):AC P w K mg base xL 6 f fd zah (lC CS CN):=by(
refine F.ar Bg (λvs H Q E h=>?_) (λOQ OO outer s H vs Q E b h=>?_)
·refine jX h λn N stop Is OM _=>?_;subst OM;rfl
·intro OP;refine gQ h λn N stop Is ON J a c k=>?_;subst ON;refine B (On (zS 3 Bg (hN TW l (b.mono) rfl OJ p .nil ws (UV (V 0) PP)))
  (On (ca (aA (V 3) T.aq OH i (b.mono) bB .nil ws (UV (V 1) (UV (V 2) PP))))
  (On (ca (lg (V 3) T.aq OI GE b o .nil ws))
  (Fa (tt (V 3)))))) ?_
 refine B rfl (λx dx a1 a2 a3=>z7 J a a1 a2 a3 λH1 A ex e OK d=>⟨O,?_⟩);subst ex;refine B rfl (nw A.x A.dx _ O e.ob O (B rfl (B rfl (bZ A N _ stop Is ⟨O,e,fw a,c,λH2 g C=>?_⟩))));have L:=((fw a).av c Is Is).bI c Is;refine B rfl (nw A.x A.dx _ O g.ob O (nw A N _ O g L (λm Wp j ex _ _ U Y D=>?_)));have OL:=kM (kM OK C d) D d;refine B rfl ?_;rw[<- ex];exact k m Wp j U Y OL)
abbrev qI:v2:=bj (na 1) 0
abbrev p_:v2:=bj (na 1) 1
abbrev qG:v2:=na 2
structure ay where
 x:WF
 dx:WF
 c:WF
 r:WF
 o:WF
 d:WF
 f:WF
 ds:List WF
 fs:List WF
noncomputable def ay.own (Wp:ay):List WF:=Wp.x::Wp.r::Wp.o::Wp.d::Wp.f::(Wp.ds++Wp.fs)
def kF (G:Hp) (v:W1) (x:List Nat×List Int):Prop:=∃s a,TupAt G v [.ref s,.ref a]/\G s=some (.lst (x.1.map Rs))/\G a=some (.lst (x.2.map W1.int))
noncomputable def hH (pd:List (Nat×on)) (s:Nat):List on:=(pd.filter λd=>d.1==s).map (·.2)
structure NB (CN:WF) (H:Hp) (Wp:ay) (chg:List Int) (rn:List (List Nat×List Int)) (og:List (Nat×Int)) (pd:List (Nat×on)) (pw:Nat->List (Nat×Int×Nat)):Prop where
 nd:Wp.own.Nodup
 ob:H Wp.x=some (.ins CN Wp.dx (nf Wp.c Wp.r Wp.o Wp.d Wp.f))
 yQ:hide Wp.own H Wp.c=some (.lst (chg.map W1.int))
 runs:∃b,H Wp.r=some (.lst b)/\Paired (kF (hide Wp.own H)) b rn
 aZ:∃os,H Wp.o=some (.lst os)/\Paired (λv x=>TupAt (hide Wp.own H) v (jY x)) os og
 af:H Wp.d=some (.lst (Wp.ds.map W1.ref))
 e8:Wp.ds.length=chg.length
 dep:∀s a,Wp.ds[s]?=some a->∃es,H a=some (.lst es)/\Paired (λv e=>TupAt (hide Wp.own H) v (aX e)) es (hH pd s)
 foot:H Wp.f=some (.lst (Wp.fs.map W1.ref))
 cY:Wp.fs.length=chg.length
 ft:∀s a,Wp.fs[s]?=some a->∃es,H a=some (.lst es)/\Paired (λv e=>TupAt (hide Wp.own H) v (jH e)) es (pw s)
section
variable {CN:WF}{H I:Hp}{Wp:ay}{chg:List Int}{rn:List (List Nat×List Int)}{og:List (Nat×Int)}{pd:List (Nat×on)}{pw:Nat->List (Nat×Int×Nat)}
theorem kF.same(s:Tl G G') (h:kF G v x):kF G' v x:=by obtain⟨a,b,c,d,e⟩:=h;exact(IN a b (c.same s) (s _ _ d) (s _ _ e))
theorem NB.there(h:NB CN H Wp chg rn og pd pw) (a:b∈Wp.own):H b≠none:=by(
unfold ay.own at a;simp only[rs,cs]at a;rcases a with rfl|rfl|rfl|rfl|rfl|a|a
·rw[h.ob];simp
·obtain⟨_,e,_⟩:=h.runs;rw[e];simp
·obtain⟨_,e,_⟩:=h.aZ;rw[e];simp
·rw[h.af];simp
·rw[h.foot];simp
·obtain⟨i,hi⟩:=fW.mp a;obtain⟨_,e,_⟩:=h.dep i b hi;rw[e];simp
·obtain⟨i,hi⟩:=fW.mp a;obtain⟨_,e,_⟩:=h.ft i b hi;rw[e];simp)
theorem pH(f:a∈l) (g:H t=none):Tl (hide l H) (hide l (Uf (Uf H t o) a u)):=λb v e=>by
 obtain⟨c,d⟩:=wl.mp e;refine wl.mpr ⟨c,?_⟩;rw[UF (λz=>c (by rw[z];exact f)),UF (v0 d g)];exact d
theorem pX{s:Nat}(h:Wp.ds[s]?=some a):a∈Wp.own:=by
 unfold ay.own;simp[pi h]
theorem k'{s:Nat}(h:Wp.fs[s]?=some a):a∈Wp.own:=by
 unfold ay.own;simp[pi h]
structure kD (CN:WF) (H I:Hp) (Wp:ay) (a:WF):Prop where
 same:Tl (hide Wp.own H) (hide Wp.own I)
 keep:∀b,b∈Wp.own->b≠a->I b=H b
theorem NB.keep(h:NB CN H Wp chg rn og pd pw) (d:a∈Wp.own) (c:H t=none):kD CN H (Uf (Uf H t o) a u) Wp a:=
 ⟨pH d c,λb e ne=>by rw[UF ne,UF];exact λz=>h.there e (by rw[z];exact c)⟩
theorem NB.move(h:NB CN H Wp chg rn og pd pw) (k:kD CN H I Wp a) (ob:I Wp.x=some (.ins CN Wp.dx (nf Wp.c Wp.r Wp.o Wp.d Wp.f))) 
  (hd:Wp.d≠a) (hf:Wp.f≠a) (runs:∃g,I Wp.r=some (.lst g)/\Paired (kF (hide Wp.own I)) g m) (aZ:∃os,I Wp.o=some (.lst os)/\Paired (λv x=>TupAt (hide Wp.own I) v (jY x)) os i)
  (dep:∀s b,Wp.ds[s]?=some b->∃es,I b=some (.lst es)/\Paired (λv e=>TupAt (hide Wp.own I) v (aX e)) es (hH j s))
  (ft:∀s b,Wp.fs[s]?=some b->∃es,I b=some (.lst es)/\Paired (λv e=>TupAt (hide Wp.own I) v (jH e)) es (l s)):NB CN I Wp chg m i j l:=
 ⟨h.nd,ob,k.same _ _ h.yQ,runs,aZ,(k.keep _ (by simp[ay.own]) hd).trans h.af,h.e8,dep,(k.keep _ (by simp[ay.own]) hf).trans h.foot,h.cY,ft⟩
theorem NB.va(h:NB CN H Wp chg rn og pd pw) (k:kD CN H I Wp a) (ne:Wp.r≠a):∃b,I Wp.r=some (.lst b)/\Paired (kF (hide Wp.own I)) b rn:=by
 obtain⟨b,e,p⟩:=h.runs;exact Ix b ((k.keep _ (by simp[ay.own]) ne).trans e) (aj (λ_ _ q=>q.same k.same) p)
theorem NB.uM(h:NB CN H Wp chg rn og pd pw) (k:kD CN H I Wp a) (ne:Wp.o≠a):∃os,I Wp.o=some (.lst os)/\Paired (λv x=>TupAt (hide Wp.own I) v (jY x)) os og:=by
 obtain⟨b,e,p⟩:=h.aZ;exact Ix b ((k.keep _ (by simp[ay.own]) ne).trans e) (aj (λ_ _ q=>q.same k.same) p)
theorem NB.o1(h:NB CN H Wp chg rn og pd pw) (k:kD CN H I Wp a) (c:Wp.ds[s]?=some b) (ne:b≠a):∃es,I b=some (.lst es)/\Paired (λv e=>TupAt (hide Wp.own I) v (aX e)) es (hH pd s):=by
 obtain⟨es,e,p⟩:=h.dep s b c;exact Ix es ((k.keep _ (pX c) ne).trans e) (aj (λ_ _ q=>q.same k.same) p)
theorem NB.o_(h:NB CN H Wp chg rn og pd pw) (k:kD CN H I Wp a) (c:Wp.fs[s]?=some b) (ne:b≠a):∃es,I b=some (.lst es)/\Paired (λv e=>TupAt (hide Wp.own I) v (jH e)) es (pw s):=by
 obtain⟨es,e,p⟩:=h.ft s b c;exact Ix es ((k.keep _ (k' c) ne).trans e) (aj (λ_ _ q=>q.same k.same) p)
theorem NB.rA(h:NB CN H Wp chg rn og pd pw) (c:a∈Wp.own) (d:H t=none):TupAt (hide Wp.own (Uf (Uf H t (.tup xs)) a u)) (.ref t) xs:=
 have b:t∉Wp.own:=λz=>h.there z d
 (Ix t O (wl.mpr ⟨b,by rw[UF (λz=>b (by rw[z];exact c)),KE]⟩))
structure js (Wp:ay):Prop where
 x:∀b,b∈Wp.own->b=Wp.r\/b=Wp.o\/b=Wp.d\/b=Wp.f\/b∈Wp.ds\/b∈Wp.fs->Wp.x≠b
 r:Wp.r≠Wp.o/\Wp.r≠Wp.d/\Wp.r≠Wp.f/\Wp.r∉Wp.ds/\Wp.r∉Wp.fs
 o:Wp.o≠Wp.d/\Wp.o≠Wp.f/\Wp.o∉Wp.ds/\Wp.o∉Wp.fs
 d:Wp.d≠Wp.f/\Wp.d∉Wp.ds/\Wp.d∉Wp.fs
 f:Wp.f∉Wp.ds/\Wp.f∉Wp.fs
 ds:Wp.ds.Nodup
 fs:Wp.fs.Nodup
 df:∀a,a∈Wp.ds->a∉Wp.fs
theorem js.of (h:Wp.own.Nodup):js Wp:=by(
unfold ay.own at h;simp only[iq,rs,cs,not_or,il]at h;obtain⟨⟨y,A,C,D,E,J⟩,⟨r,s,t,u,x⟩,⟨k,l,m,n⟩,⟨d,e,f⟩,⟨g,i⟩,o,p,q⟩:=h;refine⟨λb _ c=>?_,⟨r,s,t,u,x⟩,⟨k,l,m,n⟩,⟨d,e,f⟩,⟨g,i⟩,o,p,λa j c=>q a j a c rfl⟩;rcases c with rfl|rfl|rfl|rfl|c|c
·exact y
·exact A
·exact C
·exact D
·exact λz=>E (by rw[z];exact c)
·exact λz=>J (by rw[z];exact c))
theorem fF {c:Type}{l:List c}{a b:c}(h:a∉l) (d:b∈l):b≠a:=λz=>h (by rw[<- z];exact d)
theorem NB.K6(h:NB CN H Wp chg rn og pd pw) (f:H t=none) {os:List W1}(g:H Wp.o=some (.lst os)) (y:Nat×Int):NB CN (Uf (Uf H t (.tup (jY y))) Wp.o (.lst (os++[.ref t]))) Wp chg rn (og++[y]) pd pw:=by(
have n:=js.of h.nd;have d:Wp.o∈Wp.own:=by simp[ay.own]
have k:=h.keep (a:=Wp.o) (t:=t) (o:=.tup (jY y)) (u:=.lst (os++[.ref t])) d f;obtain⟨i,e,p⟩:=h.aZ;rw[g]at e;cases e;refine h.move k ((k.keep _ (by simp[ay.own]) (n.x _ d (.inr (.inl rfl)))).trans h.ob) (Ne.symm n.o.1) (Ne.symm n.o.2.1) (h.va k n.r.1) (B KE (Paired.snoc (aj (λ_ _ q=>q.same k.same) p) (h.rA d f))) (λs b c=>h.o1 k c (fF n.o.2.2.1 (pi c))) (λs b c=>h.o_ k c (fF n.o.2.2.2 (pi c))))
theorem NB.K7(h:NB CN H Wp chg rn og pd pw) (g:H t=none) (l:H Wp.r=some (.lst i)) (m:hide Wp.own H s=some (.lst (y.1.map Rs))) (j:hide Wp.own H d=some (.lst (y.2.map W1.int))):NB CN (Uf (Uf H t (.tup [.ref s,.ref d])) Wp.r (.lst (i++[.ref t]))) Wp chg (rn++[y]) og pd pw:=by(
have n:=js.of h.nd;have f:Wp.r∈Wp.own:=by simp[ay.own]
have k:=h.keep (a:=Wp.r) (t:=t) (o:=.tup [.ref s,.ref d]) (u:=.lst (i++[.ref t])) f g;obtain⟨z,e,p⟩:=h.runs;rw[l]at e;cases e;refine h.move k ((k.keep _ (by simp[ay.own]) (n.x _ f (.inl rfl))).trans h.ob) (Ne.symm n.r.2.1) (Ne.symm n.r.2.2.1) (B KE (Paired.snoc (aj (λ_ _ q=>q.same k.same) p) (IN s d (h.rA f g) (k.same _ _ m) (k.same _ _ j)))) (h.uM k (Ne.symm n.r.1)) (λs b c=>h.o1 k c (fF n.r.2.2.2.1 (pi c))) (λs b c=>h.o_ k c (fF n.r.2.2.2.2 (pi c))))
theorem FZ (pd:List (Nat×on)) (s0:Nat) (e:on) (s:Nat):hH (pd++[(s0,e)]) s=hH pd s++(if s0=s then [e]else []):=by(
unfold hH;rw[ku,bL]
congr 1
by_cases q:s0=s
·simp[q]
·simp[q])
theorem NB.K4(h:NB CN H Wp chg rn og pd pw) (l:H t=none) (i:Wp.ds[s0]?=some a) (m:H a=some (.lst es)) (y:on):NB CN (Uf (Uf H t (.tup (aX y))) a (.lst (es++[.ref t]))) Wp chg rn og (pd++[(s0,y)]) pw:=by(
have n:=js.of h.nd;have g:=pi i;have j:=pX i;have k:=h.keep (a:=a) (t:=t) (o:=.tup (aX y)) (u:=.lst (es++[.ref t])) j l;obtain⟨D,e,p⟩:=h.dep s0 a i;rw[m]at e;cases e;refine h.move k ((k.keep _ (by simp[ay.own]) (n.x _ j (.inr (.inr (.inr (.inr (.inl g))))))).trans h.ob) (Ne.symm (fF n.d.2.1 g)) (Ne.symm (fF n.f.1 g)) (h.va k (Ne.symm (fF n.r.2.2.2.1 g))) (h.uM k (Ne.symm (fF n.o.2.2.1 g))) (λs b c=>?_) (λs b c=>h.o_ k c (λz=>n.df a g (by rw[<- z];exact pi c)));rw[FZ];by_cases q:s0=s
·subst q;rw[i]at c;cases c;rw[No rfl];exact B KE (Paired.snoc (aj (λ_ _ q=>q.same k.same) p) (h.rA j l))
·rw[Ps q,fm];refine h.o1 k c λz=>q ?_;subst z;have A:=(aD.mp i);have C:=(aD.mp c);exact(rM n.ds).mp (A.2.trans C.2.symm))
theorem NB.K5(h:NB CN H Wp chg rn og pd pw) (l:H t=none) (i:Wp.fs[s0]?=some a) (m:H a=some (.lst es)) (y:Nat×Int×Nat):NB CN (Uf (Uf H t (.tup (jH y))) a (.lst (es++[.ref t]))) Wp chg rn og pd (λs=>pw s++(if s0=s then [y]else [])):=by(
have n:=js.of h.nd;have g:=pi i;have j:=k' i;have k:=h.keep (a:=a) (t:=t) (o:=.tup (jH y)) (u:=.lst (es++[.ref t])) j l;obtain⟨D,e,p⟩:=h.ft s0 a i;rw[m]at e;cases e;refine h.move k ((k.keep _ (by simp[ay.own]) (n.x _ j (.inr (.inr (.inr (.inr (.inr g))))))).trans h.ob) (Ne.symm (fF n.d.2.2 g)) (Ne.symm (fF n.f.2 g)) (h.va k (Ne.symm (fF n.r.2.2.2.2 g))) (h.uM k (Ne.symm (fF n.o.2.2.2 g))) (λs b c=>h.o1 k c (λz=>n.df b (pi c) (by rw[z];exact g))) (λs b c=>?_);by_cases q:s0=s
·subst q;rw[i]at c;cases c;rw[No rfl];exact B KE (Paired.snoc (aj (λ_ _ q=>q.same k.same) p) (h.rA j l))
·rw[Ps q,fm];refine h.o_ k c λz=>q ?_;subst z;have A:=(aD.mp i);have C:=(aD.mp c);exact(rM n.fs).mp (A.2.trans C.2.symm))
end
theorem IA{a b:Type}{l:List a}{f:a->b}(h:i<l.length) (d:a):(l.map f)[i]?=some (f (l.getD i d)):=by rw[pr,bV h d];rfl
theorem FY (pd:List (Nat×on)) (s:Nat):(hH pd s).length<=pd.length:=by unfold hH;rw[FM];exact l7 ..
theorem u_ (r:Nat) (x:aQ):(ey r x).length=x.1.length-1:=by unfold ey;simp
def vi (CN:WF):Sp:=λvs H Q _=>∃(Wp:ay) (chg:List Int) (rn:List (List Nat×List Int)) (og:List (Nat×Int)) (pd:List (Nat×on)) (pw:Nat->List (Nat×Int×Nat)) (s a g:WF) (x:aQ),vs=[.ref Wp.x,.ref s,.ref a,.ref g]/\NB CN H Wp chg rn og pd pw/\
 hide Wp.own H s=some (.lst (x.1.map Rs))/\hide Wp.own H a=some (.lst (x.2.1.map W1.int))/\hide Wp.own H g=some (.lst (x.2.2.map W1.int))/\x.2.2.length=x.1.length/\0<x.1.length/\(∀st,st∈x.1->st<chg.length)/\rn.length<=100000/\pd.length+x.1.length<=1000000/\
 ∀I,NB CN I Wp chg (rn++[(x.1,x.2.1)]) og (pd++ey rn.length x) pw->Ch Wp.own H I->Q .ak I
theorem vc:pu ["self","stops","comes","goes","run","call"] zas (s1 p_):=nb rfl rfl rfl (by decide +kernel)
theorem Jh(F:sB K "add_run" "Network.add_run" p_ f fd) (T:bg K mg CS CN):AC P w K mg base xL 1 f fd zas (vi CN):=by(
refine F.ar vc (λvs H Q E h=>?_) (λOW OU outer s0 H vs Q E OZ h=>?_)
·refine pO h λWp chg rn og pd pw s n g x OS=>?_;obtain⟨rfl,_⟩:=OS;rfl
·intro OV;refine pO h λWp chg rn og pd pw s n g x OT=>?_;obtain⟨rfl,e,p,OJ,hg,OX,OY,OL,O0,O1,k⟩:=OT;refine B (On (zS 4 vc (a0 b6 (by rfl) T.len b0 (UV (wS (V 0) rfl) PP)))
  (On (ca (cG cm da dc cZ (wS (V 0) rfl) (UV (bX (UV (V 1) (UV (V 2) PP))) PP)))
  (Fa (cH bN rfl (ng rfl T.range (UV (kt gP (a0 b6 (by rfl) T.len b0 (UV (V 1) PP)) EQ) PP)) (zG 5 vc)
   (Fa (ca (cG cm da dc cZ (xz wE (wS (V 0) rfl) (xz wE (V 1) (V 5))) (UV (bX (UV (xz wE (V 3) (V 5)) (UV (V 4) (UV (V 5) PP)))) PP)))))))) ?_
 obtain⟨m,l,OP⟩:=e.runs;have ON:m.length=rn.length:=Paired.length OP;refine B rfl (wv Wp.x CN Wp.dx _ _ O e.ob T.aS T.iQ O (IN Wp.r m O (.inl (TD.of l)) ?_));rw[ON];refine B rfl (b' Wp.x CN Wp.dx _ _ O e.ob T.aS T.iQ O (.inl ⟨O,⟨_,TD.of l⟩⟩) (B rfl (zn _ O (by show 2<=Gc;decide) (λt u=>?_))));have tr:t≠Wp.r:=λz=>e.there (b:=Wp.r) (by simp[ay.own]) (by rw[<- z];exact u);refine bb Wp.r m _ O O ((UF (Ne.symm tr)).trans l) (small (by lia)) ?_;have OI:=e.K7 u l (y:=(x.1,x.2.1)) p OJ;have D:Ch Wp.own H (Uf (Uf H t (.tup [.ref s,.ref n])) Wp.r (.lst (m++[.ref t]))):=((Ch.rfl' _ _).new u).put (by simp[ay.own]);have OQ:=D.hide;refine B rfl (IN s _ O (.inl (TD.of (b7 _ _ _ _ (OQ _ _ p)))) (IN _ _ O O ⟨_,O,by rw[FM];lia,by rw[FM];lia,?_⟩));have en:((((x.1.map Rs).length:Nat):Int)-1).toNat=x.1.length-1:=by rw[FM];lia
 let N:Nat->St->Hp->Prop:=λq ZB H2=>∃C,ZB=[some (.ref Wp.x),some (.ref s),some (.ref n),some (.ref g),some (Rs rn.length),C]/\NB CN H2 Wp chg (rn++[(x.1,x.2.1)]) og (pd++(ey rn.length x).take q) pw/\Ch Wp.own H H2
 refine kT N
  (zn none O (by rw[List.take_zero,fm];exact OI) D) ?_ ?_
 ·rintro q ZB H2 J ⟨C,rfl,c,j⟩;have J:q<x.1.length-1:=nZ J en;have L:=j.hide;have U:(0:Int)+((q:Nat):Int)=((q:Nat):Int):=by lia
  show bh 5 (W1.int ((0:Int)+((q:Nat):Int))) _ _ _;rw[U];have OK:x.1.getD q 0<chg.length:=OL _ (Tw.getD_mem (by lia) _);have Y:∃a,Wp.ds[x.1.getD q 0]?=some a:=⟨_,g1 (by rw[c.e8];exact OK)⟩;obtain⟨a,i⟩:=Y;obtain⟨es,o,OO⟩:=c.dep _ a i;refine B rfl (wv Wp.x CN Wp.dx _ _ O c.ob T.aS T.hK O (B rfl (B rfl (Db s _ _ _ O O (TD.of (b7 _ _ _ _ (L _ _ p))) (tq (by lia)) (bi Wp.d _ _ _ O O (TD.of c.af) (lv (show(Wp.ds.map W1.ref)[x.1.getD q 0]?=some (W1.ref a) by rw[pr,i];rfl)) (.inl ⟨O,⟨_,TD.of o⟩⟩) (B rfl (B rfl (Db g _ _ _ O O (TD.of (b7 _ _ _ _ (L _ _ hg))) (jz (by lia)) (B rfl (zn _ O (by show 3<=Gc;decide) (λOR A=>?_)))))))))));have ta:a≠OR:=λz=>c.there (pX i) (by rw[z];exact A);have OM:es.length<=1000000:=by
   have h1:es.length=_:=Paired.length OO;have h2:=FY (pd++(ey rn.length x).take q) (x.1.getD q 0);rw[ls,aP,u_]at h2;lia
  refine bb a es _ O O ((UF ta).trans o) (small OM) ?_;refine zn _ O ?_ ((j.new A).put (pX i));have:=c.K4 A i o (x.2.2.getD q 0,rn.length,q);have OH:(ey rn.length x).take (q+1)=(ey rn.length x).take q++[(x.1.getD q 0,x.2.2.getD q 0,rn.length,q)]:=by
   rw[cB]
   congr 1
   unfold ey;rw[pr,gy (by lia)];rfl
  rw[OH,<-dv];exact this
 ·rintro ZB H2 ⟨C,rfl,c,j⟩;refine k H2 ?_ j;rw[en,v' (by rw[u_];lia)]at c;exact c)
noncomputable def hF (e:on):List Int:=[e.1,(e.2.1:Int),(e.2.2:Int)]
theorem FW(h:c6 (hF a) (hF b)):iK a b:=by(
obtain⟨g,r,i⟩:=a;obtain⟨g',d,c⟩:=b;unfold iK;simp only;rcases h with h|h
·simp only[hF,kq]at h;lia
·simp only[hF,ci,hj,ev,dL,fX,and_false,g9]at h;lia)
theorem Kw(p:Paired (λv e=>TupAt H v (aX e)) es D):∃ts:List (WF×on),es=ts.map (λt=>W1.ref t.1)/\D=ts.map (·.2)/\∀t,t∈ts->H t.1=some (.tup (aX t.2)):=by(
induction p with
|nil=>exact zn ([]) O O (λt h=>by simp at h)
|cons r t i=>
 obtain⟨a,rfl,g⟩:=r;obtain⟨ts,c,d,f⟩:=i;refine zn ((a,_)::ts) (by rw[c];rfl) (by rw[d];rfl) (λt b=>?_);rcases rs.mp b with rfl|b
 ·exact g
 ·exact f t b)
theorem Au:∀(ts:List (WF×on)),(∀t,t∈ts->H t.1=some (.tup (aX t.2)))->Paired (λv e=>TupAt H v (aX e)) (ts.map λt=>W1.ref t.1) (ts.map (·.2))
 |[],_=>.nil
 |t::ts,h=>.cons (Ix t.1 O (h t (kw ..))) (Au ts λu hu=>h u (o0 _ hu))
theorem Lp(n:TD K H a es) (p:Paired (λv e=>TupAt H v (aX e)) es D)
  (k:∀(i:List W1) (c:List on) (q:WF),c.Perm D->c.Pairwise iK->Paired (λv e=>TupAt H v (aX e)) i c->H q=none->Q (.ref q) (Uf H q (.lst i))):uY K [W1.ref a] H Q:=by(
obtain⟨ts,rfl,rfl,d⟩:=Kw p
let f:WF×on->WF×List Int:=λt=>(t.1,hF t.2)
let g:WF×List Int->WF×on:=λt=>(t.1,t.2.getD 0 0,(t.2.getD 1 0).toNat,(t.2.getD 2 0).toNat)
have gf:∀t,g (f t)=t:=λt=>by obtain⟨a,x,y,z⟩:=t;simp[f,g,hF]
refine he a (ts.map f) O (by rw[ax];exact n) (λt b=>?_) (λus q l A o=>?_)
·obtain⟨u,hu,rfl⟩:=mo.mp b;exact⟨pm.of (d u hu),by simp[f,hF]⟩
·have j:∀u,u∈us->f (g u)=u:=λu hu=>by
  obtain⟨t,b,rfl⟩:=mo.mp (l.mem_iff.mp hu);rw[gf]
 have pg:(us.map g).Perm ts:=by
  have:=l.map g;rw[ax]at this;have e:ts.map (g∘f)=ts:=by
   conv=>rhs;rw[<- rR ts]
   exact eE λt _=>gf t
  rwa [e]at this
 have m:(us.map λt=>W1.ref t.1)=(us.map g).map λt=>W1.ref t.1:=by rw[ax];rfl
 rw[m];refine k _ ((us.map g).map (·.2)) q (pg.map _) ?_ (Au _ λt b=>d t (pg.mem_iff.mp b)) o;rw[ax,ji];refine A.imp_of_mem λ{x y} r s h=>FW ?_;have h1:=cM (·.2) (j x r);have h2:=cM (·.2) (j y s);simp only[f]at h1 h2;show c6 (hF (g x).2) (hF (g y).2);rw[h1,h2];exact h)
theorem zP{E:Hp->Prop}(hv:∀x,nm ((nm ZB vs).set v (some x)) vs=nm ZB vs) (J:H1 D=none) (Y:TD K H1 a xs) (hz:xs.length<=Gc)
  (post:∀(H:Hp) (as:List WF),as.length=xs.length->(D::as).Nodup->H D=some (.lst (as.map W1.ref))->(∀b,b∈as->H b=some (.lst []))->(∀b,b∈as->H1 b=none)->Tl H1 H->E H):
  ∃W:Nat->Nat->Hp->Prop,(∃m,W 0 m (Uf H1 D (.lst [])))/\∀i m H,W i m H->
   ((cO K a).stop i H/\E H)\/((cO K a).go i H/\∃k:Hp->Prop,(∀I,k I->∃N,N<m/\W (i+1) N I)/\∀x I,(cO K a).eQ i H x I->bh v x (nm ZB vs) I λu H2=>nm u vs=nm ZB vs/\iX u H2 λb A=>
    if b=true then vL j7 u A λy C=>∃acc,C D=some (.lst acc)/\acc.length<Gc/\k (Uf C D (.lst (acc++[y])))else k A):=by(
refine mP (xs:=xs) (λi H=>∃as:List WF,as.length=i/\(D::as).Nodup/\H D=some (.lst (as.map W1.ref))/\(∀b,b∈as->H b=some (.lst []))/\(∀b,b∈as->H1 b=none)/\Tl H1 H) ⟨[],O,by simp,KE,λb c=>by simp at c,λb c=>by simp at c,Tl.new J⟩
 (λi H _ OH=>by obtain⟨_,_,_,_,_,_,s⟩:=OH;exact Y.same s) ?_ (λH OI=>by obtain⟨as,l,d,f,h,n,g⟩:=OI;exact post H as l d f h n g)
rintro i x H hi ⟨as,l,d,f,h,n,g⟩;have OJ:i<xs.length:=(aD.mp hi).1;refine⟨hv x,?_⟩;dsimp only[iX];rw[No rfl];refine⟨f4 _,λt j=>?_⟩;have r:D≠t:=λz=>by rw[z,j]at f;cases f
have ta:∀b,b∈as->b≠t:=λb c z=>by have:=h b c;rw[z,j]at this;cases this
refine zn (as.map W1.ref) ((UF r).trans f) (by rw[FM];lia) ⟨as++[t],by rw[ls,l];rfl,?_,by rw[KE,bL];rfl,λb c=>?_,λb c=>?_,λb o e=>?_⟩
·rw[iq]at d⊢;refine⟨λz=>?_,?_⟩
 ·rcases cs.mp z with z|z
  ·exact d.1 z
  ·simp only[sc]at z;exact r z
 ·rw[il];refine⟨d.2,by simp,λp U q L=>?_⟩;simp only[sc]at L;rw[L];exact ta p U
·rw[iq]at d;rcases cs.mp c with c|c
 ·rw[UF (λz=>d.1 (by rw[<- z];exact c)),UF (ta b c)];exact h b c
 ·simp only[sc]at c;rw[c,UF (Ne.symm r),KE]
·rcases cs.mp c with c|c
 ·exact n b c
 ·simp only[sc]at c;rw[c];exact g.free j
·have Q:b≠D:=v0 e J;have T:b≠t:=λz=>by have:=g b o e;rw[z,j]at this;cases this
 rw[UF Q,UF T];exact g b o e)
def gb (H:Hp) (v:W1) (y:(Nat×Int)×aQ):Prop:=∃s a g,TupAt H v [Rs y.1.1,.int y.1.2,.ref s,.ref a,.ref g]/\H s=some (.lst (y.2.1.map Rs))/\H a=some (.lst (y.2.2.1.map W1.int))/\H g=some (.lst (y.2.2.2.map W1.int))
def oP (H:Hp) (v:W1) (w:Wk):Prop:=TupAt H v [Rs w.1,Rs w.2.1,.int w.2.2]
theorem gb.same(s:Tl H I) (h:gb H v y):gb I v y:=by obtain⟨a,b,c,d,e,f,g⟩:=h;exact(nw a b c (d.same s) (s _ _ e) (s _ _ f) (s _ _ g))
structure oI (chg:List Int) (Z:List ((Nat×Int)×aQ)) (W:List Wk):Prop where
 n:chg.length<=1000
 runs:Z.length<=100000
 calls:(Z.map λy=>y.2.1.length).sum<=300000
 goes:∀y,y∈Z->y.2.2.2.length=y.2.1.length/\0<y.2.1.length/\∀st,st∈y.2.1->st<chg.length
 walks:W.length<=100000/\∀w,w∈W->w.1<chg.length
def rd (CN:WF):Sp:=λvs H Q _=>∃(x dx c d e:WF) (chg:List Int) (Z:List ((Nat×Int)×aQ)) (a b:List W1) (W:List Wk),vs=[.ref x,.ref c,.ref d,.ref e]/\H x=some (.ins CN dx [])/\H c=some (.lst (chg.map W1.int))/\H d=some (.lst a)/\Paired (gb (hide [x] H)) a Z/\
 H e=some (.lst b)/\Paired (oP H) b W/\oI chg Z W/\∀(I:Hp) (N:Nt),ss chg (Z.map (·.2)) (Z.map (·.1)) W N->f2 CN I x N->Ch [x] H I->Q .ak I
theorem d5:pu ["self","changes","runs","walks","trip","begins","stops","comes","goes","number","start","goal","minutes","change","departures"] zak (s1 qI):=nb rfl rfl rfl (by decide +kernel)
theorem E7{R:List aQ}(h:R[i]?=some x):ei (R.take (i+1))=ei (R.take i)++ey i x:=by(
have hi:=(aD.mp h).1;unfold ei;rw[cB,h,cK,wg,oz]
congr 1
simp[aP,km (ed hi)])
theorem GQ{W:List Wk}(h:W[i]?=some x) (s:Nat):dm (W.take (i+1)) s=dm (W.take i) s++(if x.1=s then [(x.2.1,x.2.2,i)]else []):=by(
have hi:=(aD.mp h).1;unfold dm;rw[cB,h,cK,wg,ku,bL]
congr 1
by_cases e:x.1=s
·simp[e,aP,km (ed hi)]
·simp[e])
theorem yb (R:List aQ):(ei R).length<=(R.map λx=>x.1.length).sum:=by(
unfold ei;have:∀(l:List aQ) (k:Nat),((l.zipIdx k).flatMap λx=>ey x.2 x.1).length<=(l.map λx=>x.1.length).sum:=by
 intro l
 induction l with
 |nil=>intro k;simp
 |cons x l a=>
  intro k;rw[kx,gA,ls,m0,dV,u_];have:=a (k+1);simp only;lia
exact this R 0)
theorem rk {a:Type}(f:a->Nat):∀(l:List a) (i:Nat),((l.take i).map f).sum<=(l.map f).sum
 |[],i=>by simp
 |x::l,0=>by simp
 |x::l,i+1=>by
  have:=rk f l i;rw[List.take_succ_cons,m0,m0,dV,dV];lia
theorem Kl{fs:List WF}(h:(([x]++[c]++[r]++[o])++(d::ds)++(f::fs)).Nodup):(x::r::o::d::f::(ds++fs)).Nodup/\c∉(x::r::o::d::f::(ds++fs)):=by
 simp only[iq,il,rs,cs,ip,g9,not_or,l_,l9,dv]at h⊢;grind
theorem Ad{H:Hp}{m:List WF}(h1:l.Nodup) (h2:∀b,b∈l->H b≠none) (c:m.Nodup) (d:∀b,b∈m->H b=none):(l++m).Nodup:=by
 rw[il];exact⟨h1,c,λa f b g e=>h2 a f (by rw[e];exact d b g)⟩
theorem uO(h:xs.length=ys.length) (f:∀(i:Nat) (x:g) (y:j),xs[i]?=some x->ys[i]?=some y->R x y):Paired R xs ys:=by(
induction xs generalizing ys with
|nil=>cases ys with
 |nil=>exact .nil
 |cons=>cases h
|cons x xs e=>cases ys with
 |nil=>cases h
 |cons y ys=>exact .cons (f 0 x y rfl rfl) (e (Nat.succ.inj h) λi a b c d=>f (i+1) a b c d))
theorem TupAt.zN(h:TupAt H v xs) (d:H q=none) (c:H D=some (.lst l)):TupAt (Uf (Uf H q o) D u) v xs:=by
 obtain⟨a,e,b⟩:=h;refine Ix a e ?_;rw[UF (λz=>by rw[z,c]at b;cases b),UF (v0 b d)];exact b
theorem JR(F:sB K "__init__" "Network.__init__" qI f fd) (T:bg K mg CS CN) (Rt:mg "list"=none) (Ru:mg "sorted"=none)
  (QC:AC P w K mg base xL 1 QR QS zas (vi CN)) (QG:Binds K QS zas []) (mA:cf K CN "add_run" QR):AC P w K mg base xL 2 f fd zak (rd CN):=by(
refine F.ar d5 (λvs H Q E h=>?_) (λRL RI outer s0 H vs Q E PN h=>?_)
·refine pO h λx dx OT Pm O_ chg Z Pz PB W RG=>?_;obtain⟨rfl,_⟩:=RG;rfl
·intro RK;refine pO h λx dx OT Pm O_ chg Z Pz PB W RH=>?_;obtain⟨rfl,Ph,OS,Po,Qp,PQ,Qo,OK,k⟩:=RH;refine B (On (bq (V 0) (pZ oW (by rfl) Rt sG (UV (V 1) PP)) rfl)
  (On (bq (V 0) (db PP) rfl)
  (On (bq (V 0) (db PP) rfl)
  (On (bq (V 0) (iT (own:=[("change",13)]) rfl d5.nd (cy (V 1)) (fx rfl) (λ_ _ _ _ _=>zG 13 d5) (λ_ _ _ _ _=>gn) (λ_ _ _ _ _=>db PP)) rfl)
  (On (bq (V 0) (iT (own:=[("change",13)]) rfl d5.nd (cy (V 1)) (fx rfl) (λ_ _ _ _ _=>zG 13 d5) (λ_ _ _ _ _=>gn) (λ_ _ _ _ _=>db PP)) rfl)
  (On (cH bN rfl (cy (V 2)) (cw rfl (re (zG 4 d5) (re (zG 5 d5) (re (zG 6 d5) (re (zG 7 d5) (re (zG 8 d5) cx))))))
   (On (ca (cG cm da dc cZ (wS (V 0) rfl) (UV (bX (UV (V 4) (UV (V 5) PP))) PP)))
   (Fa (ca (aA (V 0) T.aS mA QC PN QG .nil ws (UV (V 6) (UV (V 7) (UV (V 8) PP))))))))
  (On (cH bN rfl (ng rfl T.range (UV (a0 b6 (by rfl) T.len b0 (UV (V 3) PP)) PP)) (zG 9 d5)
   (On (dI (xz wE (V 3) (V 9)) (cw rfl (re (zG 10 d5) (re (zG 11 d5) (re (zG 12 d5) cx)))))
   (Fa (ca (cG cm da dc cZ (xz wE (wS (V 0) rfl) (V 10)) (UV (bX (UV (V 11) (UV (V 12) (UV (V 9) PP)))) PP))))))
  (Fa (bq (V 0) (iT (own:=[("departures",14)]) rfl d5.nd (cy (wS (V 0) rfl)) (fx rfl) (λ_ _ _ _ _=>zG 14 d5) (λ_ _ _ _ _=>gn) (λ_ _ _ _ _=>a0 (r:=uY K) FK (by rfl) Ru D7 (UV (V 14) PP))) rfl))))))))) ?_
 have xs:∀ {H2:Hp}{o:HO},H2 x=some o->x∈([x]:List WF):=λ_=>by simp
 have OY:∀ {b:WF}{l:List W1},H b=some (.lst l)->b∉[x]:=λe=>by
  simp only[sc];intro z;rw[z,Ph]at e;cases e
 refine B rfl (IN OT _ O (.inl (TD.of OS)) (λc Ql=>?_));refine gJ rfl Ph Ql T.aS T.pF (by decide) λH1 QE OJ Pt=>?_;have Qz:=(eh.start (lc Ph)).step QE (lc Ph) (lc Pt) Ql (lc OJ);refine⟨f4 _,λr Qn=>gJ rfl Pt Qn T.aS T.iQ (by show 1<1000;decide) λH2 Y OP Pu=>?_⟩;have QA:=Qz.step Y (lc Pt) (lc Pu) Qn (lc OP);refine⟨f4 _,λo no=>gJ rfl Pu no T.aS T.pG (by show 2<1000;decide) λOH OI PF Pw=>?_⟩;have OO:=QA.step OI (lc Pu) (lc Pw) no (lc PF);have sz:(chg.map W1.int).length<=Gc:=by rw[FM];exact ed (small (by have:=OK.n;lia))
 refine B rfl (zn OT O ⟨_,TD.of (OO.but _ _ OS (OY OS))⟩ (λd nd=>?_));refine zP (λ_=>rfl) nd (TD.of (OO.but _ _ OS (OY OS))) sz λO5 ds Q7 Rc Qe Qc n4 D=>?_;have QB:([x]++[c]++[r]++[o]).Nodup:=OO.nd;have Rx:O5 x=some _:=D _ _ Pw;refine B rfl (bi x CN dx _ O Rx T.aS T.hK (by show 3<1000;decide) ?_);have PD:∀b,b∈d::ds->OH b=none:=λb g=>by
  rcases rs.mp g with rfl|g
  ·exact nd
  ·exact n4 b g
 have xd:∀b,b∈d::ds->b≠x:=λb g z=>by have:=PD b g;rw[z,Pw]at this;cases this
 generalize PL:Uf O5 x (.ins CN dx (rc "departures" (.ref d) (rc "origins" (.ref o) (rc "runs" (.ref r) (rc "changes" (.ref c) [])))))=A;have P8:A x=some (.ins CN dx (rc "departures" (.ref d) (rc "origins" (.ref o) (rc "runs" (.ref r) (rc "changes" (.ref c) []))))):=by rw[<- PL];exact KE
 have O7:Ch [x] OH A:=by rw[<- PL];exact(D.but _).put (by simp)
 have Qa:∀b,b≠x->A b=O5 b:=λb g=>by rw[<- PL];exact UF g
 have Qk:A OT=some (.lst (chg.map W1.int)):=O7 _ _ (OO.but _ _ OS (OY OS)) (OY OS);refine B rfl (zn OT O ⟨_,TD.of Qk⟩ (λOQ Qm=>?_));refine zP (λ_=>rfl) Qm (TD.of Qk) sz λPx fs Q8 Rg QN QK n5 Qr=>?_;have Rz:Px x=some _:=Qr _ _ P8;refine B rfl (bi x CN dx _ O Rz T.aS T.mW (by show 4<1000;decide) ?_);have PK:∀b,b∈OQ::fs->A b=none:=λb g=>by
  rcases rs.mp g with rfl|g
  ·exact Qm
  ·exact n5 b g
 have Qw:∀b,b∈OQ::fs->b≠x:=λb g z=>by have:=PK b g;rw[z,P8]at this;cases this
 generalize PM:Uf Px x (.ins CN dx (rc "footpaths" (.ref OQ) (rc "departures" (.ref d) (rc "origins" (.ref o) (rc "runs" (.ref r) (rc "changes" (.ref c) []))))))=J;have Ry:J x=some (.ins CN dx (nf c r o d OQ)):=by rw[<- PM];exact KE
 have Pb:Ch [x] A J:=by rw[<- PM];exact(Qr.but _).put (by simp)
 have Qb:∀b,b≠x->J b=Px b:=λb g=>by rw[<- PM];exact UF g
 have Qs:∀b,b∈([x]++[c]++[r]++[o])->OH b≠none:=OO.there;have Rf:(([x]++[c]++[r]++[o])++(d::ds)).Nodup:=Ad QB Qs Rc PD;have Qt:∀b,b∈([x]++[c]++[r]++[o])++(d::ds)->A b≠none:=λb g=>by
  by_cases z:b=x
  ·rw[z,P8];simp
  ·rw[Qa b z];rcases cs.mp g with g|g
   ·cases q:OH b with
    |none=>exact absurd q (Qs b g)
    |some u=>rw[D b u q];simp
   ·rcases rs.mp g with rfl|g
    ·rw[Qe];simp
    ·rw[Qc b g];simp
 have Rh:(([x]++[c]++[r]++[o])++(d::ds)++(OQ::fs)).Nodup:=Ad Rf Qt Rg PK;obtain⟨Ri,QI⟩:=Kl Rh;have PZ:∀ {b:WF}{l:List W1}{P_:Hp},P_ b=some (.lst l)->(∃fl,P_ x=some (.ins CN dx fl))->b∉[x]:=λe RC=>by
  obtain⟨fl,QL⟩:=RC;simp only[sc];intro z;rw[z,QL]at e;cases e
 have QH:J c=some (.lst (chg.map W1.int)):=by
  have m:=PZ OJ ⟨_,Pt⟩;exact Pb _ _ (O7 _ _ (OI _ _ (Y _ _ OJ m) m) m) m
 have Rp:J r=some (.lst []):=by
  have m:=PZ OP ⟨_,Pu⟩;exact Pb _ _ (O7 _ _ (OI _ _ OP m) m) m
 have Rj:J o=some (.lst []):=by
  have m:=PZ PF ⟨_,Pw⟩;exact Pb _ _ (O7 _ _ PF m) m
 have Qd:∀b,b∈d::ds->J b=O5 b:=λb g=>by
  have q:A b=O5 b:=Qa b (xd b g);cases z:O5 b with
  |none=>exact absurd (q.trans z) (Qt b (fY _ g))
  |some u=>exact Pb _ _ (q.trans z) (by simp only[sc];exact xd b g)
 let Pa:ay:=⟨x,dx,c,r,o,d,OQ,ds,fs⟩
 have Qi:NB CN J Pa chg [] [] [] (λs=>dm (W.take 0) s):=by
  refine⟨Ri,Ry,wl.mpr ⟨QI,QH⟩,(Ix ([]) Rp (.nil)),(Ix ([]) Rj (.nil)),(Qd d (kw ..)).trans Qe,Q7.trans (FM ..),λs a C=>Ix ([]) ((Qd a (o0 _ (pi C))).trans (Qc a (pi C))) (.nil),(Qb OQ (Qw OQ (kw ..))).trans QN,Q8.trans (FM ..),λs a C=>Ix ([]) ((Qb a (Qw a (o0 _ (pi C)))).trans (QK a (pi C))) (.nil)⟩
 have QD:Ch [x] H J:=(OO.but.tr O7 λb g=>.inl g).tr Pb λb g=>.inl g;have Qh:∀b,b∈Pa.own->b=x\/H b=none:=λb g=>by
  by_cases z:b=x
  ·exact .inl z
  ·refine .inr ?_;have OR:b∈([x]++[c]++[r]++[o])++(d::ds)++(OQ::fs):=by
    simp only[ay.own,Pa,rs,cs,ip,g9]at g⊢;grind
   cases q:H b with
   |none=>rfl
   |some u=>
    exfalso;have m:b∉[x]:=by simpa using z
    rcases cs.mp OR with OR|OR
    ·rcases cs.mp OR with OR|OR
     ·rcases OO.fresh b OR with w|w
      ·exact z w
      ·rw[w]at q;cases q
     ·have:=PD b OR;rw[OO.but b u q m]at this;cases this
    ·have:=PK b OR;rw[O7 b u (OO.but b u q m) m]at this;cases this
 obtain⟨Wp,QV,fresh,Qx⟩:∃Wp:ay,NB CN J Wp chg [] [] [] (λs=>dm (W.take 0) s)/\(∀b,b∈Wp.own->b=x\/H b=none)/\Wp.x=x:=zn Pa Qi Qh O;clear Qi Qh
 clear_value Pa
 subst Qx;have PX:∀ {H2:Hp},Ch Wp.own J H2->Tl (hide [Wp.x] H) (hide Wp.own H2):=λ{H2} Y b u e=>by
  obtain⟨Pr,OZ⟩:=wl.mp e;have Qq:b∉Wp.own:=λz=>by
   rcases fresh b z with w|w
   ·exact Pr (by simp[w])
   ·rw[w]at OZ;cases OZ
  exact wl.mpr ⟨Qq,Y b u (QD b u OZ Pr) Qq⟩
 have O9:∀ {H2:Hp},Ch Wp.own J H2->∀b u,H b=some u->b∉[Wp.x]->H2 b=some u:=λY b u e m=>b7 _ _ _ _ (PX Y b u (wl.mpr ⟨m,e⟩));have Q9:Pz.length=Z.length:=Paired.length Qp;refine B rfl (zn Pm O ⟨_,TD.of (O9 (Ch.rfl' _ _) _ _ Po (OY Po))⟩ ?_)
 let Py:Nat->St->Hp->Prop:=λi ZB H2=>∃O0 O1 O2 O3 O4,ZB=[some (.ref Wp.x),some (.ref OT),some (.ref Pm),some (.ref O_),O0,O1,O2,O3,O4,none,none,none,none,none,none]/\
   NB CN H2 Wp chg ((Z.take i).map λy=>(y.2.1,y.2.2.1)) ((Z.take i).map (·.1)) (ei ((Z.take i).map (·.2))) (λs=>dm (W.take 0) s)/\Ch Wp.own J H2
 refine gM (K:=K) (a:=Pm) (xs:=Pz) Py
  (bZ none none none none none ⟨O,QV,Ch.rfl' _ _⟩) (λi ZB H2 _ RD=>by obtain⟨_,_,_,_,_,_,_,Y⟩:=RD;exact TD.of (O9 Y _ _ Po (OY Po))) ?_ ?_
 ·rintro i v ZB H2 hi ⟨O0,O1,O2,O3,O4,rfl,OU,Y⟩;obtain⟨y,OL,sa,QJ,QT,⟨ta,rfl,Pg⟩,Q3,QZ,Q0⟩:=eu Qp hi;have Q1:i<Z.length:=(aD.mp OL).1;have P9:=pi OL;have Q6:=PX Y;refine he ta _ O (pm.of (b7 _ _ _ _ (Q6 _ _ Pg))) O (io _ _ O (io _ _ O (io _ _ O (io _ _ O (IN _ _ O O ?_)))));obtain⟨os,Pd,po⟩:=OU.aZ;have RR:os.length=i:=by rw[Paired.length po,FM,aP];lia
  refine B rfl (b' Wp.x CN Wp.dx _ _ O OU.ob T.aS T.pG O (.inl ⟨O,⟨_,TD.of Pd⟩⟩) (B rfl (zn _ O (by show 2<=Gc;decide) (λt OX=>?_))));have to:Wp.o≠t:=λz=>OU.there (b:=Wp.o) (by simp[ay.own]) (by rw[z];exact OX);refine bb Wp.o os _ O O ((UF to).trans Pd) (small (by have:=OK.runs;lia)) ?_;have p:=OU.K6 OX Pd y.1;have OI:Ch Wp.own J (Uf (Uf H2 t (.tup (jY y.1))) Wp.o (.lst (os++[.ref t]))):=(Y.new OX).put (by simp[ay.own]);have PU:=PX OI;have PH:((Z.take i).map λy=>(y.2.1,y.2.2.1)).length=i:=by rw[FM,aP];lia
  have QO:(Z.map (·.2))[i]?=some y.2:=by rw[pr,OL];rfl
  have Qg:∀j,(Z.take j).map (·.2)=(Z.map (·.2)).take j:=λj=>by rw[nH]
  have zs:(ei ((Z.take i).map (·.2))).length+y.2.1.length<=1000000:=by
   have h1:=yb ((Z.take i).map (·.2));rw[ax]at h1;have h2:=rk (λy=>y.2.1.length) Z i;have RM:=OK.calls;have RN:y.2.1.length<=(Z.map λy=>y.2.1.length).sum:=by
    have:=jO (Z.map λy=>y.2.1.length) i;rw[np,pr,OL]at this;exact this
   have RO:((Z.take i).map ((λx=>x.1.length)∘λx=>x.2)).sum=((Z.take i).map λy=>y.2.1.length).sum:=rfl;lia
  refine B rfl (nw Wp.x Wp.dx _ O p.ob O (B rfl (B rfl (B rfl ⟨Wp,chg,_,_,_,_,sa,QJ,QT,y.2,O,p,PU _ _ Q3,PU _ _ QZ,PU _ _ Q0,(OK.goes y P9).1,(OK.goes y P9).2.1,(OK.goes y P9).2.2,by rw[PH];have:=OK.runs;lia,zs,λRJ QW QF=>?_⟩))));refine bZ _ _ _ _ _ ⟨O,?_,OI.tr QF λb g=>.inl g⟩;have OJ:(Z.take (i+1)).map (λy=>(y.2.1,y.2.2.1))=(Z.take i).map (λy=>(y.2.1,y.2.2.1))++[(y.2.1,y.2.2.1)]:=by rw[cB,OL,cK,bL];rfl
  have OP:(Z.take (i+1)).map (·.1)=(Z.take i).map (·.1)++[y.1]:=by rw[cB,OL,cK,bL];rfl
  rw[OJ,OP,Qg,E7 QO,<-Qg,<-PH];have:=QW;rw[PH]at this⊢;exact this
 ·rintro ZB H2 ⟨O0,O1,O2,O3,O4,rfl,OU,Y⟩;rw[Q9,dy]at OU;have RQ:PB.length=W.length:=Paired.length Qo;have Qv:O_∉[Wp.x]:=OY PQ;refine B rfl (IN O_ _ O (.inl (TD.of (O9 Y _ _ PQ Qv))) ⟨_,O,by lia,by have:=OK.walks.1;lia,?_⟩);have en:((PB.length:Nat):Int).toNat=W.length:=by lia
  let Py:Nat->St->Hp->Prop:=λi ZB OH=>∃O0 O1 O2 O3 O4 P7 P4 P5 P6,ZB=[some (.ref Wp.x),some (.ref OT),some (.ref Pm),some (.ref O_),O0,O1,O2,O3,O4,P7,P4,P5,P6,none,none]/\
    NB CN OH Wp chg (Z.map λy=>(y.2.1,y.2.2.1)) (Z.map (·.1)) (ei (Z.map (·.2))) (λs=>dm (W.take i) s)/\Ch Wp.own J OH
  refine kT Py
   ⟨_,_,_,_,_,_,_,_,_,O,OU,Y⟩ ?_ ?_
  ·rintro i ZB OH hi ⟨O0,O1,O2,O3,O4,P7,P4,P5,P6,rfl,p,OI⟩;have hi:i<W.length:=nZ hi en;have QM:(0:Int)+((i:Nat):Int)=((i:Nat):Int):=by lia
   show bh 9 (W1.int ((0:Int)+((i:Nat):Int))) _ _ _;rw[QM];obtain⟨⟨st,go,mi⟩,hw⟩:∃y,W[i]?=some y:=⟨_,g1 hi⟩;obtain⟨RS,Q5,⟨ta,rfl,Pg⟩⟩:=c5 Qo hw;have tx:ta∉[Wp.x]:=by simp only[sc];intro z;rw[z,Ph]at Pg;cases Pg
   have Q4:st<chg.length:=OK.walks.2 _ (pi hw);refine B rfl (B rfl (Db O_ _ _ _ O O (TD.of (O9 OI _ _ PQ Qv)) (lv Q5) (he ta _ O (pm.of (O9 OI _ _ Pg tx)) O (io _ _ O (io _ _ O (IN _ _ O O ?_))))));obtain⟨fa,Pc⟩:∃a,Wp.fs[st]?=some a:=⟨_,g1 (by rw[p.cY];exact Q4)⟩;obtain⟨es,OW,Pk⟩:=p.ft _ fa Pc;refine B rfl (wv Wp.x CN Wp.dx _ _ O p.ob T.aS T.mW O (B rfl (bi Wp.f _ _ _ O O (TD.of p.foot) (lv (show(Wp.fs.map W1.ref)[st]?=some (W1.ref fa) by rw[pr,Pc];rfl)) (.inl ⟨O,⟨_,TD.of OW⟩⟩) (B rfl (B rfl (zn _ O (by show 3<=Gc;decide) (λt OX=>?_)))))));have Rv:fa≠t:=λz=>p.there (k' Pc) (by rw[z];exact OX);have Q_:es.length<=1000000:=by
    have h1:es.length=_:=Paired.length Pk;have h2:(dm (W.take i) st).length<=(W.take i).length:=by
     unfold dm;rw[FM];refine dz (l7 ..) ?_;rw[Ct];exact tz _
    rw[aP]at h2;have:=OK.walks.1;lia
   refine bb fa es _ O O ((UF Rv).trans OW) (small Q_) ?_;refine⟨_,_,_,_,_,_,_,_,_,O,?_,(OI.new OX).put (k' Pc)⟩;have:=p.K5 OX Pc OW (go,mi,i);have QP:(λs=>dm (W.take (i+1)) s)=λs=>dm (W.take i) s++(if st=s then [(go,mi,i)]else []):=funext λs=>GQ hw s;rw[QP];exact this
  ·rintro ZB OH ⟨O0,O1,O2,O3,O4,P7,P4,P5,P6,rfl,p,OI⟩;rw[en,dy]at p;have Rb:=js.of p.nd;refine B rfl (wv Wp.x CN Wp.dx _ _ O p.ob T.aS T.hK O (zn Wp.d O ⟨_,TD.of p.af⟩ (λOM PY=>?_)));refine mP (xs:=Wp.ds.map W1.ref) (λi A=>∃(as:List WF) (U:List (List on)),as.length=i/\OM∉as/\A OM=some (.lst (as.map W1.ref))/\Paired (λa L=>∃es,A a=some (.lst es)/\Paired (λv e=>TupAt A v (aX e)) es L) as U/\(∀(s:Nat) (L:List on),U[s]?=some L->L.Perm (hH (ei (Z.map (·.2))) s)/\L.Pairwise iK)/\Tl OH A)
    ⟨[],[],O,by simp,KE,.nil,λs L e=>by simp at e,Tl.new PY⟩ (λi A _ RE=>by obtain⟨_,_,_,_,_,_,_,D⟩:=RE;exact TD.of (D _ _ p.af)) ?_ ?_
   ·rintro i v A hi ⟨as,U,Pj,P0,OV,O8,Pn,D⟩;obtain⟨a,C,rfl⟩:∃a,Wp.ds[i]?=some a/\v=W1.ref a:=by
     rw[pr]at hi;cases q:Wp.ds[i]? with
     |none=>rw[q]at hi;cases hi
     |some a=>rw[q]at hi;cases hi;exact Ix a O O
    obtain⟨es,OW,Pk⟩:=p.dep i a C;have RP:U.length=i:=by rw[<- Pj];exact(Paired.length O8).symm
    refine⟨O,?_⟩;dsimp only[iX];rw[No rfl];have Q1:i<1000000:=by
     have:=(aD.mp C).1;rw[p.e8]at this;have:=OK.n;lia
    refine B rfl ?_;dsimp only[j7];refine Lp (TD.of (D _ _ OW)) (aj (λ_ _ q=>(q.same (b7 _ _)).same D) Pk) λPJ Qy q Rm Rr Rl Pe=>?_;have P1:OM≠q:=λz=>by rw[z,Pe]at OV;cases OV
    have Ro:∀b,b∈as->b≠q:=λb g z=>by
     obtain⟨_,_,es,e,_⟩:=m_ O8 g;rw[z,Pe]at e;cases e
    refine zn _ ((UF P1).trans OV) (by rw[FM,Pj];exact small (by lia)) ⟨as++[q],U++[Qy],by rw[ls,Pj];rfl,?_,by rw[KE,bL];rfl,?_,λs L e=>?_,λb u e=>?_⟩
    ·intro z;rcases cs.mp z with z|z
     ·exact P0 z
     ·simp only[sc]at z;exact P1 z
    ·refine Paired.snoc ?_ (Ix PJ (by rw[UF (Ne.symm P1),KE]) (aj (λ_ _ z=>z.zN Pe OV) Rl));have:∀ {xs:List WF}{ys:List (List on)},(∀b,b∈xs->b≠q/\b≠OM)->Paired (λa L=>∃es,A a=some (.lst es)/\Paired (λv e=>TupAt A v (aX e)) es L) xs ys->Paired (λa L=>∃es,(Uf (Uf A q (.lst PJ)) OM (.lst (as.map W1.ref++[W1.ref q]))) a=some (.lst es)/\Paired (λv e=>TupAt (Uf (Uf A q (.lst PJ)) OM (.lst (as.map W1.ref++[W1.ref q]))) v (aX e)) es L) xs ys:=by
      intro xs ys hm Pl
      induction Pl with
      |nil=>exact .nil
      |@cons b y xs ys r t PR=>
       obtain⟨es,OJ,OP⟩:=r;obtain⟨m1,m2⟩:=hm b (kw ..);exact .cons (Ix es (by rw[UF m2,UF m1];exact OJ) (aj (λ_ _ z=>z.zN Pe OV) OP)) (PR λc QY=>hm c (o0 _ QY))
     exact this (λb g=>⟨Ro b g,λz=>P0 (by rw[<- z];exact g)⟩) O8
    ·by_cases Rn:s<U.length
     ·rw[ot Rn]at e;exact Pn s L e
     ·rw[oq (by lia)]at e;have QQ:s-U.length=0:=by
       cases OZ:s-U.length with
       |zero=>rfl
       |succ m=>rw[OZ]at e;simp at e
      rw[QQ]at e;cases e;have:s=i:=by lia
      subst this;exact⟨Rm,Rr⟩
    ·rw[UF (v0 e PY),UF (λz=>by have:=D b u e;rw[z,Pe]at this;cases this)];exact D b u e
   ·rintro A ⟨as,U,Pj,P0,OV,O8,Pn,D⟩;have RB:Wp.x≠OM:=v0 p.ob PY;refine B rfl (bi Wp.x CN Wp.dx _ O (D _ _ p.ob) T.aS T.hK (by show 5<1000;decide) ?_);generalize Qj:Uf A Wp.x (.ins CN Wp.dx (rc "departures" (.ref OM) (nf Wp.c Wp.r Wp.o Wp.d Wp.f)))=ON;have RA:ON Wp.x=some (.ins CN Wp.dx (nf Wp.c Wp.r Wp.o OM Wp.f)):=by rw[<- Qj];exact KE
    have O6:∀b u,A b=some u->b≠Wp.x->ON b=some u:=λb u e m=>by rw[<- Qj,UF m];exact e
    have Qu:∀b u,hide Wp.own OH b=some u->ON b=some u:=λb u e=>by
     obtain⟨Pr,OZ⟩:=wl.mp e;exact O6 b u (D _ _ OZ) λz=>Pr (by rw[z];simp[ay.own])
    have P2:Tl (hide Wp.own OH) ON:=Qu;have Rw:∀ {v:W1}{xs:List W1},TupAt A v xs->TupAt ON v xs:=λRF=>by obtain⟨a,e,C⟩:=RF;exact Ix a e (O6 _ _ C (λz=>by have q:=D _ _ p.ob;rw[z,q]at C;cases C))
    have Pq:∀b u,b∈Wp.own->b≠Wp.x->OH b=some u->ON b=some u:=λb u _ m e=>O6 b u (D _ _ e) m;obtain⟨Rq,PN,Pl⟩:=p.runs;obtain⟨os,Pd,po⟩:=p.aZ;have PV:U.length=chg.length:=by rw[<- Paired.length O8,Pj,FM,p.e8]
    let N:Nt:=⟨chg,Z.map λy=>(y.2.1,y.2.2.1),U,(s4 chg.length).map λs=>dm W s,Z.map (·.1)⟩
    have QX:ss chg (Z.map (·.2)) (Z.map (·.1)) W N:=by
     refine⟨O,O,by rw[ax];rfl,PV,by simp[N],λs Pf=>?_,λs Pf=>?_,λs Pf=>?_⟩
     ·have e:U[s]?=some (U.getD s []):=bV (by rw[PV];exact Pf) [];exact(Pn s _ e).1
     ·have e:U[s]?=some (U.getD s []):=bV (by rw[PV];exact Pf) [];exact(Pn s _ e).2
     ·show((s4 chg.length).map λs=>dm W s).getD s []=_;rw[np,pr,gy Pf];rfl
    have Pp:=λb (g:b=Wp.r\/b=Wp.o\/b=Wp.d\/b=Wp.f\/b∈Wp.ds\/b∈Wp.fs) (hm:b∈Wp.own)=>Ne.symm (Rb.x b hm g);have QU:f2 CN ON Wp.x N:=by
     refine⟨Wp.dx,Wp.c,Wp.r,Wp.o,OM,Wp.f,Rq,os,as.map W1.ref,Wp.fs.map W1.ref,RA,Qu _ _ p.yQ,Pq _ _ (by simp[ay.own]) (Pp _ (.inl rfl) (by simp[ay.own])) PN,aj (λv y q=>q.same P2) Pl,O6 _ _ OV (Ne.symm RB),?_,Pq _ _ (by simp[ay.own]) (Pp _ (.inr (.inr (.inr (.inl rfl)))) (by simp[ay.own])) p.foot,?_,Pq _ _ (by simp[ay.own]) (Pp _ (.inr (.inl rfl)) (by simp[ay.own])) Pd,aj (λv y q=>q.same P2) po⟩
     ·have:∀ {xs:List WF}{ys:List (List on)},Paired (λa L=>∃es,A a=some (.lst es)/\Paired (λv e=>TupAt A v (aX e)) es L) xs ys->Paired (λv x=>∃es,LstAt ON v es/\Paired (λv e=>TupAt ON v (aX e)) es x) (xs.map W1.ref) ys:=by
       intro xs ys Pl
       induction Pl with
       |nil=>exact .nil
       |@cons b y xs ys r t PR=>
        obtain⟨es,OJ,OP⟩:=r;exact .cons (Ix es (Ix b O (O6 _ _ OJ (λz=>by have q:=D _ _ p.ob;rw[z,q]at OJ;cases OJ))) (aj (λ_ _ z=>Rw z) OP)) PR
      exact this O8
     ·refine uO (by simp[N,p.cY]) λi v y hv OL=>?_;obtain⟨a,C,rfl⟩:∃a,Wp.fs[i]?=some a/\v=W1.ref a:=by
       rw[pr]at hv;cases q:Wp.fs[i]? with
       |none=>rw[q]at hv;cases hv
       |some a=>rw[q]at hv;cases hv;exact Ix a O O
      obtain⟨es,OW,Pk⟩:=p.ft i a C;have Q2:i<chg.length:=by have:=(aD.mp C).1;rw[p.cY]at this;exact this
      have OL:((s4 chg.length).map λs=>dm W s)[i]?=some y:=OL;rw[pr,gy Q2]at OL;cases OL;exact Ix es (Ix a O (Pq _ _ (k' C) (Pp _ (.inr (.inr (.inr (.inr (.inr (pi C)))))) (k' C)) OW)) (aj (λ_ _ q=>q.same P2) Pk)
    refine k ON N QX QU λb u e m=>?_;have Ra:b≠Wp.x:=by simpa using m
    exact O6 b u (D _ _ (O9 OI b u e m)) Ra)
end Dv
namespace L2
open PySem PySem.Spec PyProof.Rows
theorem y8 {b:Type}{ix:Nat->Nat}{xs ys:List b}(h:∀k,k<ys.length->xs[ix k]?=ys[k]?):(s4 ys.length).filterMap (λk=>xs[ix k]?)=ys:=by(
rw[Tw.kP (g:=λk=>ys[k]?) λk a=>h k (bR.mp a)];clear h
induction ys with
|nil=>rfl
|cons y ys c=>
 rw[bt,List.range_succ_eq_map,hn];simp only[ow,sV]
 congr 1)
theorem p3 (xs:List W1):eM xs none none (some (-1))=xs.reverse:=by(
unfold eM;rw[NF];show(nP ((xs.length:Int)-1) (-1) (-1)).filterMap (xs[·]?)=_;rw[Nq,sV];have:=y8 (ix:=λk=>xs.length-1-k) (xs:=xs) (ys:=xs.reverse) λk a=>by
 rw[fh]at a;rw[Ck a]
rw[fh]at this;exact this)
theorem zQ{K:wf}{g:TG}{te:TE}{w:Hp->Prop}(f:W1->List W1) (A:H1 D=none) (J:TD K H1 a xs) (hz:xs.length<=Gc)
  (step:∀x,x∈xs->∀(H:Hp) (Q:VK),Tl H1 H->(∀p,H p=none->Q (.ref p) (Uf H p (.tup (f x))))->g x (nm ZB vs) H λj H2=>nm j vs=nm ZB vs/\te j H2 Q)
  (post:∀(H:Hp) (as:List WF),as.length=xs.length->H D=some (.lst (as.map W1.ref))->Paired (λa x=>H a=some (.tup (f x))) as xs->Tl H1 H->(∀b,b∈as->H1 b=none)->w H):
  ∃W:Nat->Nat->Hp->Prop,(∃m,W 0 m (Uf H1 D (.lst [])))/\∀i m H,W i m H->
   ((cO K a).stop i H/\w H)\/((cO K a).go i H/\∃n:Hp->Prop,(∀I,n I->∃C,C<m/\W (i+1) C I)/\∀x I,(cO K a).eQ i H x I->g x (nm ZB vs) I λj H2=>nm j vs=nm ZB vs/\iX j H2 λb t=>
    if b=true then te j t λy u=>∃acc,u D=some (.lst acc)/\acc.length<Gc/\n (Uf u D (.lst (acc++[y])))else n t):=by(
refine mP (xs:=xs) (λi H=>∃as:List WF,as.length=i/\H D=some (.lst (as.map W1.ref))/\Paired (λa x=>H a=some (.tup (f x))) as (xs.take i)/\Tl H1 H/\∀b,b∈as->H1 b=none) ⟨[],O,KE,.nil,Tl.new A,λb c=>by simp at c⟩
 (λi H _ L=>by obtain⟨_,_,_,_,s,_⟩:=L;exact J.same s) ?_ (λH N=>by obtain⟨as,q,d,k,h,r⟩:=N;exact post H as q d (by rw[dy]at k;exact k) h r)
rintro i x H hi ⟨as,q,d,k,h,r⟩;have T:i<xs.length:=(aD.mp hi).1;refine step x (pi hi) H _ h λp l=>?_;have E:D≠p:=λz=>by rw[z,l]at d;cases d
refine zn (as.map W1.ref) ((UF E).trans d) (by rw[FM];lia) ⟨as++[p],by rw[ls,q];rfl,by rw[KE,bL];rfl,?_,λb o e=>?_,λb c=>?_⟩
·rw[cB,hi,cK];refine Paired.snoc (Dv.aj (λb y e=>?_) k) (by rw[UF (Ne.symm E),KE]);rw[UF (λz=>by rw[z,d]at e;cases e),UF (v0 e l)];exact e
·rw[UF (v0 e A),UF (λz=>by have:=h b o e;rw[z,l]at this;cases this)];exact h b o e
·rcases cs.mp c with c|c
 ·exact r b c
 ·simp only[sc]at c;rw[c];exact h.free l)
end L2
namespace Dv
open PySem L2 Tw
variable {P:fr}{w:g2}{K:wf}{mg:Str->Option Tk}{base:s2}{CP CN CS CL CG:WF}
noncomputable def j_ (H:Hp) (v:W1):List W1:=match v with
 |.ref a=>match H a with
  |some (.tup xs)=>xs
  |_=>[]
 |_=>[]
noncomputable def rl:List W1->List W1
 |[a,b,c]=>[b,a,c]
 |l=>l
noncomputable def Ab:W1->W1
 |.int i=>.int (-i)
 |v=>v
theorem AN{l:List Int}(h0:ZB[j]?=some (some (.ref a))) (h:TD K H a (l.map W1.int)) (hz:l.length<=Gc) (hv:∀x,nm ((nm ZB [v]).set v (some x)) [v]=nm ZB [v]) (hg:∀x,((nm ZB [v]).set v (some x))[v]?=some (some x))
  (k:∀p D,H p=none->H D=none->D≠p->Q (.ref D) (Uf (Uf H p (.lst (l.map W1.int).reverse)) D (.lst ((l.reverse.map λx=> -x).map W1.int)))):
  lD (ug K (vO K (bY j) ru ru (rv (vP (rU λi=>.int (-i)) (tC (.int 1)))))) (bh v) iX (vP (rU λi=>.int (-i)) (bY v)) [v] ZB H Q:=by(
refine B h0 (B rfl (B rfl ⟨a,_,O,h,(by intro z;cases z),?_,λp m=>?_⟩))
·show(eM (l.map W1.int) none none (some (-1))).length<=Gc;rw[p3,fh,FM];exact hz
·show ∃b,W1.ref p=W1.ref b/\_;have e:eM (l.map W1.int) none none (some (-1))=(l.map W1.int).reverse:=p3 _;rw[e];refine zn p O ⟨_,TD.of KE⟩ (λD c=>?_);have d:D≠p:=λz=>by rw[z,KE]at c;cases c
 refine pe Ab c (TD.of KE) (by rw[fh,FM];exact hz) (λx f H2 o q n=>?_) ?_
 ·rw[wj,mo]at f;obtain⟨i,_,rfl⟩:=f;exact⟨hv _,B (hg _) (Ix i O n)⟩
 ·have g:(l.map W1.int).reverse.map Ab=(l.reverse.map λx=> -x).map W1.int:=by
   rw[<- Cw,ax,ax];rfl
  rw[g];exact k p D m (by rw[UF d]at c;exact c) d)
noncomputable def gc (y:(Nat×Int)×aQ):(Nat×Int)×aQ:=(y.1,ut y.2)
def vy (CN:WF):Sp:=λvs H Q _=>∃(c d e:WF) (chg:List Int) (Z:List ((Nat×Int)×aQ)) (a b:List W1) (W:List Wk),vs=[.ref c,.ref d,.ref e]/\H c=some (.lst (chg.map W1.int))/\H d=some (.lst a)/\Paired (gb H) a Z/\
 H e=some (.lst b)/\Paired (oP H) b W/\oI chg Z W/\(∀y,y∈Z->y.2.2.1.length=y.2.1.length)/\(∀w,w∈W->w.2.1<chg.length)/\(∀y,y∈Z->y.2.1.length<=1000000)/\
 ∀(I:Hp) (n:WF) (N:Nt),ss chg ((Z.map (·.2)).map ut) (Z.map (·.1)) (W.map bD) N->f2 CN I n N->Tl H I->Q (.ref n) I
theorem ez:pu ["changes","runs","walks","runs_back","trip","begins","stops","comes","goes","came","gone","walks_back","go","come","start","goal","minutes"] zat (s1 qG):=nb rfl rfl rfl (by decide +kernel)
theorem JP(F:sB K "mirrored_network" "mirrored_network" qG f fd) (T:bg K mg CS CN) (P9:mg "Network"=some (.ref CN)) (TW:Mk K CN PJ)
  (Pt:AC P w K mg base xL 2 PJ PK zak (rd CN)) (Pw:Binds K PK zak []):AC P w K mg base xL 4 f fd zat (vy CN):=by(
refine F.ar ez (λvs H Q E h=>?_) (λQs Qn outer s0 H vs Q E PZ h=>?_)
·refine pU h λOT OO O9 chg Z OQ Pd W Ql=>?_;obtain⟨rfl,_⟩:=Ql;rfl
·intro Qp;refine pU h λOT OO O9 chg Z OQ Pd W Qm=>?_;obtain⟨rfl,PU,Pk,Pq,Pl,OY,r,Pj,P5,hsz,k⟩:=Qm;refine B (On (zS 3 ez (db PP))
  (On (cH bN rfl (cy (V 1)) (cw rfl (re (zG 4 ez) (re (zG 5 ez) (re (zG 6 ez) (re (zG 7 ez) (re (zG 8 ez) cx))))))
   (On (p4 (i:=9) (own:=[("go",12)]) rfl ez.nd rfl rfl rfl (cy (lh (V 8) fI fI (d2 (eL eP EQ)))) (fx rfl) (λ_ _ _ _ _=>zG 12 ez) (λ_ _ _ _ _=>gn) (λ_ _ _ _ _=>eL eP (V 12)))
   (On (p4 (i:=10) (own:=[("come",13)]) rfl ez.nd rfl rfl rfl (cy (lh (V 7) fI fI (d2 (eL eP EQ)))) (fx rfl) (λ_ _ _ _ _=>zG 13 ez) (λ_ _ _ _ _=>gn) (λ_ _ _ _ _=>eL eP (V 13)))
   (Fa (ca (cG cm da dc cZ (V 3) (UV (bX (UV (V 4) (UV (V 5) (UV (lh (V 6) fI fI (d2 (eL eP EQ))) (UV (V 9) (UV (V 10) PP)))))) PP)))))))
  (On (p4 (i:=11) (own:=[("start",14),("goal",15),("minutes",16)]) (g:=ua K 3 (kX (bh 14) (kX (bh 15) (kX (bh 16) t9)))) rfl ez.nd rfl rfl rfl (cy (V 2)) (fx rfl) (λ_ _ _ _ _=>cw rfl (re (zG 14 ez) (re (zG 15 ez) (re (zG 16 ez) cx)))) (λ_ _ _ _ _=>gn) (λ_ _ _ _ _=>bX (UV (V 15) (UV (V 14) (UV (V 16) PP)))))
  (Fa (tt (hN TW Pt (PZ.mono) rfl P9 Pw .nil ws (UV (V 0) (UV (V 3) (UV (V 11) PP))))))))) ?_
 refine⟨f4 _,λb OX=>?_⟩;have sz:∀ {m:Nat},m<=1000000->m<=Gc:=λh=>ed (small h);have P7:OQ.length=Z.length:=Paired.length Pq;refine B rfl (zn OO O ⟨_,TD.of ((Tl.new OX) _ _ Pk)⟩ ?_)
 let Pu:Nat->St->Hp->Prop:=λi ZB H2=>∃O3 O4 O5 O6 O7 O8 O2 bs,ZB=[some (.ref OT),some (.ref OO),some (.ref O9),some (.ref b),O3,O4,O5,O6,O7,O8,O2,none,none,none,none,none,none]/\H2 b=some (.lst bs)/\Paired (gb (hide [b] H2)) bs ((Z.take i).map gc)/\Tl H H2
 refine gM (K:=K) (a:=OO) (xs:=OQ) Pu
  (fc none none none none none none none ([]) ⟨O,KE,.nil,Tl.new OX⟩) (λi ZB H2 _ Qk=>by obtain⟨_,_,_,_,_,_,_,_,_,_,_,d⟩:=Qk;exact TD.of (d _ _ Pk)) ?_ ?_
 ·rintro i v ZB H2 hi ⟨O3,O4,O5,O6,O7,O8,O2,bs,rfl,J,OH,d⟩;obtain⟨y,s,sa,Qt,Qv,⟨ta,rfl,P2⟩,P0,PV,PX⟩:=eu Pq hi;have Qw:i<Z.length:=(aD.mp s).1;have O_:=pi s;have Qj:=hsz y O_;have Qz:=Pj y O_;have QA:=(r.goes y O_).1;refine he ta _ O (pm.of (d _ _ P2)) O (io _ _ O (io _ _ O (io _ _ O (io _ _ O (IN _ _ O O ?_)))));simp only[lE,hY];refine AN (j:=8) (v:=12) ?h0 (TD.of (d _ _ PX)) (sz (by lia)) ?hv ?hg λQe L Qc OW Qa=>?_
  case h0=>rfl
  case hv=>exact λ_=>rfl
  case hg=>exact λ_=>rfl
  generalize Pe:Uf (Uf H2 Qe (.lst (y.2.2.2.map W1.int).reverse)) L (.lst ((y.2.2.2.reverse.map λx=> -x).map W1.int))=l;have o:Tl H2 l:=by rw[<- Pe];exact(Tl.new Qc).tr (Tl.new (by rw[UF Qa];exact OW))
  have PF:l L=some (.lst ((y.2.2.2.reverse.map λx=> -x).map W1.int)):=by rw[<- Pe];exact KE
  simp only[bh,lE,hY];refine AN (j:=7) (v:=13) ?h0 (TD.of (o _ _ (d _ _ PV))) (sz (by lia)) ?hv ?hg λp2 U Qd Pn Qb=>?_
  case h0=>rfl
  case hv=>exact λ_=>rfl
  case hg=>exact λ_=>rfl
  generalize Pf:Uf (Uf l p2 (.lst (y.2.2.1.map W1.int).reverse)) U (.lst ((y.2.2.1.reverse.map λx=> -x).map W1.int))=A;have p:Tl l A:=by rw[<- Pf];exact(Tl.new Qd).tr (Tl.new (by rw[UF Qb];exact Pn))
  have PH:A U=some (.lst ((y.2.2.1.reverse.map λx=> -x).map W1.int)):=by rw[<- Pf];exact KE
  have OP:Tl H2 A:=o.tr p;have OM:A b=some (.lst bs):=OP _ _ J;have Qx:bs.length=i:=by rw[Paired.length OH,FM,aP];lia
  refine zn _ O (.inl ⟨O,⟨_,TD.of OM⟩⟩) (B rfl (B rfl (B rfl (B rfl (B rfl ⟨sa,_,O,TD.of (OP _ _ (d _ _ P0)),(by intro z;cases z),?_,λD Po=>?_⟩)))))
  ·show(eM (y.2.1.map Rs) none none (some (-1))).length<=Gc;rw[p3,fh,FM];exact sz Qj
  have Pz:eM (y.2.1.map Rs) none none (some (-1))=(y.2.1.reverse).map Rs:=by rw[p3,Cw]
  refine B rfl (zn _ O (by show 5<=Gc;decide) (λt Y=>?_));have PB:eM (y.2.1.map Rs) none none (some (-(1:Int)))=(y.2.1.reverse).map Rs:=Pz;rw[PB]at Y⊢;have Pr:D≠t:=λz=>by rw[<- z,KE]at Y;cases Y
  have Pp:A t=none:=by rw[UF (Ne.symm Pr)]at Y;exact Y
  have OR:b≠D:=v0 OM Po;have OS:b≠t:=v0 OM Pp;refine bb b bs _ O O (by rw[UF OS,UF OR];exact OM) (small (by have:=r.runs;lia)) ?_;generalize OL:Uf (Uf (Uf A D (.lst (y.2.1.reverse.map Rs))) t (.tup [Rs y.1.1,.int y.1.2,.ref D,.ref L,.ref U])) b (.lst (bs++[W1.ref t]))=C;have OK:∀c u,A c=some u->c≠b->C c=some u:=λc u e m=>by rw[<- OL,UF m,UF (v0 e Pp),UF (v0 e Po)];exact e
  have PY:Tl (hide [b] H2) (hide [b] C):=λc u e=>by
   obtain⟨OZ,O0⟩:=wl.mp e;exact wl.mpr ⟨OZ,OK c u (OP _ _ O0) (by simpa using OZ)⟩
  have Pb:L≠b:=λz=>by rw[z,J]at OW;cases OW
  have Pc:U≠b:=λz=>by have:=o _ _ J;rw[<- z,Pn]at this;cases this
  have ON:∀ {c:WF},c≠b->c∉[b]:=λm=>by simpa using m
  have PD:C b=some (.lst (bs++[W1.ref t])):=by rw[<- OL];exact KE
  have new:gb (hide [b] C) (W1.ref t) (gc y):=by
   refine nw D L U (Ix t O (wl.mpr ⟨ON (Ne.symm OS),?_⟩)) (wl.mpr ⟨ON (Ne.symm OR),?_⟩) (wl.mpr ⟨ON Pb,?_⟩) (wl.mpr ⟨ON Pc,?_⟩)
   ·rw[<- OL,UF (Ne.symm OS),KE];rfl
   ·rw[<- OL,UF (Ne.symm OR),UF Pr,KE];rfl
   ·exact OK _ _ (p _ _ PF) Pb
   ·exact OK _ _ PH Pc
  refine fc _ _ _ _ _ _ _ (bs++[W1.ref t]) ⟨O,PD,?_,λc u e=>OK c u (OP _ _ (d _ _ e)) (v0 e OX)⟩;rw[cB,s,cK,bL];exact Paired.snoc (aj (λ_ _ q=>q.same PY) OH) new
 ·rintro ZB H2 ⟨O3,O4,O5,O6,O7,O8,O2,bs,rfl,J,OH,d⟩;rw[P7,dy]at OH;refine B rfl (zn O9 O ⟨_,TD.of (d _ _ Pl)⟩ (λPa Pm=>?_));have P6:Pd.length=W.length:=Paired.length OY;refine zQ (λv=>rl (j_ H2 v)) Pm (TD.of (d _ _ Pl)) (sz (by have:=r.walks.1;lia)) (λv hv l Qo o OI=>?_) λl as P8 PQ Qh o Qu=>?_
  ·obtain⟨OJ,_,a,rfl,OU⟩:=m_ OY hv;have Ph:=d _ _ OU;have e:rl (j_ H2 (.ref a))=[Rs OJ.2.1,Rs OJ.1,.int OJ.2.2]:=by simp[j_,Ph,rl]
   rw[e]at OI;refine he a _ O (pm.of (o _ _ Ph)) O (io _ _ O (io _ _ O (he _ _ O O O (B rfl (B rfl (zn _ O (by show 3<=Gc;decide) OI))))))
  have Qr:b≠Pa:=v0 J Pm;have O1:Tl H l:=d.tr o;refine B rfl (B rfl (B rfl (λx dx nx P_ ne=>?_)));have p:Tl l (Uf (Uf l dx (.own x)) x (.ins CN dx [])):=(Tl.new P_).tr (Tl.new (by rw[UF (Ne.symm ne)];exact nx));have Qi:Tl (hide [b] H2) (hide [x] (Uf (Uf l dx (.own x)) x (.ins CN dx []))):=λc u e=>by
   obtain⟨OZ,O0⟩:=wl.mp e;have OI:=o _ _ O0;exact wl.mpr ⟨by simpa using v0 OI nx,p _ _ OI⟩
  have Qg:Paired (oP (Uf (Uf l dx (.own x)) x (.ins CN dx []))) (as.map W1.ref) (W.map bD):=by
   refine uO (by rw[FM,FM,P8,P6]) λi v y hv s=>?_;obtain⟨a,OU,rfl⟩:∃a,as[i]?=some a/\v=W1.ref a:=by
    rw[pr]at hv;cases q:as[i]? with
    |none=>rw[q]at hv;cases hv
    |some a=>rw[q]at hv;cases hv;exact Ix a O O
   obtain⟨Qy,P4,e⟩:=eu Qh OU;obtain⟨OJ,OV,Qq,rfl,PR⟩:=eu OY P4;rw[pr,OV]at s;cases s;refine Ix a O (p _ _ ?_);rw[e];simp[j_,d _ _ PR,rl,bD]
  have PL:oI chg (Z.map gc) (W.map bD):=by
   refine⟨r.n,by rw[FM];exact r.runs,?_,λy s=>?_,by rw[FM];exact r.walks.1,λOJ OV=>?_⟩
   ·rw[ax];have:((λy:(Nat×Int)×aQ=>y.2.1.length)∘gc)=λy=>y.2.1.length:=funext λy=>by simp[gc,ut]
    rw[this];exact r.calls
   ·obtain⟨z,hz,rfl⟩:=mo.mp s;have h1:=r.goes z hz;refine⟨by simp[gc,ut,Pj z hz],by simp only[gc,ut,fh];exact h1.2.1,λst P1=>h1.2.2 st (by simpa [gc,ut]using P1)⟩
   ·obtain⟨z,hz,rfl⟩:=mo.mp OV;exact P5 z hz
  refine⟨x,dx,OT,b,Pa,chg,Z.map gc,bs,as.map W1.ref,W.map bD,O,KE,p _ _ (O1 _ _ PU),p _ _ (o _ _ J),aj (λ_ _ q=>q.same Qi) OH,p _ _ PQ,Qg,PL,λC N Pg PM PN=>⟨O,?_⟩⟩;refine k C x N ?_ PM λc u e=>PN c u (p _ _ (O1 _ _ e)) (by simpa using v0 (O1 _ _ e) nx);have Px:(Z.map gc).map (·.2)=(Z.map (·.2)).map ut:=by rw[ax,ax];rfl
  have Py:(Z.map gc).map (·.1)=Z.map (·.1):=by rw[ax];rfl
  rw[Px,Py]at Pg;exact Pg)
abbrev qL:v2:=bj (na 15) 0
abbrev p':v2:=bj (na 15) 1
abbrev qa:v2:=bj (na 15) 2
abbrev qb:v2:=bj (na 15) 3
abbrev qW:v2:=bj (na 15) 4
abbrev qx:v2:=bj (na 15) 5
abbrev qt:v2:=bj (na 15) 6
abbrev qH:v2:=bj (na 15) 7
abbrev qR:v2:=bj (na 15) 8
abbrev qQ:v2:=bj (na 15) 9
abbrev qy:v2:=na 16
abbrev ql:v2:=na 17
abbrev qU:v2:=na 18
abbrev qi:v2:=na 44
abbrev qz:v2:=na 45
abbrev qA:v2:=na 46
structure PA where
 x:WF
 dx:WF
 c:WF
 t:WF
 w:WF
 l:WF
 n:WF
noncomputable def PA.own (A:PA):List WF:=[A.x,A.c,A.t,A.w,A.l,A.n]
noncomputable def pf (c t w l n:WF):List (Str×W1):=[("changes",.ref c),("trips",.ref t),("walks",.ref w),("lateness",.ref l),("networks",.ref n)]
def kG (G:Hp) (v:W1) (p:bu):Prop:=∃s b g,TupAt G v [Rs p.days,.ref s,.ref b,.ref g]/\G s=some (.lst (p.calls.map λa=>Rs a.halt))/\G b=some (.lst (p.calls.map λa=>Rs a.comes))/\G g=some (.lst (p.calls.map λa=>Rs a.goes))
def jw (G:Hp) (v:W1) (w:Sg45.Walk):Prop:=TupAt G v [Rs w.from_,Rs w.to,Rs w.minutes]
def jr (G:Hp) (o:Option W1) (x:Nat×Nat):Prop:=match o with
 |none=>x=(0,0)
 |some v=>TupAt G v [Rs x.1,Rs x.2]
def el (i d:Nat):List sw:=[im (i:Int),im (d:Int)]
structure kC (G:Hp) (lk:List (List sw×W1)) (ts:List bu):Prop where
 at_:∀(i d:Nat) (p:bu),ts[i]?=some p->d<7->jr G (it lk (el i d)) (p.late.getD d (0,0))
 no:∀(i d:Nat),ts.length<=i->it lk (el i d)=none
noncomputable def ck (z:Str) (d:Nat):List sw:=[jc z,im (d:Int)]
structure cd (CP CN:WF) (H:Hp) (A:PA) (T:t1) (m:Nat):Prop where
 nd:A.own.Nodup
 ob:H A.x=some (.ins CP A.dx (pf A.c A.t A.w A.l A.n))
 chg:H A.c=some (.lst (T.stops.map Rs))
 trips:∃ts,H A.t=some (.lst ts)/\Paired (kG (hide A.own H)) ts T.trips
 walks:∃e,H A.w=some (.lst e)/\Paired (jw (hide A.own H)) e T.walks
 late:∃lk,H A.l=some (.dT lk)/\lk.length<=m/\kC (hide A.own H) lk T.trips
 bo:∃b,H A.n=some (.dT b)/\b.length<=2*m/\∀(d:Nat),d<7->(∀v,it b (ck "forward" d)=some v->∃a N,v=W1.ref a/\f2 CN H a N/\ss (up T) (wT T d) (lm T d) (ol T) N)/\
  ∀v,it b (ck "mirrored" d)=some v->∃a N,v=W1.ref a/\f2 CN H a N/\ss (up T) ((wT T d).map ut) (lm T d) ((ol T).map bD) N
theorem kG.same(s:Tl G G') (h:kG G v p):kG G' v p:=by obtain⟨a,b,c,d,e,f,g⟩:=h;exact(nw a b c (d.same s) (s _ _ e) (s _ _ f) (s _ _ g))
theorem jw.same(s:Tl G G') (h:jw G v p):jw G' v p:=TupAt.same s h
theorem jr.same(s:Tl G G') (h:jr G o x):jr G' o x:=by(
cases o with
|none=>exact h
|some v=>exact TupAt.same s h)
theorem kC.same(s:Tl G G') (h:kC G lk ts):kC G' lk ts:=⟨λi d p a b=>(h.at_ i d p a b).same s,h.no⟩
section
variable {CP CN:WF}{H I:Hp}{A:PA}{T:t1}{m:Nat}
theorem cd.more(h:cd CP CN H A T m) (hm:m<=d):cd CP CN H A T d:=by
 obtain⟨lk,h1,h2,a⟩:=h.late;obtain⟨e,b,f,c⟩:=h.bo;exact {h with late:=zn lk h1 (by lia) a,bo:=zn e b (by lia) c}
theorem cd.same (h:cd CP CN H A T m) (s:Tl H I):cd CP CN I A T m:=by(
have c:Tl (hide A.own H) (hide A.own I):=λb o e=>by
 obtain⟨k,l⟩:=wl.mp e;exact wl.mpr ⟨k,s _ _ l⟩
obtain⟨ts,u,x⟩:=h.trips;obtain⟨C,y,z⟩:=h.walks;obtain⟨lk,h1,h2,n⟩:=h.late;obtain⟨t,p,r,j⟩:=h.bo;exact⟨h.nd,s _ _ h.ob,s _ _ h.chg,(Ix ts (s _ _ u) (aj (λ_ _ q=>q.same c) x)),(Ix C (s _ _ y) (aj (λ_ _ q=>q.same c) z)),(zn lk (s _ _ h1) h2 (n.same c)),(zn t (s _ _ p) r (λd hd=>⟨λv e=>by obtain⟨a,N,f,g,i⟩:=(j d hd).1 v e;exact(IN a N f (g.same s) i),λv e=>by obtain⟨a,N,f,g,i⟩:=(j d hd).2 v e;exact(IN a N f (g.same s) i)⟩))⟩)
theorem cd.there(h:cd CP CN H A T m) (a:b∈A.own):H b≠none:=by(
simp only[PA.own,rs,ip,g9]at a;rcases a with rfl|rfl|rfl|rfl|rfl|rfl
·rw[h.ob];simp
·rw[h.chg];simp
·obtain⟨_,e,_⟩:=h.trips;rw[e];simp
·obtain⟨_,e,_⟩:=h.walks;rw[e];simp
·obtain⟨_,e,_⟩:=h.late;rw[e];simp
·obtain⟨_,e,_⟩:=h.bo;rw[e];simp)
theorem la (h:A.own.Nodup) (i j:Nat) (e:decide (i<6/\j<6/\i≠j)=true):A.own[i]'(gB e).1≠A.own[j]'(gB e).2.1:=z' h i j _ _ (gB e).2.2
theorem cd.build(h:cd CP CN H A T m) (s:Tl (hide A.own H) (hide A.own I)) (ob:I A.x=H A.x) (chg:I A.c=some (.lst (T'.stops.map Rs))) (trips:∃ts,I A.t=some (.lst ts)/\Paired (kG (hide A.own I)) ts T'.trips)
  (walks:∃a,I A.w=some (.lst a)/\Paired (jw (hide A.own I)) a T'.walks) (late:∃lk,I A.l=some (.dT lk)/\lk.length<=b/\kC (hide A.own I) lk T'.trips)
  (bo:I A.n=some (.dT [])):cd CP CN I A T' b:=
 ⟨h.nd,ob.trans h.ob,chg,trips,walks,late,(zn ([]) bo (f4 _) (λd _=>⟨λv e=>by simp[it]at e,λv e=>by simp[it]at e⟩))⟩
end
structure bU (K:wf) (mg:Str->Option Tk) (CP:WF):Prop where
 cl:cE K CP
 chg:ao K CP "changes"
 trips:ao K CP "trips"
 walks:ao K CP "walks"
 late:ao K CP "lateness"
 bo:ao K CP "networks"
 len:mg "len"=none
 range:mg "range"=none
 zip:mg "zip"=none
 c2:a_ mg "OUT_OF_RANGE" (-2)
 c4:a_ mg "CANNOT_RUN" (-4)
 c8:a_ mg "FULL" (-8)
 ms:a_ mg "MOST_STOPS" 256
 mt:a_ mg "MOST_TRIPS" 1024
 mw:a_ mg "MOST_WALKS" 4096
 md:a_ mg "MINUTES_OF_A_DAY" 1440
 mi:a_ mg "MINUTES_TOLD" 2880
 dw:a_ mg "DAYS_OF_A_WEEK" 7
theorem j0{K:wf}{lo:Int}(a:∀R:VK,R (.int d) H->tb ZB H R) (k:Q (.bl (decide (lo<=d)&&decide (d<=hi))) H):ro (d3 λi j=>.bl (decide (i<=j))) (d3 λi j=>.bl (decide (i<=j))) (tC (.int lo)) tb (tC (.int hi)) ZB H Q:=by(
refine a _ (IN _ _ O O (B rfl ?_));by_cases h0:lo<=d
·rw[No (sK h0)];rw[sK h0]at k;exact IN _ _ O O k
·rw[Ps (by simpa using h0)];rw[sn h0]at k;exact k)
theorem p5{K:wf}{lo:Int}(a:∀R:VK,R (.int d) H->tb ZB H R) (b:∀R:VK,R (.int hi) H->tc ZB H R) (k:Q (.bl (decide (lo<=d)&&decide (d<hi))) H):ro (d3 λi j=>.bl (decide (i<=j))) (d3 λi j=>.bl (decide (i<j))) (tC (.int lo)) tb tc ZB H Q:=by(
refine a _ (IN _ _ O O (B rfl ?_));by_cases h0:lo<=d
·rw[No (sK h0)];rw[sK h0]at k;exact b _ (IN _ _ O O k)
·rw[Ps (by simpa using h0)];rw[sn h0]at k;exact k)
def ra:Sp:=λvs H Q _=>∃(d:Int),vs=[.int d]/\Q (.bl (decide (0<=d)&&decide (d<7))) H
theorem L6:pu ["day"] ["day"] (s1 qy):=nb rfl rfl rfl (by decide +kernel)
theorem JI(F:sB K "is_day" "is_day" qy f fd) (T:bU K mg CP):AC P w K mg base xL 1 f fd ["day"] ra:=by(
refine F.ar L6 (λvs H Q E h=>?_) (λb A outer s H vs Q E c h=>?_)
·obtain⟨d,rfl,_⟩:=h;rfl
·intro a;obtain⟨d,rfl,k⟩:=h;exact B (Fa (tt (p0 cv d1 EQ (V 0) (nl T.dw rfl)))) (p5 (K:=K) (λR q=>B rfl q) (λR q=>q) k))
def rb:Sp:=λvs H Q _=>∃(d:Int),vs=[.int d]/\Q (.bl (decide (0<=d)&&decide (d<2880))) H
theorem L7:pu zao zao (s1 qz):=nb rfl rfl rfl (by decide +kernel)
theorem JJ(F:sB K "is_minute" "is_minute" qz f fd) (T:bU K mg CP):AC P w K mg base xL 1 f fd zao rb:=by(
refine F.ar L7 (λvs H Q E h=>?_) (λb A outer s H vs Q E c h=>?_)
·obtain⟨d,rfl,_⟩:=h;rfl
·intro a;obtain⟨d,rfl,k⟩:=h;exact B (Fa (tt (p0 cv d1 EQ (V 0) (nl T.mi rfl)))) (p5 (K:=K) (λR q=>B rfl q) (λR q=>q) k))
def j6:Sp:=λvs H Q _=>∃(d:Int),vs=[.int d]/\Q (.bl (decide (0<=d)&&decide (d<=4096))) H
theorem L8:pu zai zai (s1 qA):=nb rfl rfl rfl (by decide +kernel)
theorem JK(F:sB K "is_most" "is_most" qA f fd) (c:a_ mg "MOST_ROWS" 4096):AC P w K mg base xL 1 f fd zai j6:=by(
refine F.ar L8 (λvs H Q E h=>?_) (λb A outer s H vs Q E e h=>?_)
·obtain⟨d,rfl,_⟩:=h;rfl
·intro a;obtain⟨d,rfl,k⟩:=h;exact B (Fa (tt (p0 cv cv EQ (V 0) (nl c rfl)))) (j0 (K:=K) (λR q=>B rfl q) k))
def q' (CP CN:WF):Sp:=λvs H Q _=>∃(A:PA) (T:t1) (m:Nat) (d:Int),vs=[.ref A.x,.int d]/\cd CP CN H A T m/\Q (.bl (decide (0<=d)&&decide (d<(T.stops.length:Int)))) H
theorem L5:pu zal zal (s1 qx):=nb rfl rfl rfl (by decide +kernel)
theorem JH(F:sB K "has_stop" "Plan.has_stop" qx f fd) (T:bU K mg CP):AC P w K mg base xL 1 f fd zal (q' CP CN):=by(
refine F.ar L5 (λvs H Q E h=>?_) (λl i outer s H vs Q E n h=>?_)
·refine jX h λA a m d e _=>?_;subst e;rfl
·intro j;refine Kh h λA a m d g=>?_;obtain⟨rfl,b,k⟩:=g;refine B (Fa (tt (p0 cv d1 EQ (V 1) (a0 b6 (by rfl) T.len b0 (UV (wS (V 0) rfl) PP))))) (p5 (K:=K) (hi:=(a.stops.length:Int)) (λR q=>B rfl q) (λR q=>?_) k);refine B rfl (wv A.x CP A.dx _ _ O b.ob T.cl T.chg O (IN A.c _ O (.inl (TD.of b.chg)) ?_));rw[FM];exact q)
noncomputable def pK (T:t1) (a b d t:Int):Bool:=(decide (0<=a)&&decide (a<(T.stops.length:Int)))&&((decide (0<=b)&&decide (b<(T.stops.length:Int)))&&((decide (0<=d)&&decide (d<7))&&(decide (0<=t)&&decide (t<2880))))
theorem jS (T:t1) (a b d t:Int):pK T a b d t=b1 T a b d t:=by(
unfold pK b1 eV u8;have c:decide (a<(T.stops.length:Int))=decide (a<=(T.stops.length:Int)-1):=by rw[ir];lia
have e:decide (b<(T.stops.length:Int))=decide (b<=(T.stops.length:Int)-1):=by rw[ir];lia
have f:decide (d<7)=decide (d<=6):=by rw[ir];lia
have g:decide (t<2880)=decide (t<=2879):=by rw[ir];lia
rw[c,e,f,g])
def hW (CP CN:WF):Sp:=λvs H Q _=>∃(A:PA) (T:t1) (m:Nat) (a b d t:Int),vs=[.ref A.x,.int a,.int b,.int d,.int t]/\cd CP CN H A T m/\Q (.bl (pK T a b d t)) H
theorem L1:pu zac zac (s1 qi):=nb rfl rfl rfl (by decide +kernel)
theorem Jt(F:sB K "can_ask" "can_ask" qi f fd) (T:bU K mg CP) (i:AC P w K mg base xL 1 C J zal (q' CP CN)) (j:Binds K J zal []) (r:cf K CP "has_stop" C)
  (u:AC P w K mg base xL 1 p D ["day"] ra) (y:Binds K D ["day"] []) (Y:mg "is_day"=some (.ref p)) (N:cV K (.ref p)=true)
  (GM:AC P w K mg base xL 1 q L zao rb) (z:Binds K L zao []) (OH:mg "is_minute"=some (.ref q)) (U:cV K (.ref q)=true):AC P w K mg base xL 2 f fd zac (hW CP CN):=by(
refine F.ar L1 (λvs H Q E h=>?_) (λOM OK outer s H vs Q E g h=>?_)
·refine pT h λA c m a b d t OI _=>?_;subst OI;rfl
·intro OL;refine pS h λA c m a b d t OJ=>?_;obtain⟨rfl,e,k⟩:=OJ;refine B (Fa (tt (uP (aA (V 0) T.cl r i g j .nil ws (UV (V 1) PP)) (uP (aA (V 0) T.cl r i g j .nil ws (UV (V 2) PP)) (uP (ge u g rfl Y N y .nil ws (UV (V 3) PP)) (KJ (ge GM g rfl OH U z .nil ws (UV (V 4) PP)))))))) ?_;unfold pK at k;refine B rfl (nw A.x A.dx _ O e.ob O (B rfl (dQ A c m a ⟨O,e,B rfl ?_⟩)));cases l:(decide (0<=a)&&decide (a<(c.stops.length:Int)))with
 |false=>rw[l]at k;exact v6 k
 |true=>
  rw[l,n_]at k;refine wn (B rfl (nw A.x A.dx _ O e.ob O (B rfl (dQ A c m b ⟨O,e,B rfl ?_⟩))));cases n:(decide (0<=b)&&decide (b<(c.stops.length:Int)))with
  |false=>rw[n]at k;exact v6 k
  |true=>
   rw[n,n_]at k;refine wn (B rfl (Ix d O (B rfl ?_)));cases o:(decide (0<=d)&&decide (d<7))with
   |false=>rw[o]at k;exact v6 k
   |true=>
    rw[o,n_]at k;exact wn (B rfl (Ix t O k)))
structure oN (T:t1):Prop where
 stops:T.stops.length<=256
 trips:T.trips.length<=1024
 walks:T.walks.length<=4096
 late:∀p,p∈T.trips->p.late.length=7
theorem mH{D:Ends}(h0:ZB[0]?=some (some (.ref x))) (c:H x=some (.ins C dx fs)) (b:H q=none) (cl:cE K C) (e:ao K C fl) (hf:fs.length<1000)
  (k:∀(I:Hp),Ch [x] H I->I q=some u->I x=some (.ins C dx (rc fl (.ref q) fs))->D.nx ZB I):
  bY 0 ZB (Uf H q u) λf H2=>∃a C dx fs,f=.ref a/\H2 a=some (.ins C dx fs)/\cE K C/\ao K C fl/\fs.length<1000/\D.nx ZB (Uf H2 a (.ins C dx (rc fl (.ref q) fs))):=by
 have d:x≠q:=v0 c b;refine B h0 (bi x C dx fs O ((UF d).trans c) cl e hf (k _ (((Ch.rfl' _ _).new b).put (by simp)) ?_ KE));rw[UF (Ne.symm d),KE]
def vB (CP CN:WF):Sp:=λvs H Q _=>∃(x dx:WF),vs=[.ref x]/\H x=some (.ins CP dx [])/\
 ∀(I:Hp) (A:PA),A.x=x->cd CP CN I A eb 0->Ch [x] H I->(∀b,b∈A.own->b=x\/H b=none)->Q .ak I
theorem L':pu zaa zaa (s1 qL):=nb rfl rfl rfl (by decide +kernel)
theorem JU(F:sB K "__init__" "Plan.__init__" qL f fd) (T:bU K mg CP):AC P w K mg base xL 1 f fd zaa (vB CP CN):=by(
refine F.ar L' (λvs H Q E h=>?_) (λO3 OZ outer s H vs Q E O4 h=>?_)
·refine iS h λx dx OX=>?_;obtain⟨rfl,_⟩:=OX;rfl
·intro O2;refine Do h λx dx OY N k=>?_;subst OY;refine B (On (bq (V 0) (db PP) rfl) (On (bq (V 0) (db PP) rfl) (On (bq (V 0) (db PP) rfl) (On (bq (V 0) Ay rfl) (Fa (bq (V 0) Ay rfl)))))) ?_;have ON:=eh.start (lc N);refine⟨f4 _,λc OI=>mH rfl N OI T.cl T.chg (by decide) λH1 OT A g=>?_⟩;have OO:=ON.step OT (lc N) (lc g) OI (lc A);refine⟨f4 _,λt OK=>mH rfl g OK T.cl T.trips (by show 1<1000;decide) λH2 Y D j=>?_⟩;have OP:=OO.step Y (lc g) (lc j) OK (lc D);refine⟨f4 _,λOW OL=>mH rfl j OL T.cl T.walks (by show 2<1000;decide) λO0 y J m=>?_⟩;have OQ:=OP.step y (lc j) (lc m) OL (lc J);refine λl OJ=>mH rfl m OJ T.cl T.late (by show 3<1000;decide) λO1 b L r=>?_;have OR:=OQ.step b (lc m) (lc r) OJ (lc L);refine λn nn=>mH rfl r nn T.cl T.bo (by show 4<1000;decide) λOS a OH OM=>?_;have u:=OR.step a (lc r) (lc OM) nn (lc OH);have nx:∀ {q:WF}{U:Hp}{o:HO},U q=some o->(∃C dx fs,U x=some (.ins C dx fs))->(∀C dx fs,o≠.ins C dx fs)->q∉[x]:=λe ⟨C,dx,fs,OU⟩ OV=>by
  simp only[sc];intro z;rw[z,OU]at e;exact OV _ _ _ (b2 e).symm
 have n1:=nx A (b_ _ _ _ g) (λ_ _ _ z=>by cases z);have n2:=nx D (b_ _ _ _ j) (λ_ _ _ z=>by cases z);have n3:=nx J (b_ _ _ _ m) (λ_ _ _ z=>by cases z);have n4:=nx L (b_ _ _ _ r) (λ_ _ _ z=>by cases z);refine k OS ⟨x,dx,c,t,OW,l,n⟩ rfl ⟨u.nd,OM,a _ _ (b _ _ (y _ _ (Y _ _ A n1) n1) n1) n1,(Ix ([]) (a _ _ (b _ _ (y _ _ D n2) n2) n2) (.nil)),(Ix ([]) (a _ _ (b _ _ J n3) n3) (.nil)),(zn ([]) (a _ _ L n4) (tz _) ⟨λi d p e=>by simp[eb]at e,λi d _=>M9⟩),(zn ([]) OH (f4 _) (λd _=>⟨λv e=>by simp[it]at e,λv e=>by simp[it]at e⟩))⟩ u.but u.fresh)
theorem cd.clear(h:cd CP CN H A T m):cd CP CN (Uf H A.n (.dT [])) A T m/\hide A.own (Uf H A.n (.dT []))=hide A.own H:=by
 have n:=la h.nd;have a:hide A.own (Uf H A.n (.dT []))=hide A.own H:=fD (by simp[PA.own]);obtain⟨ts,e,f⟩:=h.trips;obtain⟨j,g,i⟩:=h.walks;obtain⟨lk,b,c,d⟩:=h.late;refine⟨h.build (by rw[a];exact Tl.rfl' _) (UF (n 0 5 rfl)) ((UF (n 1 5 rfl)).trans h.chg) (Ix ts ((UF (n 2 5 rfl)).trans e) (by rw[a];exact f)) (Ix j ((UF (n 3 5 rfl)).trans g) (by rw[a];exact i)) (zn lk ((UF (n 4 5 rfl)).trans b) c (by rw[a];exact d)) KE,a⟩
def hX (CP CN:WF) (args:List Int->Option c9) (n:Nat):Sp:=λvs H Q _=>∃(A:PA) (T:t1) (m:Nat) (l:List Int) (c:c9),vs=W1.ref A.x::l.map W1.int/\l.length=n/\args l=some c/\cd CP CN H A T m/\oN T/\m<=1000/\
 ∀I,cd CP CN I A (Ev T c).2 (m+1)->Ch A.own H I->Q (.int (Ev T c).1.code) I
noncomputable def kJ:List Int->Option c9
 |[c]=>some (.halt c)
 |_=>none
theorem LU:pu zau zau (s1 p'):=nb rfl rfl rfl (by decide +kernel)
theorem Ji(F:sB K "add_stop" "Plan.add_stop" p' f fd) (T:bU K mg CP):AC P w K mg base xL 1 f fd zau (hX CP CN kJ 1):=by(
refine F.ar LU (λvs H Q E h=>?_) (λOM OK outer s H vs Q E OO h=>?_)
·refine gR h λA a m l c OI o _=>?_;subst OI;simp[o]
·intro OL;refine gS h λA a m l c OJ o y b hT hm k=>?_;subst OJ;obtain⟨ch,rfl⟩:=k3 o;cases y;refine B (On (jp (bQ (jZ cv cv EQ (V 1) EQ)) (Fa (tt (nl T.c2 rfl))) ii)
  (On (jp (ga c0 (a0 b6 (by rfl) T.len b0 (UV (wS (V 0) rfl) PP)) (nl T.ms rfl) (li _)) (Fa (tt (nl T.c8 rfl))) ii)
  (On (ca (lb n' oa sy pE (wS (V 0) rfl)))
  (On (ca (cG cm da dc cZ (wS (V 0) rfl) (UV (V 1) PP)))
  (Fa (tt (kt gP (a0 b6 (by rfl) T.len b0 (UV (wS (V 0) rfl) PP)) EQ))))))) ?_
 obtain⟨OQ,p,_⟩:=b.bo;refine j0 (K:=K) (d:=ch) (λR q=>B rfl q) (B rfl ?_);cases e:(decide (0<=ch)&&decide (ch<=120))with
 |false=>
  have i:Ev a (.halt ch)=(bM (-2),a):=by simp only[Ev,u8,e,a9]
  rw[i]at k;exact wn (k H (b.more (by lia)) (Ch.rfl' _ _))
 |true=>
  refine v6 ?_;refine B rfl (wv A.x CP A.dx _ _ O b.ob T.cl T.chg O (he A.c _ O (.inl (TD.of b.chg)) O (B rfl ?_)));by_cases c:a.stops.length=256
  ·have i:Ev a (.halt ch)=(bM (-8),a):=by simp only[Ev,u8,e,c,a9,c',aK]
   rw[i]at k;rw[sK (by rw[FM,c];rfl)];exact wn (k H (b.more (by lia)) (Ch.rfl' _ _))
  ·have i:Ev a (.halt ch)=(bM a.stops.length,{a with stops:=a.stops++[ch.toNat]}):=by simp only[Ev,u8,e,c,c',aK]
   rw[i]at k;rw[sn (by rw[FM];intro z;injection z with z;lia)];refine v6 ?_;refine B rfl (b' A.x CP A.dx _ _ O b.ob T.cl T.bo O (.inr (.inr (.inl ⟨O,.inr ⟨_,p⟩⟩))) (he A.n _ O O p ?_));obtain⟨g,ON⟩:=b.clear;refine B rfl (b' A.x CP A.dx _ _ O g.ob T.cl T.chg O (.inl ⟨O,⟨_,TD.of g.chg⟩⟩) (B rfl (bb A.c _ _ O O g.chg (small (by rw[FM];have:=hT.stops;lia)) ?_)));have n:=la b.nd;have j:hide A.own (Uf (Uf H A.n (.dT [])) A.c (.lst (a.stops.map Rs++[W1.int ch])))=hide A.own (Uf H A.n (.dT [])):=fD (by simp[PA.own]);refine B rfl (wv A.x CP A.dx _ _ O ((UF (n 0 1 rfl)).trans g.ob) T.cl T.chg O (IN A.c _ O (.inl (TD.of KE)) (IN _ _ O O ?_)));obtain⟨ts,L,N⟩:=g.trips;obtain⟨OH,U,Y⟩:=g.walks;obtain⟨lk,D,OP,J⟩:=g.late;have C:0<=ch:=by simp only[ev,dL]at e;exact e.1
   have r:(a.stops++[ch.toNat]).map Rs=a.stops.map Rs++[W1.int ch]:=by
    rw[bL];simp only[m0,hr,Rs,fi C]
   have u:Ch A.own H (Uf (Uf H A.n (.dT [])) A.c (.lst (a.stops.map Rs++[W1.int ch]))):=((Ch.rfl' _ _).put (by simp[PA.own])).put (by simp[PA.own]);have:=k (Uf (Uf H A.n (.dT [])) A.c (.lst (a.stops.map Rs++[W1.int ch]))) (g.build (T':= {a with stops:=a.stops++[ch.toNat]}) (by rw[j];exact Tl.rfl' _) (UF (n 0 1 rfl)) (by rw[r];exact KE) (Ix ts ((UF (n 2 1 rfl)).trans L) (by rw[j];exact N)) (Ix OH ((UF (n 3 1 rfl)).trans U) (by rw[j];exact Y)) (zn lk ((UF (n 4 1 rfl)).trans D) (by lia) (by rw[j];exact J)) ((UF (n 5 1 rfl)).trans KE)) u;have t:((a.stops.map Rs++[W1.int ch]).length:Int)-1=(a.stops.length:Int):=by rw[ls,FM,bK];lia
   show Q (W1.int (((a.stops.map Rs++[W1.int ch]).length:Int)-1)) _;rw[t];exact this)
theorem Bu (T:t1) (a:Int):(decide (0<=a)&&decide (a<(T.stops.length:Int)))=eV T a:=by(
unfold eV u8;have b:decide (a<(T.stops.length:Int))=decide (a<=(T.stops.length:Int)-1):=by rw[ir];lia
rw[b])
noncomputable def kK:List Int->Option c9
 |[a,b,m]=>some (.walk a b m)
 |_=>none
theorem LV:pu zav zav (s1 qb):=nb rfl rfl rfl (by decide +kernel)
theorem Jk(F:sB K "add_walk" "Plan.add_walk" qb f fd) (T:bU K mg CP) (OJ:AC P w K mg base xL 1 OU OV zal (q' CP CN)) (OK:Binds K OV zal []) (OP:cf K CP "has_stop" OU):AC P w K mg base xL 2 f fd zav (hX CP CN kK 3):=by(
refine F.ar LV (λvs H Q E h=>?_) (λPb O_ outer s H vs Q E ON h=>?_)
·refine gR h λA g m l c O8 Y _=>?_;subst O8;simp[Y]
·intro Pa;refine gS h λA g m l c O9 Y OX i hT hm k=>?_;subst O9;obtain⟨a,b,mi,rfl⟩:=pz Y;cases OX;refine B (On (jp (PW.pt (ew (bQ (cz (aA (V 0) T.cl OP OJ ON OK .nil ws (UV (V 1) PP)))) (ew (bQ (cz (aA (V 0) T.cl OP OJ ON OK .nil ws (UV (V 2) PP)))) (gU (bQ (jZ cv cv EQ (V 3) EQ)))))) (Fa (tt (nl T.c2 rfl))) ii)
  (On (jp (ga c0 (a0 b6 (by rfl) T.len b0 (UV (wS (V 0) rfl) PP)) (nl T.mw rfl) (li _)) (Fa (tt (nl T.c8 rfl))) ii)
  (On (ca (lb n' oa sy pE (wS (V 0) rfl)))
  (On (ca (cG cm da dc cZ (wS (V 0) rfl) (UV (bX (UV (V 1) (UV (V 2) (UV (V 3) PP)))) PP)))
  (Fa (tt (kt gP (a0 b6 (by rfl) T.len b0 (UV (wS (V 0) rfl) PP)) EQ))))))) ?_
 obtain⟨Pe,OM,_⟩:=i.bo;obtain⟨O7,O4,O5⟩:=i.walks;have OO:O7.length=g.walks.length:=Paired.length O5;have N:(eV g a&&(eV g b&&u8 mi 0 240))=false->Q (.int (-2)) H:=λe=>by
  have y:Ev g (.walk a b mi)=(bM (-2),g):=by simp only[Ev,e,a9]
  rw[y]at k;exact k H (i.more (by lia)) (Ch.rfl' _ _)
 refine B rfl (nw A.x A.dx _ O i.ob O (B rfl (dQ A g m a ⟨O,i,B rfl ?_⟩)));rw[Bu];cases p:eV g a with
 |false=>exact wn (wn (N (by rw[p];rfl)))
 |true=>
  refine v6 (B rfl (nw A.x A.dx _ O i.ob O (B rfl (dQ A g m b ⟨O,i,B rfl ?_⟩))));rw[Bu];cases u:eV g b with
  |false=>exact wn (wn (N (by rw[p,u];rfl)))
  |true=>
   refine v6 ?_;refine j0 (K:=K) (d:=mi) (λR q=>B rfl q) (B rfl ?_);cases J:(decide (0<=mi)&&decide (mi<=240))with
   |false=>exact wn (N (by rw[p,u];exact J))
   |true=>
    have all:(eV g a&&(eV g b&&u8 mi 0 240))=true:=by rw[p,u];exact J
    refine v6 ?_;refine B rfl (wv A.x CP A.dx _ _ O i.ob T.cl T.walks O (he A.w _ O (.inl (TD.of O4)) O (B rfl ?_)));by_cases c:g.walks.length=4096
    ·have y:Ev g (.walk a b mi)=(bM (-8),g):=by simp only[Ev,all,c,a9,c',aK]
     rw[y]at k;rw[sK (by rw[OO,c];rfl)];exact wn (k H (i.more (by lia)) (Ch.rfl' _ _))
    ·have y:Ev g (.walk a b mi)=(bM g.walks.length,{g with walks:=g.walks++[⟨a.toNat,b.toNat,mi.toNat⟩]}):=by simp only[Ev,all,c,c',aK]
     rw[y]at k;rw[sn (by rw[OO];intro z;injection z with z;lia)];refine v6 ?_;refine B rfl (b' A.x CP A.dx _ _ O i.ob T.cl T.bo O (.inr (.inr (.inl ⟨O,.inr ⟨_,OM⟩⟩))) (he A.n _ O O OM ?_));obtain⟨o,Pc⟩:=i.clear;obtain⟨D,OR,OS⟩:=o.walks;obtain⟨ts,O2,O3⟩:=o.trips;obtain⟨lk,OY,Pd,OZ⟩:=o.late;have n:=la i.nd;have O0:D.length=g.walks.length:=Paired.length OS;refine B rfl (b' A.x CP A.dx _ _ O o.ob T.cl T.walks O (.inl ⟨O,⟨_,TD.of OR⟩⟩) (B rfl (B rfl (zn _ O (by show 3<=Gc;decide) (λt OH=>?_)))));have OI:∀j,j∈A.own->j≠t:=λj U z=>o.there U (by rw[z];exact OH);refine bb A.w _ _ O O ((UF (OI A.w (by simp[PA.own]))).trans OR) (small (by have:=hT.walks;lia)) ?_;generalize C:Uf (Uf (Uf H A.n (.dT [])) t (.tup [W1.int a,W1.int b,W1.int mi])) A.w (.lst (D++[W1.ref t]))=H2;have L:Tl (hide A.own (Uf H A.n (.dT []))) (hide A.own H2):=by rw[<- C];exact pH (by simp[PA.own]) OH
     have r:∀j,j∈A.own->j≠A.w->H2 j=(Uf H A.n (.dT [])) j:=λj U O1=>by rw[<- C,UF O1,UF (OI j U)]
     have OL:H2 A.w=some (.lst (D++[W1.ref t])):=by rw[<- C];exact KE
     have OQ:t∉A.own:=λz=>OI t z rfl;have O6:jw (hide A.own H2) (W1.ref t) ⟨a.toNat,b.toNat,mi.toNat⟩:=by
      refine Ix t O (wl.mpr ⟨OQ,?_⟩);rw[<- C,UF (λz=>OQ (by rw[z];simp[PA.own])),KE];unfold eV u8 at p u;simp only[ev,dL]at p u J;simp only[Rs,fi p.1,fi u.1,fi J.1]
     refine B rfl (wv A.x CP A.dx _ _ O ((r A.x (by simp[PA.own]) (n 0 3 rfl)).trans o.ob) T.cl T.walks O (IN A.w _ O (.inl (TD.of OL)) (IN _ _ O O ?_)));have OW:Ch A.own H H2:=by rw[<- C];exact(((Ch.rfl' _ _).put (by simp[PA.own])).new OH).put (by simp[PA.own])
     have:=k H2 (o.build (T':= {g with walks:=g.walks++[⟨a.toNat,b.toNat,mi.toNat⟩]}) L (r A.x (by simp[PA.own]) (n 0 3 rfl)) ((r A.c (by simp[PA.own]) (n 1 3 rfl)).trans o.chg) (Ix ts ((r A.t (by simp[PA.own]) (n 2 3 rfl)).trans O2) (aj (λ_ _ q=>q.same L) O3)) (B OL (Paired.snoc (aj (λ_ _ q=>q.same L) OS) O6)) (zn lk ((r A.l (by simp[PA.own]) (n 4 3 rfl)).trans OY) (by lia) (OZ.same L)) ((r A.n (by simp[PA.own]) (n 5 3 rfl)).trans KE)) OW;have OT:((D++[W1.ref t]).length:Int)-1=(g.walks.length:Int):=by rw[ls,O0,bK];lia
     show Q (W1.int (((D++[W1.ref t]).length:Int)-1)) _;rw[OT];exact this)
noncomputable def kI:List Int->Option c9
 |[p,d,i,m]=>some (.late p d i m)
 |_=>none
theorem Mb:pu zaw zaw (s1 qW):=nb rfl rfl rfl (by decide +kernel)
theorem J3(F:sB K "tell_late" "Plan.tell_late" qW f fd) (T:bU K mg CP) (Pb:AC P w K mg base xL 1 OZ Pj ["day"] ra) (Pc:Binds K Pj ["day"] []) (Pw:mg "is_day"=some (.ref OZ)) (Pq:cV K (.ref OZ)=true):AC P w K mg base xL 2 f fd zaw (hX CP CN kI 4):=by(
refine F.ar Mb (λvs H Q E h=>?_) (λPL PJ outer s H vs Q E O2 h=>?_)
·refine gR h λA a m l c PF OU _=>?_;subst PF;simp[OU]
·intro PK;refine gS h λA a m l c PH OU Pm r hT hm k=>?_;subst PH;obtain⟨p,d,i,mi,rfl⟩:=d0 OU;cases Pm;have hu:=hI O2;have Pn:=hT.late;refine B (On (jp (PW.pt (ew (bQ (jZ cv d1 EQ (V 1) (a0 b6 (by rfl) T.len b0 (UV (wS (V 0) rfl) PP)))) (gU (bQ (cz (ge Pb O2 rfl Pw Pq Pc .nil ws (UV (V 2) PP))))))) (Fa (tt (nl T.c2 rfl))) ii)
  (On (jp (PW.pt (ew (bQ (jZ cv cv EQ (V 3) EQ)) (gU (bQ (jZ cv cv EQ (V 4) EQ))))) (Fa (tt (nl T.c2 rfl))) ii)
  (On (ca (lb n' oa sy pE (wS (V 0) rfl)))
  (On (ni hu (wS (V 0) rfl) (bX (UV (V 1) (UV (V 2) PP))) (bX (UV (V 3) (UV (V 4) PP))) rfl)
  (Fa (tt EQ)))))) ?_
 obtain⟨PN,O1,_⟩:=r.bo;obtain⟨ts,OQ,OJ⟩:=r.trips;have Pt:ts.length=a.trips.length:=Paired.length OJ;have Px:(decide (0<=p)&&decide (p<(ts.length:Int)))=u8 p 0 ((a.trips.length:Int)-1):=by
  rw[Pt];unfold u8;have g:decide (p<(a.trips.length:Int))=decide (p<=(a.trips.length:Int)-1):=by rw[ir];lia
  rw[g]
 have Pe:(decide (0<=d)&&decide (d<7))=u8 d 0 6:=by
  unfold u8;have g:decide (d<7)=decide (d<=6):=by rw[ir];lia
  rw[g]
 have OK:(u8 p 0 ((a.trips.length:Int)-1)&&(u8 d 0 6&&(u8 i 0 63&&u8 mi 0 240)))=false->Q (.int (-2)) H:=λe=>by
  have OS:Ev a (.late p d i mi)=(bM (-2),a):=by simp only[Ev,e,a9]
  rw[OS]at k;exact k H (r.more (by lia)) (Ch.rfl' _ _)
 refine p5 (K:=K) (d:=p) (hi:=(ts.length:Int)) (λR q=>B rfl q) (λR q=>B rfl (wv A.x CP A.dx _ _ O r.ob T.cl T.trips O (IN A.t _ O (.inl (TD.of OQ)) q))) (B rfl ?_);rw[Px];cases ep:u8 p 0 ((a.trips.length:Int)-1)with
 |false=>exact wn (wn (OK (by rw[ep];rfl)))
 |true=>
  refine v6 (B rfl (Ix d O (B rfl ?_)));rw[Pe];cases D:u8 d 0 6 with
  |false=>exact wn (OK (by rw[ep,D];rfl))
  |true=>
   refine v6 ?_;dsimp only[rr,lE,vK,BE,BD,rx];refine j0 (K:=K) (d:=i) (λR q=>B rfl q) (B rfl ?_);cases N:(decide (0<=i)&&decide (i<=63))with
   |false=>exact wn (wn (OK (by rw[ep,D,show u8 i 0 63=false from N];rfl)))
   |true=>
    refine v6 ?_;refine j0 (K:=K) (d:=mi) (λR q=>B rfl q) (B rfl ?_);cases OM:(decide (0<=mi)&&decide (mi<=240))with
    |false=>exact wn (OK (by rw[ep,D,show u8 i 0 63=true from N,show u8 mi 0 240=false from OM];rfl))
    |true=>
     have all:(u8 p 0 ((a.trips.length:Int)-1)&&(u8 d 0 6&&(u8 i 0 63&&u8 mi 0 240)))=true:=by rw[ep,D,show u8 i 0 63=true from N,show u8 mi 0 240=true from OM];rfl
     have OS:Ev a (.late p d i mi)=(bM 0,{a with trips:=a.trips.mapIdx λk x=>if k=p.toNat then {x with late:=x.late.set d.toNat (i.toNat,mi.toNat)}else x}):=by simp only[Ev,all,c',aK]
     rw[OS]at k;refine v6 ?_;refine B rfl (b' A.x CP A.dx _ _ O r.ob T.cl T.bo O (.inr (.inr (.inl ⟨O,.inr ⟨_,O1⟩⟩))) (he A.n _ O O O1 ?_));obtain⟨o,PM⟩:=r.clear;obtain⟨O_,O8,O9⟩:=o.walks;obtain⟨ts,OQ,OJ⟩:=o.trips;obtain⟨lk,O5,Pr,OW⟩:=o.late;have n:=la r.nd;generalize ON:Uf H A.n (.dT [])=H1 at o O_ O8 O9 ts OQ OJ lk O5 Pr OW;refine B rfl (zn _ O (by show 2<=Gc;decide) (λtv OX=>?_));have OR:∀b,b∈A.own->b≠tv:=λb J z=>o.there J (by rw[z];exact OX);refine B rfl (wv A.x CP A.dx _ _ O ((UF (OR A.x (by simp[PA.own]))).trans o.ob) T.cl T.late O (B rfl (zn _ O (by show 2<=Gc;decide) (λtk OH=>?_))));have O4:tk≠tv:=λz=>by rw[z,KE]at OH;cases OH
     have O6:H1 tk=none:=by rw[UF O4]at OH;exact OH
     have O3:∀b,b∈A.own->b≠tk:=λb J z=>o.there J (by rw[z];exact O6);simp only[u8,ev,dL]at ep D N OM;have Pg:(el p.toNat d.toNat).map kV=[W1.int p,W1.int d]:=by
      simp only[el,m0,hr,kV,fi ep.1,fi D.1]
     refine IN A.l _ O (f7.t (k:=el p.toNat d.toNat) ((UF (O3 A.l (by simp[PA.own]))).trans ((UF (OR A.l (by simp[PA.own]))).trans O5)) (by rw[Pg];exact KE) (small (by lia))) ?_;generalize U:Uf (Uf (Uf H1 tv (.tup [W1.int i,W1.int mi])) tk (.tup [W1.int p,W1.int d])) A.l (.dT (aC lk (el p.toNat d.toNat) (W1.ref tv)))=H2;have L:∀b,b∈A.own->b≠A.l->H2 b=H1 b:=λb J Pu=>by rw[<- U,UF Pu,UF (O3 b J),UF (OR b J)]
     have OO:Tl (hide A.own H1) (hide A.own H2):=λb u e=>by
      obtain⟨OP,OI⟩:=wl.mp e;refine wl.mpr ⟨OP,?_⟩;rw[<- U,UF (λz=>OP (by rw[z];simp[PA.own])),UF (v0 OI O6),UF (v0 OI OX)];exact OI
     have Ph:H2 A.l=some (.dT (aC lk (el p.toNat d.toNat) (W1.ref tv))):=by rw[<- U];exact KE
     have O7:tv∉A.own:=λz=>OR tv z rfl;have PD:hide A.own H2 tv=some (.tup [Rs i.toNat,Rs mi.toNat]):=by
      refine wl.mpr ⟨O7,?_⟩;rw[<- U,UF (λz=>O7 (by rw[z];simp[PA.own])),UF (Ne.symm O4),KE];simp only[Rs,fi N.1,fi OM.1]
     have Pl:Ch A.own H H2:=by
      rw[<- U,<-ON];refine Ch.put (Ch.new (Ch.new ((Ch.rfl' _ _).put (by simp[PA.own])) (by rw[ON];exact OX)) ?_) (by simp[PA.own]);rw[ON];exact OH
     refine k H2 (o.build (T':= {a with trips:=a.trips.mapIdx λk x=>if k=p.toNat then {x with late:=x.late.set d.toNat (i.toNat,mi.toNat)}else x}) OO (L A.x (by simp[PA.own]) (n 0 4 rfl)) ((L A.c (by simp[PA.own]) (n 1 4 rfl)).trans o.chg) (Ix ts ((L A.t (by simp[PA.own]) (n 2 4 rfl)).trans OQ) ?_) (Ix O_ ((L A.w (by simp[PA.own]) (n 3 4 rfl)).trans O8) (aj (λ_ _ q=>q.same OO) O9)) (zn _ Ph ?_ ⟨λY d' PQ g Pf=>?_,λY d' O0=>?_⟩) ((L A.n (by simp[PA.own]) (n 5 4 rfl)).trans (by rw[<- ON];exact KE))) Pl
     ·refine uO (by rw[wh];exact Paired.length OJ) λj v y hv OV=>?_;obtain⟨Pa,Pp,PB⟩:=eu OJ hv;rw[Co,Pp]at OV;simp only[ih,hk]at OV;refine k9 (PB.same OO) λsa Pd Pk OP OI Py Pz=>?_;have:y.days=Pa.days/\y.calls=Pa.calls:=by rw[<- OV];split<;>exact⟨O,O⟩
      exact nw sa Pd Pk (by rw[this.1];exact OP) (by rw[this.2];exact OI) (by rw[this.2];exact Py) (by rw[this.2];exact Pz)
     ·unfold aC;split
      ·rw[FM];lia
      ·rw[ls,bK];lia
     ·rw[kb];rw[Co]at g;cases OL:a.trips[Y]? with
      |none=>rw[OL]at g;cases g
      |some C=>
       rw[OL]at g;simp only[ih,hk]at g;have aG:=(OW.at_ Y d' C OL Pf).same OO;by_cases OT:Y=p.toNat
       ·rw[No OT]at g;subst g;by_cases OY:d'=d.toNat
        ·subst OT OY;rw[No rfl];have Po:d.toNat<C.late.length:=by
          have:=Pn C (pi OL);lia
         show jr _ _ ((C.late.set d.toNat (i.toNat,mi.toNat)).getD d.toNat (0,0));rw[Tw.gW Po,No rfl];exact Ix tv O PD
        ·rw[Ps (λz=>by simp only[el,kq]at z;have:=z.2.1;injection this with this;lia)];show jr _ _ ((C.late.set d.toNat (i.toNat,mi.toNat)).getD d' (0,0));have:(C.late.set d.toNat (i.toNat,mi.toNat)).getD d' (0,0)=C.late.getD d' (0,0):=by
          rw[np,sU (Ne.symm OY),<-np]
         rw[this];exact aG
       ·rw[Ps OT]at g;subst g;rw[Ps (λz=>by simp only[el,kq]at z;have:=z.1;injection this with this;lia)];exact aG
     ·rw[wh]at O0;rw[kb,Ps (λz=>by simp only[el,kq]at z;have:=z.1;injection this with this;lia)];exact OW.no Y d' O0)
end Dv
namespace L2
open PySem
theorem GV{g:TG}{tb:TS}{D:Ends}(Pv:Nat->St->Hp->Prop) (h0:Pv 0 ZB H) (w:∀i ZB H,i<=xs.length->Pv i ZB H->TD K H a xs/\TD K H b ys/\TD K H c zs) (E:ys.length=xs.length) (hz:zs.length=xs.length)
  (A:∀i x y z T ZB H,xs[i]?=some x->ys[i]?=some y->zs[i]?=some z->Pv i ZB H->H T=none->g (.ref T) ZB (Uf H T (.tup [x,y,z])) λh H2=>tb {D with nx:=Pv (i+1),ct:=Pv (i+1),bk:=D.nx} h H2) (hd:∀ZB H,Pv xs.length ZB H->D.nx ZB H):
  ∃W:Nat->Nat->St->Hp->Prop,(∃m,W 0 m ZB H)/\∀i m ZB H,W i m ZB H->
   ((ml K a b c).stop i H/\D.nx ZB H)\/((ml K a b c).go i H/\∃N:St->Hp->Prop,(∀f I,N f I->∃k,k<m/\W (i+1) k f I)/\∀x I,(ml K a b c).eQ i H x I->g x ZB I λh H2=>tb {D with nx:=N,ct:=N,bk:=D.nx} h H2):=by(
refine Ix (λi m ZB H=>m=xs.length-i/\i<=xs.length/\Pv i ZB H) (zn xs.length (by simp) (f4 _) h0) ?_;rintro i m ZB H ⟨rfl,hi,p⟩;obtain⟨d,l,n⟩:=w i ZB H hi p;by_cases j:i<xs.length
·have o:xs[i]?=some xs[i]:=g1 j;have q:ys[i]?=some (ys[i]'(by lia)):=g1 (by lia);have r:zs[i]?=some (zs[i]'(by lia)):=g1 (by lia);refine .inr ⟨(i1 xs ys zs _ _ _ ⟨d,l,n,o,q,r⟩),Ix (Pv (i+1)) (λf I C=>⟨xs.length-(i+1),by lia,O,j,C⟩) (λv I y=>?_)⟩;obtain⟨T,x,y,z,rfl,hT,rfl,s,t,u⟩:=y;exact A i x y z T ZB H (s xs d) (t ys l) (u zs n) p hT
·have e:i=xs.length:=by lia
 subst e;exact .inl ⟨(Ix xs d (tz _)),hd ZB H p⟩)
end L2
namespace Dv
open PySem L2 Tw
variable {P:fr}{w:g2}{K:wf}{mg:Str->Option Tk}{base:s2}{CP CN CS CL CG:WF}
noncomputable def hQ (n:Int):Int->List (Int×Int×Int)->Bool
 |_,[]=>true
 |gone,(s,c,g)::l=>if n<=s\/c<gone\/g<c\/2880<=g then false else hQ n g l
def vo:Sp:=λvs H Q _=>∃(s c g:WF) (l:List (Int×Int×Int)) (n:Int),vs=[.ref s,.ref c,.ref g,.int n]/\H s=some (.lst (l.map λx=>W1.int x.1))/\H c=some (.lst (l.map λx=>W1.int x.2.1))/\H g=some (.lst (l.map λx=>W1.int x.2.2))/\
 ∀I,Tl H I->Q (.bl (hQ n 0 l)) I
theorem lz:pu ["stops","comes","goes","stop_count","gone","stop","come","go"] zax (s1 ql):=nb rfl rfl rfl (by decide +kernel)
theorem Jw(F:sB K "can_run" "can_run" ql f fd) (T:bU K mg CP):AC P w K mg base xL 1 f fd zax vo:=by(
refine F.ar lz (λvs H Q E h=>?_) (λON OL outer s0 H vs Q E OO h=>?_)
·refine hL h λs c g l n OJ _=>?_;subst OJ;rfl
·intro OM;refine hM h λs c g l n OK J D hg k=>?_;subst OK;refine B (On (zS 4 lz EQ)
  (On (cH bN rfl (KS rfl T.zip (UV (V 0) (UV (V 1) (UV (V 2) PP)))) (cw rfl (re (zG 5 lz) (re (zG 6 lz) (re (zG 7 lz) cx))))
   (On (jp (PW.pt (ew (ga k8 (V 5) (V 3) (li _)) (ew (ga d1 (V 6) (V 4) (li _)) (ew (ga d1 (V 7) (V 6) (li _)) (gU (ga k8 (V 7) (nl T.mi rfl) (li _))))))) (Fa (tt m')) ii)
   (Fa (zS 4 lz (V 7)))))
  (Fa (tt m')))) ?_
 refine B rfl (B rfl (B rfl (i1 s c g _ _ _ ⟨O,TD.of J,TD.of D,TD.of hg,?_⟩)))
 let U:Nat->St->Hp->Prop:=λi ZB H2=>∃gone u A C,ZB=[some (.ref s),some (.ref c),some (.ref g),some (.int n),some (.int gone),u,A,C]/\hQ n 0 l=hQ n gone (l.drop i)/\Tl H H2
 refine GV U
  (dQ 0 none none none ⟨O,O,Tl.rfl' _⟩) (λi ZB H2 _ OI=>by obtain⟨_,_,_,_,_,_,j⟩:=OI;exact⟨TD.of (j _ _ J),TD.of (j _ _ D),TD.of (j _ _ hg)⟩) (by rw[FM,FM]) (by rw[FM,FM]) ?_ ?_
 ·rintro i x y z t ZB H2 m r hz ⟨gone,u,A,C,rfl,e,j⟩ OH;rw[pr]at m r hz;cases q:l[i]? with
  |none=>rw[q]at m;cases m
  |some p=>
   obtain⟨a,b,d⟩:=p;rw[q]at m r hz;cases m;cases r;cases hz;have L:=(aD.mp q);have Y:l.drop i=(a,b,d)::l.drop (i+1):=by rw[xY L.1,L.2]
   rw[Y]at e;have N:Tl H (Uf H2 t (.tup [W1.int a,W1.int b,W1.int d])):=j.tr (Tl.new OH);refine he t _ O (pm.of KE) O (io _ _ O (io _ _ O (IN _ _ O O ?_)));have o:(n<=a\/b<gone\/d<b\/2880<=d)->Q (.bl false) (Uf H2 t (.tup [W1.int a,W1.int b,W1.int d])):=λh=>by
    have:=k _ N;rw[e]at this;simp only[hQ,No h]at this;exact this
   refine B rfl (B rfl (IN _ _ O O (B rfl ?_)));by_cases c1:n<=a
   ·rw[sK c1];exact wn (wn (o (.inl c1)))
   rw[sn c1];refine v6 (B rfl (B rfl (IN _ _ O O (B rfl ?_))));by_cases c2:b<gone
   ·rw[sK c2];exact wn (wn (o (.inr (.inl c2))))
   rw[sn c2];refine v6 (B rfl (B rfl (IN _ _ O O (B rfl ?_))));by_cases c3:d<b
   ·rw[sK c3];exact wn (wn (o (.inr (.inr (.inl c3)))))
   rw[sn c3];refine v6 (B rfl (IN _ _ O O (B rfl ?_)));by_cases c4:2880<=d
   ·rw[sK c4];exact wn (o (.inr (.inr (.inr c4))))
   rw[sn c4];refine v6 (B rfl (dQ d _ _ _ ⟨O,?_,N⟩));rw[e];simp only[hQ];rw[Ps (by lia)]
 ·rintro ZB H2 ⟨gone,u,A,C,rfl,e,j⟩;rw[FM,Cy]at e;have:=k H2 j;rw[e]at this;exact this)
noncomputable def cQ:List Int->List (Int×Int×Int)
 |a::b::c::l=>(a,b,c)::cQ l
 |_=>[]
theorem BL:∀(l:List Int) (n i:Nat),l.length=3*n->i<n->(cQ l)[i]?=some (l.getD (3*i) 0,l.getD (3*i+1) 0,l.getD (3*i+2) 0)
 |a::b::c::l,n,0,_,_=>rfl
 |a::b::c::l,n,i+1,h,hi=>by
  have:=BL l (n-1) i (by simp at h;lia) (by lia);show(cQ l)[i]?=_;rw[this];have d:3*(i+1)=3*i+1+1+1:=by lia
  simp[d,List.getD_cons_succ]
 |[],n,i,h,hi=>by simp at h;lia
 |[_],n,i,h,hi=>by simp at h;lia
 |[_,_],n,i,h,hi=>by simp at h;lia
theorem BM:∀(l:List Int) (n:Nat),l.length=3*n->(cQ l).length=n
 |[],n,h=>by simp at h;simp[cQ];lia
 |[_],n,h=>by simp at h;lia
 |[_,_],n,h=>by simp at h;lia
 |a::b::c::l,n,h=>by
  have:=BM l (n-1) (by simp at h;lia);show(cQ l).length+1=n;rw[this];simp at h;lia
theorem AB (l:List Int) (n k:Nat) (h:l.length=3*n) (c:0<n) (b:k<3):eM (l.map W1.int) (some (k:Int)) none (some 3)=(s4 n).map λi=>W1.int (l.getD (3*i+k) 0):=by(
have e:fR (some (k:Int)) none (some 3) (l.map W1.int).length=((k:Int),((3*n:Nat):Int),3):=by
 rw[FM,h];unfold fR;simp only[xp,show(3:Int)>0 by decide,a9];rw[Ps (by lia)]
 congr 1
 lia
unfold eM;rw[e];show(nP (k:Int) ((3*n:Nat):Int) 3).filterMap ((l.map W1.int)[·]?)=_;have a:nP (k:Int) ((3*n:Nat):Int) 3=(s4 n).map λi=>3*i+k:=by
 unfold nP;simp only[show(3:Int)>0 by decide,a9];rw[No (by lia)];have:((((3*n:Nat):Int)-(k:Int)+3-1)/3).toNat=n:=by lia
 rw[this];refine eE λi _=>?_;lia
rw[a,sV];have:=y8 (ix:=λi=>3*i+k) (xs:=l.map W1.int) (ys:=(s4 n).map λi=>W1.int (l.getD (3*i+k) 0)) λi hi=>by
 simp only[FM,fZ]at hi;rw[IA (by lia) 0,pr,gy hi];rfl
simp only[FM,fZ]at this;exact this)
theorem u0 {a:Type}(f:Int×Int×Int->a) (l:List Int) (n:Nat) (h:l.length=3*n):(cQ l).map f=(s4 n).map λi=>f (l.getD (3*i) 0,l.getD (3*i+1) 0,l.getD (3*i+2) 0):=by(
apply wi;intro i;by_cases hi:i<n
·rw[pr,BL l n i h hi,pr,gy hi];rfl
·rw[ik (by rw[FM,BM l n h];lia),ik (by simp;lia)])
noncomputable def iG (x:Int×Int×Int):xc:=⟨x.1.toNat,x.2.1.toNat,x.2.2.toNat⟩
theorem tO:∀l:List Int,fV (cL l)=(cQ l).map iG
 |[]=>rfl
 |[_]=>rfl
 |[_,_]=>rfl
 |a::b::c::l=>by
  show⟨a.toNat,b.toNat,c.toNat⟩::fV (cL l)=_;rw[tO l];rfl
theorem vS:∀(l:List Int),(∀z,z∈l->0<=z)->∀x,x∈cQ l->0<=x.1/\0<=x.2.1/\0<=x.2.2
 |[],_,x,h=>by simp[cQ]at h
 |[_],_,x,h=>by simp[cQ]at h
 |[_,_],_,x,h=>by simp[cQ]at h
 |a::b::c::l,h0,x,h=>by
  rcases rs.mp h with rfl|h
  ·exact⟨h0 a (by simp),h0 b (by simp),h0 c (by simp)⟩
  ·exact vS l (λz hz=>h0 z (by simp[hz])) x h
noncomputable def iL (g:Int):List (Int×Int×Int)->Bool
 |[]=>true
 |x::_=>decide (g<=x.2.1)
theorem A5 (T:t1):∀(l:List (Int×Int×Int)) (gone:Int),(∀x,x∈l->0<=x.1/\0<=x.2.1/\0<=x.2.2)->hQ (T.stops.length:Int) gone l=(eW T (l.map iG)&&iL gone l)
 |[],_,_=>rfl
 |(s,c,g)::l,gone,h=>by
  obtain⟨h1,h2,n⟩:=h (s,c,g) (kw ..);simp only at h1 h2 n;have o:=A5 T l g λx a=>h x (o0 _ a);unfold hQ;rw[o];have key:eW T (((s,c,g)::l).map iG)=((decide (s.toNat<T.stops.length)&&(decide (c.toNat<=g.toNat)&&decide (g.toNat<2880)))&&(eW T (l.map iG)&&iL g l)):=by
   unfold eW;cases l with
   |nil=>simp[iG,iL]
   |cons x l=>
    have a:=h x (by simp);have e:decide (g.toNat<=x.2.1.toNat)=decide (g<=x.2.1):=by rw[ir];lia
    simp only[m0,List.all_cons,List.tail_cons,oC,iG,iL,e];generalize decide (s.toNat<T.stops.length)=b;generalize decide (c.toNat<=g.toNat)=d;generalize decide (g.toNat<2880)=f;generalize decide (g<=x.2.1)=i;generalize decide (x.1.toNat<T.stops.length)=j;generalize decide (x.2.1.toNat<=x.2.2.toNat)=k;generalize decide (x.2.2.toNat<2880)=m;cases b<;>cases d<;>cases f<;>cases i<;>cases j<;>cases k<;>cases m<;>simp
  rw[key];by_cases c1:(T.stops.length:Int)<=s\/c<gone\/g<c\/2880<=g
  ·rw[No c1];symm;rcases c1 with q|q|q|q
   ·rw[sn (show ¬s.toNat<T.stops.length by lia)];rfl
   ·simp only[iL,sn (show ¬gone<=c by lia),n0]
   ·rw[sn (show ¬c.toNat<=g.toNat by lia)];simp
   ·rw[sn (show ¬g.toNat<2880 by lia)];simp
  ·rw[Ps c1];rw[sK (show s.toNat<T.stops.length by lia),sK (show c.toNat<=g.toNat by lia),sK (show g.toNat<2880 by lia)];simp only[iL,sK (show gone<=c by lia),n_,xn]
theorem LJ (T:t1) (l:List Int) (h:∀z,z∈l->0<=z):hQ (T.stops.length:Int) 0 (cQ l)=eW T (fV (cL l)):=by(
have a:=vS l h;rw[A5 T _ 0 a,tO];cases e:cQ l with
|nil=>simp[iL]
|cons x r=>
 have:=a x (by rw[e];simp);simp only[iL,sK this.2.1,xn])
def vE (CP CN:WF):Sp:=λvs H Q _=>∃(A:PA) (T:t1) (m:Nat) (d:Int) (a:WF) (row:List Int),vs=[W1.ref A.x,.int d,.ref a]/\H a=some (.lst (row.map W1.int))/\(∀z,z∈row->0<=z)/\
 ((1<=d/\d<=127)/\(2<=(row.length:Int)/3/\(row.length:Int)/3<=64)->(row.length:Int)=3*((row.length:Int)/3))/\cd CP CN H A T m/\oN T/\m<=1000/\
 ∀I,cd CP CN I A (Ev T (.trip d (cL row) ((row.length:Int)/3))).2 (m+1)->Ch A.own H I->Q (.int (Ev T (.trip d (cL row) ((row.length:Int)/3))).1.code) I
theorem q1:pu ["self","days","calls","stops","comes","goes"] zaE (s1 qa):=nb rfl rfl rfl (by decide +kernel)
theorem u2{l:List Int}{k:Nat}(e:z=(k:Int)) (h0:ZB[j]?=some (some (.ref a))) (f:TD K H a (l.map W1.int)) (c:l.length=3*n) (d:0<n) (b:k<3) (hz:n<=1000000)
  (q:∀p,H p=none->Q (.ref p) (Uf H p (.lst ((s4 n).map λi=>W1.int (l.getD (3*i+k) 0))))):vO K (bY j) (rv (tC (.int z))) ru (rv (tC (.int 3))) ZB H Q:=by(
subst e;refine B h0 (B rfl (B rfl ⟨a,_,O,f,(by intro z;cases z),?_,λp g=>?_⟩))
·rw[AB l n k c d b,FM,fZ];exact ed (small hz)
·rw[AB l n k c d b];exact q p g)
theorem Jj(F:sB K "add_trip" "Plan.add_trip" qa f fd) (T:bU K mg CP) (Pp:AC P w K mg base xL 1 Pd Px zax vo) (Pq:Binds K Px zax []) (PX:mg "can_run"=some (.ref Pd)) (PN:cV K (.ref Pd)=true):AC P w K mg base xL 2 f fd zaE (vE CP CN):=by(
refine F.ar q1 (λvs H Q E h=>?_) (λQa P9 outer s H vs Q E PM h=>?_)
·refine k_ h λA r m d Pm row P7=>?_;obtain⟨rfl,_⟩:=P7;rfl
·intro P_;refine k_ h λA r m d Pm row P8=>?_;obtain⟨rfl,OU,h0,Pe,OT,hT,hm,k⟩:=P8;have Qd:∀ {X:Cx},True:=λ{_}=>trivial;refine B (On (jp (PW.pt (ew (bQ (jZ cv cv EQ (V 1) EQ)) (gU (bQ (jZ cv cv EQ (kt Ka (a0 b6 (by rfl) T.len b0 (UV (V 2) PP)) EQ) EQ))))) (Fa (tt (nl T.c2 rfl))) ii)
  (On (zS 3 q1 (lh (V 2) (d2 EQ) fI (d2 EQ)))
  (On (zS 4 q1 (lh (V 2) (d2 EQ) fI (d2 EQ)))
  (On (zS 5 q1 (lh (V 2) (d2 EQ) fI (d2 EQ)))
  (On (jp (bQ (cz (ge Pp PM rfl PX PN Pq .nil ws (UV (V 3) (UV (V 4) (UV (V 5) (UV (a0 b6 (by rfl) T.len b0 (UV (wS (V 0) rfl) PP)) PP))))))) (Fa (tt (nl T.c4 rfl))) ii)
  (On (jp (ga c0 (a0 b6 (by rfl) T.len b0 (UV (wS (V 0) rfl) PP)) (nl T.mt rfl) (li _)) (Fa (tt (nl T.c8 rfl))) ii)
  (On (ca (lb n' oa sy pE (wS (V 0) rfl)))
  (On (ca (cG cm da dc cZ (wS (V 0) rfl) (UV (bX (UV (V 1) (UV (V 3) (UV (V 4) (UV (V 5) PP))))) PP)))
  (Fa (tt (kt gP (a0 b6 (by rfl) T.len b0 (UV (wS (V 0) rfl) PP)) EQ))))))))))) ?_
 generalize PL:(row.length:Int)/3=n at Pe k;have Pb:(u8 d 1 127&&u8 n 2 64)=false->Q (.int (-2)) H:=λe=>by
  have L:Ev r (.trip d (cL row) n)=(bM (-2),r):=by simp only[Ev,e,a9]
  rw[L]at k;exact k H (OT.more (by lia)) (Ch.rfl' _ _)
 refine j0 (K:=K) (d:=d) (λR q=>B rfl q) (B rfl ?_);cases ON:(decide (1<=d)&&decide (d<=127))with
 |false=>exact wn (wn (Pb (by rw[show u8 d 1 127=false from ON];rfl)))
 |true=>
  refine v6 ?_;refine j0 (K:=K) (d:=n) (λR q=>?_) (B rfl ?_)
  ·refine B rfl (IN Pm _ O (.inl (TD.of OU)) (he _ _ O O ⟨by decide,by decide⟩ ?_));show R (W1.int (((row.map W1.int).length:Int)/3)) H;rw[FM,PL];exact q
  cases en:(decide (2<=n)&&decide (n<=64))with
  |false=>exact wn (Pb (by rw[show u8 d 1 127=true from ON,show u8 n 2 64=false from en];rfl))
  |true=>
   have all:(u8 d 1 127&&u8 n 2 64)=true:=by rw[show u8 d 1 127=true from ON,show u8 n 2 64=true from en];rfl
   simp only[ev,dL]at ON en;have Qb:=Pe ⟨ON,en⟩;obtain⟨q,rfl⟩:∃q:Nat,n=(q:Int):=⟨n.toNat,by lia⟩;have OK:row.length=3*q:=by lia
   refine v6 ?_;dsimp only[rr,lE,hY,bh];refine u2 (K:=K) (j:=2) (k:=0) rfl ?h0 (TD.of OU) OK (by lia) (by decide) (by lia) λsa Pl=>?_
   case h0=>rfl
   have OL:=Tl.new (o:=HO.lst ((s4 q).map λi=>W1.int (row.getD (3*i+0) 0))) Pl;generalize Pz:Uf H sa (.lst ((s4 q).map λi=>W1.int (row.getD (3*i+0) 0)))=H1 at OL⊢;have Pr:H1 sa=some (.lst ((s4 q).map λi=>W1.int (row.getD (3*i+0) 0))):=by rw[<- Pz];exact KE
   refine u2 (K:=K) (j:=2) (k:=1) rfl ?h0 (TD.of (OL _ _ OU)) OK (by lia) (by decide) (by lia) λJ Pj=>?_
   case h0=>rfl
   have OR:=Tl.new (o:=HO.lst ((s4 q).map λi=>W1.int (row.getD (3*i+1) 0))) Pj;generalize PB:Uf H1 J (.lst ((s4 q).map λi=>W1.int (row.getD (3*i+1) 0)))=H2 at OR⊢;have Pt:H2 J=some (.lst ((s4 q).map λi=>W1.int (row.getD (3*i+1) 0))):=by rw[<- PB];exact KE
   refine u2 (K:=K) (j:=2) (k:=2) rfl ?h0 (TD.of (OR _ _ (OL _ _ OU))) OK (by lia) (by decide) (by lia) λN Pk=>?_
   case h0=>rfl
   have OV:=Tl.new (o:=HO.lst ((s4 q).map λi=>W1.int (row.getD (3*i+2) 0))) Pk;generalize PD:Uf H2 N (.lst ((s4 q).map λi=>W1.int (row.getD (3*i+2) 0)))=OM at OV⊢;have Pu:OM N=some (.lst ((s4 q).map λi=>W1.int (row.getD (3*i+2) 0))):=by rw[<- PD];exact KE
   have Pn:Tl H OM:=OL.tr (OR.tr OV);have O1:=OT.same Pn;have O9:OM sa=some (.lst ((cQ row).map λx=>W1.int x.1)):=by rw[u0 _ row q OK];exact OV _ _ (OR _ _ Pr)
   have O_:OM J=some (.lst ((cQ row).map λx=>W1.int x.2.1)):=by rw[u0 _ row q OK];exact OV _ _ Pt
   have Pa:OM N=some (.lst ((cQ row).map λx=>W1.int x.2.2)):=by rw[u0 _ row q OK];exact Pu
   refine B rfl (B rfl (B rfl (B rfl (wv A.x CP A.dx _ _ O O1.ob T.cl T.chg O (IN A.c _ O (.inl (TD.of O1.chg)) (bZ sa J N (cQ row) _ ⟨O,O9,O_,Pa,λOI OS=>B rfl ?_⟩))))));rw[FM,LJ r row h0];have O6:=Pn.tr OS;have U:=O1.same OS;cases OY:eW r (fV (cL row))with
   |false=>
    have L:Ev r (.trip d (cL row) q)=(bM (-4),r):=by simp only[Ev,all,OY,a9,c',aK]
    rw[L]at k;exact wn (k OI (U.more (by lia)) (O6.but _))
   |true=>
    refine v6 ?_;obtain⟨P2,OW,OX⟩:=U.trips;have Ph:P2.length=r.trips.length:=Paired.length OX;refine B rfl (wv A.x CP A.dx _ _ O U.ob T.cl T.trips O (he A.t _ O (.inl (TD.of OW)) O (B rfl ?_)));by_cases c:r.trips.length=1024
    ·have L:Ev r (.trip d (cL row) q)=(bM (-8),r):=by simp only[Ev,all,OY,c,a9,c',aK]
     rw[L]at k;rw[sK (by rw[Ph,c];rfl)];exact wn (k OI (U.more (by lia)) (O6.but _))
    ·have L:Ev r (.trip d (cL row) q)=(bM r.trips.length,{r with trips:=r.trips++[⟨d.toNat,fV (cL row),f8 7 (0,0)⟩]}):=by simp only[Ev,all,OY,c,c',aK]
     rw[L]at k;rw[sn (by rw[Ph];intro z;injection z with z;lia)];refine v6 ?_;obtain⟨Qe,Pg,_⟩:=U.bo;refine B rfl (b' A.x CP A.dx _ _ O U.ob T.cl T.bo O (.inr (.inr (.inl ⟨O,.inr ⟨_,Pg⟩⟩))) (he A.n _ O O Pg ?_));obtain⟨D,PJ⟩:=U.clear;obtain⟨P6,P4,P5⟩:=D.walks;obtain⟨ts,OW,OX⟩:=D.trips;obtain⟨lk,PQ,Qc,O4⟩:=D.late;have n:=la OT.nd;have PU:ts.length=r.trips.length:=Paired.length OX;refine B rfl (b' A.x CP A.dx _ _ O D.ob T.cl T.trips O (.inl ⟨O,⟨_,TD.of OW⟩⟩) (B rfl (B rfl (B rfl (zn _ O (by show 4<=Gc;decide) (λt O3=>?_))))));have O7:∀y,y∈A.own->y≠t:=λy OP z=>D.there OP (by rw[z];exact O3);refine bb A.t _ _ O O ((UF (O7 A.t (by simp[PA.own]))).trans OW) (small (by have:=hT.trips;lia)) ?_;generalize OO:Uf (Uf (Uf OI A.n (.dT [])) t (.tup [W1.int d,W1.ref sa,W1.ref J,W1.ref N])) A.t (.lst (ts++[W1.ref t]))=C;have OQ:Tl (hide A.own (Uf OI A.n (.dT []))) (hide A.own C):=by rw[<- OO];exact pH (by simp[PA.own]) O3
     have OJ:∀y,y∈A.own->y≠A.t->C y=(Uf OI A.n (.dT [])) y:=λy OP PV=>by rw[<- OO,UF PV,UF (O7 y OP)]
     have Pc:C A.t=some (.lst (ts++[W1.ref t])):=by rw[<- OO];exact KE
     have Po:t∉A.own:=λz=>O7 t z rfl;have O0:∀ {b:WF},H b=none->b∉A.own:=λOP z=>OT.there z OP;have PY:H J=none:=OL.free Pj;have PZ:H N=none:=OL.free (OR.free Pk);have O8:∀ {b:WF}{u:HO},b∉A.own->OI b=some u->hide A.own C b=some u:=λ{b u} P0 O5=>OQ b u (by rw[PJ];exact wl.mpr ⟨P0,O5⟩);have PF:=tO row;have O2:=vS row h0;have OZ:∀(g:xc->Nat) (f:Int×Int×Int->Int),(∀x,x∈cQ row->((g (iG x):Nat):Int)=f x)->(fV (cL row)).map (λa=>Rs (g a))=(cQ row).map λx=>W1.int (f x):=λg f PH=>by
      rw[PF,ax];refine eE λx OH=>?_;show Rs (g (iG x))=_;unfold Rs;rw[PH x OH]
     have P1:kG (hide A.own C) (W1.ref t) ⟨d.toNat,fV (cL row),f8 7 (0,0)⟩:=by
      refine nw sa J N (Ix t O (wl.mpr ⟨Po,?_⟩)) ?_ ?_ ?_
      ·rw[<- OO,UF (λz=>Po (by rw[z];simp[PA.own])),KE];simp only[Rs,fi (show 0<=d by lia)]
      ·rw[OZ (·.halt) (·.1) λx OH=>fi (O2 x OH).1];exact O8 (O0 Pl) (OS _ _ O9)
      ·rw[OZ (·.comes) (·.2.1) λx OH=>fi (O2 x OH).2.1];exact O8 (O0 PY) (OS _ _ O_)
      ·rw[OZ (·.goes) (·.2.2) λx OH=>fi (O2 x OH).2.2];exact O8 (O0 PZ) (OS _ _ Pa)
     refine B rfl (wv A.x CP A.dx _ _ O ((OJ A.x (by simp[PA.own]) (n 0 2 rfl)).trans D.ob) T.cl T.trips O (IN A.t _ O (.inl (TD.of Pc)) (IN _ _ O O ?_)));have Py:Ch A.own H C:=by
      rw[<- OO];exact(((O6.but _).put (by simp[PA.own])).new O3).put (by simp[PA.own])
     have PK:kC (hide A.own C) lk (r.trips++[⟨d.toNat,fV (cL row),f8 7 (0,0)⟩]):=by
      have PR:=O4.same OQ;refine⟨λi e p Y Pf=>?_,λi e hi=>O4.no i e (by rw[ls]at hi;lia)⟩;by_cases hi:i<r.trips.length
      ·rw[ot hi]at Y;exact PR.at_ i e p Y Pf
      ·rw[oq (by lia)]at Y;rw[O4.no i e (by lia)];have:i-r.trips.length=0:=by
        cases O5:i-r.trips.length with
        |zero=>rfl
        |succ m=>rw[O5]at Y;simp at Y
       rw[this]at Y;cases Y;show(f8 7 ((0:Nat),(0:Nat))).getD e (0,0)=(0,0);rw[np,ou];simp[Pf]
     have:=k C (D.build (T':= {r with trips:=r.trips++[⟨d.toNat,fV (cL row),f8 7 (0,0)⟩]}) OQ (OJ A.x (by simp[PA.own]) (n 0 2 rfl)) ((OJ A.c (by simp[PA.own]) (n 1 2 rfl)).trans D.chg) (B Pc (Paired.snoc (aj (λ_ _ q=>q.same OQ) OX) P1)) (Ix P6 ((OJ A.w (by simp[PA.own]) (n 3 2 rfl)).trans P4) (aj (λ_ _ q=>q.same OQ) P5)) (zn lk ((OJ A.l (by simp[PA.own]) (n 4 2 rfl)).trans PQ) (by lia) PK) ((OJ A.n (by simp[PA.own]) (n 5 2 rfl)).trans KE)) Py;have Pw:((ts++[W1.ref t]).length:Int)-1=(r.trips.length:Int):=by rw[ls,PU,bK];lia
     show Q (W1.int (((ts++[W1.ref t]).length:Int)-1)) _;rw[Pw];exact this)
theorem yS(xs:List W1) (h:0<=c):eI xs none (some c)=xs.take c.toNat:=by(
obtain⟨k,rfl⟩:∃k:Nat,c=(k:Int):=⟨c.toNat,by lia⟩;unfold eI;rw[HT.A',HT.qB,CF,ee,Nat.sub_zero];by_cases q:k<=xs.length
·rw[km q]
·rw[DC (by lia),dy,v' (by lia)])
theorem FN(xs:List W1) (h:0<=c):eI xs (some c) none=xs.drop c.toNat:=by(
obtain⟨k,rfl⟩:∃k:Nat,c=(k:Int):=⟨c.toNat,by lia⟩;unfold eI;rw[HT.A',HT.qB,ee];by_cases q:k<=xs.length
·rw[km q,v' (by rw[jj];lia)]
·rw[DC (by lia),Cy,wa (by lia)];simp)
def ya (z:Int):W1->W1
 |.int i=>.int (i+z)
 |v=>v
theorem AM{l m:List Int}{lo:Option Int}(h0:ZB[j]?=some (some (.ref a))) (h:∀R,R lo H->tl ZB H R) (g:∀R,R hi H->th ZB H R) (e:TD K H a (l.map W1.int)) (hm:eI (l.map W1.int) lo hi=m.map W1.int) (hz:m.length<=Gc)
  (hv:∀x,nm ((nm ZB [v]).set v (some x)) [v]=nm ZB [v]) (hg:∀x,((nm ZB [v]).set v (some x))[v]?=some (some x)) (hu:∀x,((nm ZB [v]).set v (some x))[u]?=some (some (.int z)))
  (k:∀p D,H p=none->H D=none->D≠p->Q (.ref D) (Uf (Uf H p (.lst (m.map W1.int))) D (.lst ((m.map λx=>x+z).map W1.int)))):
  lD (ug K (BG (AK K) (bY j) tl th)) (bh v) iX (hZ (d3 λi j=>.int (i+j)) (bY v) (bY u)) [v] ZB H Q:=by(
refine B h0 (h _ (g _ (IN a _ O e (λp f=>?_))));rw[hm];refine zn p O ⟨_,TD.of KE⟩ (λD b=>?_);have c:D≠p:=λz=>by rw[z,KE]at b;cases b
refine pe (ya z) b (TD.of KE) (by rw[FM];exact hz) (λx n H2 q r o=>?_) ?_
·obtain⟨i,_,rfl⟩:=mo.mp n;exact⟨hv _,B (hg _) (B (hu _) (IN i z O O o))⟩
·have d:(m.map W1.int).map (ya z)=(m.map λx=>x+z).map W1.int:=by
  rw[ax,ax];rfl
 rw[d];exact k p D f (by rw[UF c]at b;exact b) c)
noncomputable def hV (l:List Int) (c:Nat) (b s:Int):List Int:=(l.take c).map (λx=>x+b)++(l.drop c).map λx=>x+s
theorem Bl (l:List Int) (c:Nat) (b s:Int):hV l c b s=(s4 l.length).map λi=>l.getD i 0+(if i<c then b else s):=by(
unfold hV;apply wi;intro i;by_cases hi:i<l.length
·rw[pr,gy hi];by_cases a:i<c
 ·rw[ot (by rw[FM,aP];lia),pr,Cd a,g1 hi];simp[a,hi]
 ·rw[oq (by rw[FM,aP];lia),FM,aP,pr,List.getElem?_drop,show c+(i-min c l.length)=i by lia,g1 hi];simp[a,hi]
·rw[ik (by rw[ls,FM,FM,aP,jj];lia),ik (by rw[FM,fZ];lia)])
def vD:Sp:=λvs H Q _=>∃(a:WF) (l:List Int) (c b s:Int),vs=[.ref a,.int c,.int b,.int s]/\H a=some (.lst (l.map W1.int))/\0<=c/\l.length<=1000000/\
 ∀(I:Hp) (p:WF),Tl H I->H p=none->I p=some (.lst ((hV l c.toNat b s).map W1.int))->Q (.ref p) I
theorem nA:pu ["minutes","call","before","since","minute"] zay (s1 qU):=nb rfl rfl rfl (by decide +kernel)
theorem J1(F:sB K "shifted" "shifted" qU f fd):AC P w K mg base xL 1 f fd zay vD:=by(
refine F.ar nA (λvs H Q E h=>?_) (λOL OJ outer s0 H vs Q E ON h=>?_)
·refine hL h λa l c b s OH _=>?_;subst OH;rfl
·intro OK;refine hM h λa l c b s OI r t OM k=>?_;subst OI;refine B (Fa (tt (kt J'
  (iT (own:=[("minute",4)]) rfl nA.nd (cy (nc nB (V 0) fI (d2 (V 1)))) (fx rfl) (λ_ _ _ _ _=>zG 4 nA) (λ_ _ _ _ _=>gn) (λ_ _ _ _ _=>kt bG (V 4) (V 2)))
  (iT (own:=[("minute",4)]) rfl nA.nd (cy (nc nB (V 0) (d2 (V 1)) fI)) (fx rfl) (λ_ _ _ _ _=>zG 4 nA) (λ_ _ _ _ _=>gn) (λ_ _ _ _ _=>kt bG (V 4) (V 3)))))) ?_
 have sz:∀ {m:Nat},m<=1000000->m<=Gc:=λh=>ed (small h);dsimp only[hZ,BF];refine AM (K:=K) (j:=0) (v:=4) (u:=2) (l:=l) (m:=l.take c.toNat) (lo:=none) (hi:=some c) (z:=b) ?h0 ?h1 ?h2 (TD.of r) ?hm (sz (by rw[aP];lia)) ?hv ?hg ?hu λY d T D L=>?_
 case h0=>rfl
 case h1=>exact λR q=>q
 case h2=>exact λR q=>B rfl (Ix c O q)
 case hm=>rw[yS _ t,nH]
 case hv=>exact λ_=>rfl
 case hg=>exact λ_=>rfl
 case hu=>exact λ_=>rfl
 generalize n:Uf (Uf H Y (.lst ((l.take c.toNat).map W1.int))) d (.lst (((l.take c.toNat).map λx=>x+b).map W1.int))=H1;have g:Tl H H1:=by rw[<- n];exact(Tl.new T).tr (Tl.new (by rw[UF L];exact D))
 have A:H1 d=some (.lst (((l.take c.toNat).map λx=>x+b).map W1.int)):=by rw[<- n];exact KE
 refine AM (K:=K) (j:=0) (v:=4) (u:=3) (l:=l) (m:=l.drop c.toNat) (lo:=some c) (hi:=none) (z:=s) ?h0 ?h1 ?h2 (TD.of (g _ _ r)) ?hm (sz (by rw[jj];lia)) ?hv ?hg ?hu λp2 e U J N=>?_
 case h0=>rfl
 case h1=>exact λR q=>B rfl (Ix c O q)
 case h2=>exact λR q=>q
 case hm=>rw[FN _ t,wx]
 case hv=>exact λ_=>rfl
 case hg=>exact λ_=>rfl
 case hu=>exact λ_=>rfl
 generalize o:Uf (Uf H1 p2 (.lst ((l.drop c.toNat).map W1.int))) e (.lst (((l.drop c.toNat).map λx=>x+s).map W1.int))=H2;have i:Tl H1 H2:=by rw[<- o];exact(Tl.new U).tr (Tl.new (by rw[UF N];exact J))
 have C:H2 e=some (.lst (((l.drop c.toNat).map λx=>x+s).map W1.int)):=by rw[<- o];exact KE
 refine bi d e _ _ O O (i _ _ A) C (sz (by simp only[FM,aP,jj];lia)) (λp y=>?_);refine k _ p ((g.tr i).tr (Tl.new y)) ((g.tr i).free y) ?_;rw[KE,<-bL];rfl)
noncomputable def u9 (d:Nat) (k:Int) (p:bu):aQ:=(p.calls.map (·.halt),hV (p.calls.map λa=>(a.comes:Int)) ((p.late.getD d (0,0)).1+1) (k*1440) (k*1440+((p.late.getD d (0,0)).2:Nat)),hV (p.calls.map λa=>(a.goes:Int)) (p.late.getD d (0,0)).1 (k*1440) (k*1440+((p.late.getD d (0,0)).2:Nat)))
theorem LI (M:Nat) (k:Int) (p:bu):u9 (fU M k) k p=aO M k p:=by(
unfold u9 aO;rw[Bl,Bl];simp only[FM];have b:∀i,i<p.calls.length->(p.calls.map λa=>((a.comes:Nat):Int)).getD i 0=(((p.calls.getD i ⟨0,0,0⟩).comes:Nat):Int):=λi hi=>by
 simp[np,pr,g1 hi]
have c:∀i,i<p.calls.length->(p.calls.map λa=>((a.goes:Nat):Int)).getD i 0=(((p.calls.getD i ⟨0,0,0⟩).goes:Nat):Int):=λi hi=>by
 simp[np,pr,g1 hi]
refine cM (Prod.mk _) (congr (cM Prod.mk ?_) ?_)
·refine eE λi hi=>?_;rw[b i (bR.mp hi)];unfold xV xU;split<;>split<;>lia
·refine eE λi hi=>?_;rw[c i (bR.mp hi)];unfold xW xU;split<;>split<;>lia)
noncomputable def ov (G H I:Hp):Hp:=λa=>if((H a).isNone||(G a).isSome)=true then I a else none
theorem Kj(h:G a=some o) (h':I a=some o'):ov G H I a=some o':=by
 unfold ov;rw[No (by rw[h];simp)];exact h'
theorem uN(h:H a=none) (h':I a=some o'):ov G H I a=some o':=by
 unfold ov;rw[No (by rw[h];simp)];exact h'
theorem Ki(h:H a=some o) (h':G a=none):ov G H I a=none:=by
 unfold ov;rw[Ps (by rw[h,h'];simp)]
theorem Kk:Tl (ov G H I) I:=λa o e=>by
 unfold ov at e;split at e
 ·exact e
 ·cases e
def vC (CP CN:WF):Sp:=λvs H Q _=>∃(G:Hp) (A:PA) (T:t1) (m i d:Nat) (k:Int) (p:bu),vs=[.ref A.x,Rs i,.int k,Rs d]/\Tl G H/\cd CP CN G A T m/\T.trips[i]?=some p/\d<7/\(-1<=k/\k<=1)/\p.calls.length<=1000/\
 ∀(I:Hp) (t:WF),Tl H I->gb (ov G H I) (.ref t) ((i,k),u9 d k p)->Q (.ref t) I
theorem gV:pu ["self","trip","begins","weekday","days","stops","comes","goes","midnight","call","minutes","came","gone"] zaz (s1 qQ):=nb rfl rfl rfl (by decide +kernel)
theorem JX(F:sB K "run_of" "Plan.run_of" qQ f fd) (T:bU K mg CP) (OH:AC P w K mg base xL 1 OL O0 zay vD) (OI:Binds K O0 zay []) (OR:mg "shifted"=some (.ref OL)) (OQ:cV K (.ref OL)=true):AC P w K mg base xL 2 f fd zaz (vC CP CN):=by
 refine F.ar gV (λvs H Q E h=>?_) (λPh Pe outer s0 H vs Q E N h=>?_)
 ·refine pU h λG A OU m i d k p Pc=>?_;obtain⟨rfl,_⟩:=Pc;rfl
 ·intro Pg;refine pU h λG A OU m i d k p Pd=>?_;obtain⟨rfl,y,C,OO,hd,Pj,hz,O7⟩:=Pd;have ON:=C.same y;have hu:=hI N;refine B (On (dI (xz wE (wS (V 0) rfl) (V 1)) (cw rfl (re (zG 4 gV) (re (zG 5 gV) (re (zG 6 gV) (re (zG 7 gV) cx))))))
   (On (zS 8 gV (kt Kc (V 2) (nl T.md rfl)))
   (On (dI (uR hu (wS (V 0) rfl) (bX (UV (V 1) (UV (V 3) PP))) (bX (UV EQ (UV EQ PP))) ⟨O,O,O,O⟩) (cw rfl (re (zG 9 gV) (re (zG 10 gV) cx))))
   (On (zS 11 gV (ge OH N rfl OR OQ OI .nil ws (UV (V 6) (UV (kt bG (V 9) EQ) (UV (V 8) (UV (kt bG (V 8) (V 10)) PP))))))
   (On (zS 12 gV (ge OH N rfl OR OQ OI .nil ws (UV (V 7) (UV (V 9) (UV (V 8) (UV (kt bG (V 8) (V 10)) PP))))))
   (Fa (tt (bX (UV (V 1) (UV (V 2) (UV (V 5) (UV (V 11) (UV (V 12) PP))))))))))))) ?_
  obtain⟨ts,Y,Pb⟩:=C.trips;obtain⟨lk,s,Pk,O8⟩:=C.late
  replace Y:=y _ _ Y
  replace s:=y _ _ s
  obtain⟨v,hv,sa,OJ,OM,⟨ta,rfl,O6⟩,OP,O2,O4⟩:=c5 Pb OO;have sub:Tl (hide A.own G) H:=λb o e=>y _ _ (b7 A.own G _ _ e);refine B rfl (wv A.x CP A.dx _ _ O ON.ob T.cl T.trips O (B rfl (Db A.t _ _ _ O O (TD.of Y) (lv hv) (he ta _ O (pm.of (sub _ _ O6)) O (io _ _ O (io _ _ O (io _ _ O (IN _ _ O O ?_))))))));refine B rfl (he k 1440 O O (.inl ⟨by lia,by lia⟩) ?_);refine B rfl (wv A.x CP A.dx _ _ O ON.ob T.cl T.late O (zn A.l O (.inr ⟨_,.inl s⟩) (B rfl (zn _ O (by show 2<=Gc;decide) (λtk Pa=>⟨by show 2<=Gc;decide,λz OT=>?_⟩)))));generalize D:Uf (Uf H tk (.tup [Rs i,Rs d])) z (.tup [W1.int 0,W1.int 0])=H1;have j:Tl H H1:=by rw[<- D];exact(Tl.new Pa).tr (Tl.new OT)
  have OY:H1 tk=some (.tup ((el i d).map kV)):=by rw[<- D];exact Tl.new OT _ _ KE
  have OZ:H1 z=some (.tup [W1.int 0,W1.int 0]):=by rw[<- D];exact KE
  refine B (cN.t (k:=el i d) (j _ _ s) OY) ?_;obtain⟨c,mi,L⟩:∃c mi:Nat,p.late.getD d (0,0)=(c,mi):=⟨_,_,O⟩;have O1:∃n,(it lk (el i d)).getD (W1.ref z)=W1.ref n/\H1 n=some (.tup [Rs c,Rs mi]):=by
   have:=O8.at_ i d p OO hd;rw[L]at this;cases q:it lk (el i d)with
   |none=>
    rw[q]at this;have e:(c,mi)=(0,0):=this;cases e;exact Ix z O OZ
   |some v=>
    rw[q]at this;obtain⟨n,rfl,J⟩:=this;exact Ix n O (j _ _ (sub _ _ J))
  obtain⟨n,OX,J⟩:=O1;rw[OX];refine he n _ O (pm.of J) O (io _ _ O (IN _ _ O O ?_));have OK:∀(g:xc->Nat),(p.calls.map λa=>Rs (g a))=(p.calls.map λa=>((g a:Nat):Int)).map W1.int:=λg=>by rw[ax];rfl
  have O3:H1 OJ=some (.lst ((p.calls.map λa=>((a.comes:Nat):Int)).map W1.int)):=by rw[<- OK (·.comes)];exact j _ _ (sub _ _ O2)
  refine B rfl (B rfl (IN _ _ O O (B rfl (B rfl (B rfl (IN _ _ O O (bZ OJ (p.calls.map λa=>((a.comes:Nat):Int)) _ _ _ ⟨O,O3,by lia,by rw[FM];lia,λH2 p2 r O9 OV=>?_⟩)))))));have O5:H2 OM=some (.lst ((p.calls.map λa=>((a.goes:Nat):Int)).map W1.int)):=by rw[<- OK (·.goes)];exact r _ _ (j _ _ (sub _ _ O4))
  refine B rfl (B rfl (B rfl (B rfl (B rfl (IN _ _ O O (bZ OM (p.calls.map λa=>((a.goes:Nat):Int)) _ _ _ ⟨O,O5,by lia,by rw[FM];lia,λPf U u O_ OW=>?_⟩))))));refine Ix (Rs i) O (Ix (W1.int k) O (Ix (W1.ref sa) O (Ix (W1.ref p2) O (zn (W1.ref U) O (by show 5<=Gc;decide) (λt OS=>?_)))));have st:=Tl.new (o:=HO.tup [Rs i,W1.int k,W1.ref sa,W1.ref p2,W1.ref U]) OS;refine O7 _ t (((j.tr r).tr u).tr st) (nw sa p2 U (Ix t O (uN (((j.tr r).tr u).free OS) KE)) ?_ ?_ ?_)
  ·have:=st _ _ (u _ _ (r _ _ (j _ _ (sub _ _ OP))));rw[Kj (b7 A.own G _ _ OP) this];show some (HO.lst (p.calls.map λa=>Rs a.halt))=some (HO.lst ((p.calls.map (·.halt)).map Rs));rw[ax];rfl
  ·rw[uN (j.free O9) (st _ _ (u _ _ OV))];show _=some (HO.lst ((hV (p.calls.map λa=>((a.comes:Nat):Int)) ((p.late.getD d (0,0)).1+1) (k*1440) (k*1440+((p.late.getD d (0,0)).2:Nat))).map W1.int));rw[L];have e:((c:Int)+1).toNat=c+1:=by lia
   show some (HO.lst ((hV (p.calls.map λa=>((a.comes:Nat):Int)) ((c:Int)+1).toNat (k*1440) (k*1440+(mi:Int))).map W1.int))=some (HO.lst ((hV (p.calls.map λa=>((a.comes:Nat):Int)) (c+1) (k*1440) (k*1440+(mi:Int))).map W1.int));rw[e]
  ·rw[uN ((j.tr r).free O_) (st _ _ OW)];show _=some (HO.lst ((hV (p.calls.map λa=>((a.goes:Nat):Int)) ((p.late.getD d (0,0)).1) (k*1440) (k*1440+((p.late.getD d (0,0)).2:Nat))).map W1.int));rw[L];rfl
noncomputable def zt (M i:Nat) (p:bu) (ks:List Int):List ((Nat×Int)×aQ):=(ks.filter λk=>p.runs M k).map λk=>((i,k),aO M k p)
noncomputable def cR (M:Nat) (l:List bu):List ((Nat×Int)×aQ):=l.zipIdx.flatMap λx=>zt M x.2 x.1 [-1,0,1]
theorem lJ (T:t1) (M:Nat):(cR M T.trips).map (·.2)=wT T M:=by(
unfold cR zt wT v4;rw[rN,rN]
congr 1;funext x
rw[ax,ax];rfl)
theorem B5 (T:t1) (M:Nat):(cR M T.trips).map (·.1)=lm T M:=by(
unfold cR zt lm v4;rw[rN,rN]
congr 1;funext x
rw[ax,ax];rfl)
theorem Nk{l:List bu}(h:l[i]?=some p):cR M (l.take (i+1))=cR M (l.take i)++zt M i p [-1,0,1]:=by(
have hi:=(aD.mp h).1;unfold cR;rw[cB,h,cK,wg,oz]
congr 1
simp[aP,km (ed hi)])
theorem Cb{ks:List Int}(h:ks[j]?=some k):zt M i p (ks.take (j+1))=zt M i p (ks.take j)++(if p.runs M k=true then [((i,k),aO M k p)]else []):=by
 unfold zt;rw[cB,h,cK,ku,bL];by_cases c:p.runs M k=true<;>simp[c]
theorem rG (M:Nat) (l:List bu):(cR M l).length<=3*l.length:=by(
unfold cR;rw[wc];have:∀(m:List (bu×Nat)),(m.map λx=>(zt M x.2 x.1 [-1,0,1]).length).sum<=3*m.length:=λm=>by
 induction m with
 |nil=>simp
 |cons x m b=>
  have a:(zt M x.2 x.1 [-1,0,1]).length<=3:=by
   unfold zt;rw[FM];exact l7 ..
  rw[m0,dV,bt];lia
have:=this l.zipIdx;rw[Ct]at this;exact this)
theorem LK (M:Nat) (k:Int) (p:bu):decide (W1.int (sR ((p.days:Int)/2^(((M:Int)+k)%7).toNat) 1)=W1.int 1)=p.runs M k:=by(
unfold Oe fU;have e:(((M:Int)+k+7)%7).toNat=(((M:Int)+k)%7).toNat:=by lia
rw[Oa,e,Nat.testBit_eq_decide_div_mod_eq,ir];constructor
·intro h;injection h with h;exact_mod_cast h
·intro h;congr 1;exact_mod_cast h)
theorem Nf (M:Nat) (k:Int):W1.int (((M:Int)+k)%7)=Rs (fU M k):=by(
unfold Rs fU
congr 1;lia)
theorem Ng (M:Nat) (k:Int):fU M k<7:=by
 unfold fU;lia
def rf (CP CN:WF):Sp:=λvs H Q _=>∃(A:PA) (T:t1) (m d:Nat),vs=[.ref A.x,Rs d]/\cd CP CN H A T m/\oN T/\(∀p,p∈T.trips->p.calls.length<=64)/\
 ∀(I:Hp) (b:WF) (a:List W1),Tl H I->I b=some (.lst a)->Paired (gb I) a (cR d T.trips)->Q (.ref b) I
theorem nz:pu ["self","day","runs","trip","begins","weekday"] zab (s1 qR):=nb rfl rfl rfl (by decide +kernel)
theorem JY(F:sB K "runs_around" "Plan.runs_around" qR f fd) (T:bU K mg CP) (O1:AC P w K mg base xL 2 O6 O7 zaz (vC CP CN)) (O3:Binds K O7 zaz []) (Pg:cf K CP "run_of" O6):AC P w K mg base xL 3 f fd zab (rf CP CN):=by
 refine F.ar nz (λvs H Q E h=>?_) (λPt Pp outer s0 H vs Q E Pc h=>?_)
 ·refine jX h λA l m d Pn _=>?_;subst Pn;rfl
 ·intro Pq;refine gQ h λA l m d Po Y hT O8 k=>?_;subst Po;refine B (On (zS 2 nz (db PP))
   (On (cH bN rfl (ng rfl T.range (UV (a0 b6 (by rfl) T.len b0 (UV (wS (V 0) rfl) PP)) PP)) (zG 3 nz)
    (Fa (cH bN rfl (KR (bX (UV (eL eP EQ) (UV EQ (UV EQ PP))))) (zG 4 nz)
     (On (zS 5 nz (kt Kb (kt bG (V 1) (V 4)) (nl T.dw rfl)))
     (Fa (jp (ga c0 (kt J_ (kt Kf (xz gN (xz wE (wS (V 0) rfl) (V 3)) EQ) (V 5)) EQ) EQ (li _))
      (Fa (ca (cG cm da dc cZ (V 2) (UV (aA (V 0) T.cl Pg O1 Pc O3 .nil ws (UV (V 3) (UV (V 4) (UV (V 5) PP)))) PP)))) ii))))))
   (Fa (tt (V 2))))) ?_
  obtain⟨ts,OZ,O0⟩:=Y.trips;have PB:ts.length=l.trips.length:=Paired.length O0;refine⟨f4 _,λb OO=>?_⟩;have OQ:Tl H (Uf H b (.lst [])):=Tl.new OO;refine B rfl (wv A.x CP A.dx _ _ O (OQ _ _ Y.ob) T.cl T.trips O (IN A.t _ O (.inl (TD.of (OQ _ _ OZ))) ⟨_,O,by lia,by have:=hT.trips;lia,?_⟩));have en:((ts.length:Nat):Int).toNat=l.trips.length:=by lia
  let OL:Nat->St->Hp->Prop:=λi ZB H2=>∃OS D J o,ZB=[some (.ref A.x),some (Rs d),some (.ref b),OS,D,J]/\H2 b=some (.lst o)/\Paired (gb (hide [b] H2)) o (cR d (l.trips.take i))/\Tl H H2
  refine kT OL
   (dQ none none none ([]) ⟨O,KE,.nil,OQ⟩) ?_ ?_
  ·rintro i ZB H2 hi ⟨OS,D,J,o,rfl,ON,OI,OR⟩;have hi:i<l.trips.length:=nZ hi en;have O4:(0:Int)+((i:Nat):Int)=((i:Nat):Int):=by lia
   show bh 3 (W1.int ((0:Int)+((i:Nat):Int))) _ _ _;rw[O4];obtain⟨p,OH⟩:∃p,l.trips[i]?=some p:=⟨_,g1 hi⟩;obtain⟨PD,Pf,sa,Pr,Pu,⟨ta,rfl,Pd⟩,Py,Pw,Px⟩:=c5 O0 OH;have Pe:=b7 _ _ _ _ Pd;refine zn _ O (by show 3<=Gc;decide) (λU Ph=>?_);have st:Tl H2 (Uf H2 U (.tup [W1.int (-1),W1.int 0,W1.int 1])):=Tl.new Ph;refine zn U O ⟨_,pm.of KE⟩ ?_;have gi:Tl (hide [b] H2) (hide [b] (Uf H2 U (.tup [W1.int (-1),W1.int 0,W1.int 1]))):=λc u e=>by
    obtain⟨OJ,OP⟩:=wl.mp e;exact wl.mpr ⟨OJ,st _ _ OP⟩
   let OL:Nat->St->Hp->Prop:=λj ZB r=>∃D J o,ZB=[some (.ref A.x),some (Rs d),some (.ref b),some (Rs i),D,J]/\r b=some (.lst o)/\r U=some (.tup [W1.int (-1),W1.int 0,W1.int 1])/\Paired (gb (hide [b] r)) o (cR d (l.trips.take i)++zt d i p (([-1,0,1]:List Int).take j))/\Tl H r
   refine GU (K:=K) (a:=U) (xs:=[W1.int (-1),W1.int 0,W1.int 1]) OL
    (bb D J o O (st _ _ ON) KE (by rw[show zt d i p (([-1,0,1]:List Int).take 0)=[] from rfl,fm];exact aj (λ_ _ q=>q.same gi) OI) (OR.tr st)) (λj ZB r _ Pm=>by obtain⟨_,_,_,_,_,q,_,_⟩:=Pm;exact pm.of q) ?_ ?_
   ·rintro j Pl ZB r Pa ⟨Pj,Pk,C,rfl,y,L,N,s⟩;obtain⟨g,OX,rfl,Pb⟩:∃g:Int,([-1,0,1]:List Int)[j]?=some g/\Pl=W1.int g/\(-1<=g/\g<=1):=by
     match j,Pa with
     |0,h=>exact zn (-1) O (by simpa using h.symm) (by decide)
     |1,h=>exact zn 0 O (by simpa using h.symm) (by decide)
     |2,h=>exact zn 1 O (by simpa using h.symm) (by decide)
     |n+3,h=>simp at h
    have OW:=Y.same s;have Pz:C.length<=10000:=by
     rw[Paired.length N,ls];have h1:=rG d (l.trips.take i);have h2:(zt d i p (([-1,0,1]:List Int).take j)).length<=3:=by
      unfold zt;rw[FM];refine dz (l7 ..) ?_;rw[aP];exact Nat.min_le_right ..
     rw[aP]at h1;have:=hT.trips;lia
    refine B rfl (B rfl (IN _ _ O O (he _ _ O O (by show(0:Int)<7;decide) ?_)));show bh 5 (W1.int (((d:Int)+g)%7)) _ _ _;rw[Nf];refine B rfl (wv A.x CP A.dx _ _ O OW.ob T.cl T.trips O (B rfl (Db A.t _ _ _ O O (TD.of (s _ _ OZ)) (lv Pf) (Db ta _ _ _ O O (pm.of (s _ _ Pe)) O (B rfl (he _ _ O O (D2 _) (he _ _ O O O (B rfl ?_))))))));have OU:=LK d g p;have O5:(((d:Int)+g)%7).toNat=fU d g:=by unfold fU;lia
    rw[O5]at OU;have OV:decide (W1.int (sR ((p.days:Int)/2^((fU d g:Nat):Int).toNat) 1)=W1.int 1)=p.runs d g:=by rw[ee];exact OU
    show if decide (W1.int (sR ((p.days:Int)/2^((fU d g:Nat):Int).toNat) 1)=W1.int 1)=true then _ else _;by_cases c:p.runs d g=true
    ·rw[OV.trans c];refine wn ?_;refine zn _ O (.inl ⟨O,⟨_,TD.of y⟩⟩) (B rfl (nw A.x A.dx _ O OW.ob O (B rfl (B rfl (B rfl (fc H A l m i (fU d g) g p ⟨O,s,Y,OH,Ng d g,Pb,by have:=O8 p (pi OH);lia,λO2 t OK OY=>?_⟩))))));rw[LI]at OY;have O9:=OK _ _ y;refine bb b C _ O O O9 (small (by lia)) (bb _ _ (C++[W1.ref t]) O KE ?_ ?_ (λOM u e=>?_))
     ·exact(UF (λz=>by rw[z,y]at L;cases L)).trans (OK _ _ L)
     ·have O_:Tl (hide [b] r) (hide [b] (Uf O2 b (.lst (C++[W1.ref t])))):=λOM u e=>by
       obtain⟨OJ,OP⟩:=wl.mp e;exact wl.mpr ⟨OJ,(UF (by simpa using OJ)).trans (OK _ _ OP)⟩
      rw[Cb OX,No c,<-dv];refine Paired.snoc (aj (λ_ _ q=>q.same O_) N) ?_;refine OY.same λOM u e=>?_;have OT:OM≠b:=λz=>by rw[z,Ki y OO]at e;cases e
      exact wl.mpr ⟨by simpa using OT,(UF OT).trans (Kk _ _ e)⟩
     ·rw[UF (v0 e OO)];exact OK _ _ (s _ _ e)
    ·rw[OV.trans (by simpa using c)];refine v6 ?_;exact bb _ _ C O y L (by rw[Cb OX,Ps c,fm];exact N) s
   ·rintro ZB r ⟨Pj,Pk,C,rfl,y,L,N,s⟩;exact dQ _ _ _ C ⟨O,y,by rw[Nk OH];exact N,s⟩
  ·rintro ZB H2 ⟨OS,D,J,o,rfl,ON,OI,OR⟩;rw[en,dy]at OI;exact B rfl (k H2 b o OR ON (aj (λ_ _ q=>q.same (b7 _ _)) OI))
structure eY (T:t1):Prop where
 bd:bm T
 sz:oN T
 jC:∀p,p∈T.trips->p.calls.length<=64
theorem nF {a:Type}(f:a->Nat) (b:Nat):∀l:List a,(∀x,x∈l->f x<=b)->(l.map f).sum<=b*l.length
 |[],_=>by simp
 |x::l,h=>by
  have h1:=h x (kw ..);have h2:=nF f b l λy c=>h y (o0 _ c);rw[m0,dV,bt,Nat.mul_add];lia
theorem J8 (n k:Nat):((s4 n).map λs=>if(k==s)=true then 1 else 0).sum<=1/\(n<=k->((s4 n).map λs=>if(k==s)=true then 1 else 0).sum=0):=by(
induction n with
|zero=>simp
|succ n a=>
 rw[wo,bL,List.sum_append];by_cases c:k=n
 ·have:=a.2 (by lia);constructor
  ·simp only[m0,hr,dV,CH];rw[this];split<;>lia
  ·lia
 ·have e:(k==n)=false:=by simpa using c
  simp only[m0,hr,e,fX,aK,dV,CH];exact⟨by have:=a.1;lia,λh=>by have:=a.2 (by lia);lia⟩)
theorem Bz (n:Nat):∀L:List (Nat×on),((s4 n).map λs=>(L.filter λd=>d.1==s).length).sum<=L.length
 |[]=>by
  have:((s4 n).map λs=>(([]:List (Nat×on)).filter λd=>d.1==s).length)=(s4 n).map λ_=>0:=rfl;rw[this];have:=nF (λ_:Nat=>0) 0 (s4 n) λ_ _=>tz _;simpa using this
 |d::L=>by
  have b:=Bz n L;have e:((s4 n).map λs=>((d::L).filter λd=>d.1==s).length).sum=((s4 n).map λs=>if(d.1==s)=true then 1 else 0).sum+((s4 n).map λs=>(L.filter λd=>d.1==s).length).sum:=by
   generalize s4 n=r
   induction r with
   |nil=>rfl
   |cons s r a=>
    simp only[m0,dV,a];rw[oE];by_cases c:(d.1==s)=true
    ·rw[No c,No c,bt];lia
    ·rw[Ps c,Ps c];lia
  rw[e,bt];have:=(J8 n d.1).1;lia
theorem zk {a:Type}(l:List (List a)):l.map cC=(s4 l.length).map λs=>(l.getD s []).length:=by(
apply wi;intro i;by_cases hi:i<l.length
·rw[pr,pr,gy hi,g1 hi];simp[np,hi]
·rw[ik (by rw[FM];lia),ik (by rw[FM,fZ];lia)])
theorem Ae(h:ss f R gt W N) (j:mr f.length R) (k:∀s g m,(s,g,m)∈W->g<f.length) (h1:f.length<=1000) (h2:R.length<=100000) (p:(R.map λx=>x.1.length).sum<=300000):dd N:=by(
have hm:∀r,r<N.runs.length->R.getD r ([],[],[])∈R:=λr a=>getD_mem (by rw[<- h.e9];exact a) _;have c:=h.n;refine⟨by rw[h.hG,c],by rw[h.mI,c],λs g m b q=>?_,λr i a hi=>?_,λr a=>?_,λr a=>?_,λs e b l=>?_,by rw[c];exact h1,?_,by rw[h.e9];lia,λr=>?_⟩
·rw[c]at b⊢;exact k s g m ((h.uy b).mp q)
·rw[h.stop,c];rw[h.len]at hi;exact j.stops _ (hm r a) _ (getD_mem hi _)
·rw[h.len];exact j.pos _ (hm r a)
·rw[h.len,h.run];exact j.comes _ (hm r a)
·rw[c]at b;obtain⟨x,o,_⟩:=z_.mp ((h.perm s b).mem_iff.mp l);rw[h.e9];exact(aD.mp o).1
·have e:N.af.map cC=(s4 f.length).map λs=>((ei R).filter λd=>d.1==s).length:=by
  rw[zk,h.hG];refine eE λs b=>?_;rw[(h.perm s (bR.mp b)).length_eq];unfold jF;rw[FM]
 rw[e];have t:=Bz f.length (ei R);have u:=yb R;lia
·rw[h.len];by_cases a:r<R.length
 ·have:=jO (R.map λx=>x.1.length) r;rw[np,pr,g1 a]at this;rw[np,g1 a];simp only[ih,xp]at this⊢;lia
 ·rw[np,ik (by lia)];simp)
section
variable {T:t1}(hT:eY T) (d:Nat)
include hT
theorem B6:((cR d T.trips).map λy=>y.2.1.length).sum<=300000:=by(
have h1:=rG d T.trips;have h2:=nF (λy:(Nat×Int)×aQ=>y.2.1.length) 64 (cR d T.trips) λy a=>by
 unfold cR zt at a;obtain⟨x,b,a⟩:=fk.mp a;obtain⟨k,_,rfl⟩:=mo.mp a;simp only[aO,FM];exact hT.jC _ (pi (ig.mp b))
have:=hT.sz.trips;lia)
theorem zi:oI (up T) (cR d T.trips) (ol T):=by(
have g:(up T).length=T.stops.length:=by simp[up]
have ok:=j2 hT.bd d;have f:∀y,y∈cR d T.trips->y.2∈wT T d:=λy e=>by rw[<- lJ];exact l8 e
refine⟨by rw[g];have:=hT.sz.stops;lia,by have:=rG d T.trips;have:=hT.sz.trips;lia,B6 hT d,λy e=>?_,by simp only[ol,FM];have:=hT.sz.walks;lia,λw hw=>?_⟩
·exact⟨ok.goes _ (f y e),ok.pos _ (f y e),λst h=>by rw[g];exact ok.stops _ (f y e) st h⟩
·obtain⟨a,b,c⟩:=w;exact(ke hT.bd a b c hw).1)
theorem p8:((wT T d).map λx=>x.1.length).sum<=300000:=by
 have:=B6 hT d;rw[<- lJ,ax];exact this
theorem A7:(wT T d).length<=100000:=by
 rw[<- lJ,FM];have:=rG d T.trips;have:=hT.sz.trips;lia
theorem jJ(h:ss (up T) (wT T d) (lm T d) (ol T) N):dd N:=by(
have a:(up T).length=T.stops.length:=by simp[up]
refine Ae h (by rw[a];exact j2 hT.bd d) (λs g m q=>(ke hT.bd s g m q).2.1) (by rw[a];have:=hT.sz.stops;lia) (A7 hT d) (p8 hT d))
theorem yC(h:ss (up T) ((wT T d).map ut) (lm T d) ((ol T).map bD) N):dd N:=by(
have k:(up T).length=T.stops.length:=by simp[up]
refine Ae h (by rw[k];exact ym hT.bd d) (λs g m q=>?_) (by rw[k];have:=hT.sz.stops;lia) (by rw[FM];exact A7 hT d) ?_
·obtain⟨⟨a,b,c⟩,hw,e⟩:=mo.mp q;injection e with i f;injection f with f j;simp only at i f j;subst i f j;exact(ke hT.bd _ _ _ hw).1
·rw[ax];have:((λx:aQ=>x.1.length)∘ut)=λx=>x.1.length:=funext λx=>by simp[ut]
 rw[this];exact p8 hT d)
end
def f9 (H I:Hp):Prop:=∀b o,H b=some o->(∀l,o≠HO.dT l)->I b=some o
theorem f9.put(h:H q=some (.dT l)):f9 H (Uf H q (.dT l')):=λb o e m=>by
 rw[UF (λz=>by rw[z,h]at e;exact m _ (b2 e).symm)];exact e
theorem f2.jP(s:f9 H I) (h:f2 CN H n N):f2 CN I n N:=by(
refine et h.ex λm c r o d f Q os ds fs h1 h2 t u y A D E J p=>?_;have T:∀ {b:WF}{C dx:WF}{fs:List (Str×W1)},H b=some (.ins C dx fs)->I b=some (.ins C dx fs):=λe=>s _ _ e λ_ z=>by cases z
have tl:∀ {b:WF}{l:List W1},H b=some (.lst l)->I b=some (.lst l):=λe=>s _ _ e λ_ z=>by cases z
have j:∀ {v:W1}{l:List W1},TupAt H v l->TupAt I v l:=λU=>by obtain⟨a,e,q⟩:=U;exact Ix a e (s _ _ q λ_ z=>by cases z)
have k:∀ {v:W1}{l:List W1},LstAt H v l->LstAt I v l:=λY=>by obtain⟨a,e,q⟩:=Y;exact Ix a e (tl q)
refine⟨m,c,r,o,d,f,Q,os,ds,fs,T h1,tl h2,tl t,aj (λv x OH=>by obtain⟨a,b,g,i,L⟩:=OH;exact IN a b (j g) (tl i) (tl L)) u,tl y,aj (λv x OI=>by obtain⟨es,g,i⟩:=OI;exact Ix es (k g) (aj (λ_ _ q=>j q) i)) A,tl D,aj (λv x OJ=>by obtain⟨es,g,i⟩:=OJ;exact Ix es (k g) (aj (λ_ _ q=>j q) i)) E,tl J,aj (λ_ _ q=>j q) p⟩)
def hx (CN:WF) (H:Hp) (T:t1) (d:Nat) (v:W1):Prop:=∃a N,v=W1.ref a/\f2 CN H a N/\ss (up T) (wT T d) (lm T d) (ol T) N
def me (CN:WF) (H:Hp) (T:t1) (d:Nat) (v:W1):Prop:=∃a N,v=W1.ref a/\f2 CN H a N/\ss (up T) ((wT T d).map ut) (lm T d) ((ol T).map bD) N
theorem cd.put(h:cd CP CN H A T m) (o:H A.n=some (.dT k)) {z:Str}(t:z="forward"->hx CN H T d v) (s:z="mirrored"->me CN H T d v):
  cd CP CN (Uf H A.n (.dT (aC k (ck z d) v))) A T (m+1):=by(
have n:=la h.nd;have j:hide A.own (Uf H A.n (.dT (aC k (ck z d) v)))=hide A.own H:=fD (by simp[PA.own]);obtain⟨ts,C,D⟩:=h.trips;obtain⟨L,E,J⟩:=h.walks;obtain⟨lk,x,Q,y⟩:=h.late;obtain⟨r,p,n2,n3⟩:=h.bo;have e:r=k:=by rw[o]at p;cases p;rfl
subst e;have nd:=f9.put (l':=aC r (ck z d) v) o;refine⟨h.nd,(UF (n 0 5 rfl)).trans h.ob,(UF (n 1 5 rfl)).trans h.chg,(Ix ts ((UF (n 2 5 rfl)).trans C) (by rw[j];exact D)),(Ix L ((UF (n 3 5 rfl)).trans E) (by rw[j];exact J)),(zn lk ((UF (n 4 5 rfl)).trans x) (by lia) (by rw[j];exact y)),(zn _ KE ?_ (λd' l=>⟨λu hu=>?_,λu hu=>?_⟩))⟩
·unfold aC;split
 ·rw[FM];lia
 ·rw[ls,bK];lia
·rw[kb]at hu;split at hu
 ·next q=>
  cases hu;simp only[ck,kq,and_true]at q;obtain⟨g,i⟩:=q;injection g with g;injection i with i;have:d'=d:=by lia
  subst this;refine Do (t g.symm) λa N b c f=>?_;exact IN a N b (c.jP nd) f
 ·refine Do ((n3 d' l).1 u hu) λa N b c f=>?_;exact IN a N b (c.jP nd) f
·rw[kb]at hu;split at hu
 ·next q=>
  cases hu;simp only[ck,kq,and_true]at q;obtain⟨g,i⟩:=q;injection g with g;injection i with i;have:d'=d:=by lia
  subst this;refine Do (s g.symm) λa N b c f=>?_;exact IN a N b (c.jP nd) f
 ·refine Do ((n3 d' l).2 u hu) λa N b c f=>?_;exact IN a N b (c.jP nd) f)
def fM (CP CN:WF) (a:WF->Hp->t1->Nat->W1->Prop):Sp:=λvs H Q _=>∃(A:PA) (T:t1) (m d:Nat),vs=[.ref A.x,Rs d]/\cd CP CN H A T m/\eY T/\d<7/\m<=1000/\
 ∀(I:Hp) (v:W1),cd CP CN I A T (m+1)->a CN I T d v->Ch [A.n] H I->f9 H I->Q v I
theorem B1{A:PA}(h:Paired (jw (hide A.own H)) b T.walks):Paired (oP H) b (ol T):=by(
unfold ol;generalize T.walks=c at h
induction h with
|nil=>exact .nil
|cons r t a=>exact .cons (TupAt.same (b7 _ _) r) a)
theorem yO (T:t1):(up T).map W1.int=T.stops.map Rs:=by unfold up;rw[ax];rfl
theorem Bc:pu ["self","day","key"] zab (s1 qt):=nb rfl rfl rfl (by decide +kernel)
theorem Bf:pu ["self","day","key"] zab (s1 qH):=nb rfl rfl rfl (by decide +kernel)
theorem f9.same(s:Tl H I):f9 H I:=λb o e _=>s b o e
theorem JD(F:sB K "forward" "Plan.forward" qt f fd) (T:bU K mg CP) (OL:AC P w K mg base xL 3 OP OR zab (rf CP CN)) (ON:Binds K OR zab []) (OW:cf K CP "runs_around" OP)
  (OX:mg "Network"=some (.ref CN)) (TW:Mk K CN OO) (OK:AC P w K mg base xL 2 OO OQ zak (rd CN)) (OM:Binds K OQ zak []):AC P w K mg base xL 4 f fd zab (fM CP CN hx):=by(
refine F.ar Bc (λvs H Q E h=>?_) (λO_ O8 outer s0 H vs Q E D h=>?_)
·refine jX h λA i m d O6 _=>?_;subst O6;rfl
·intro O9;refine pR h λA i m d O7 OT hT hd hm k=>?_;subst O7;have hu:=hI D;refine B (On (zS 2 Bc (bX (UV Az (UV (V 1) PP))))
  (On (jp (AG (Ax hu (V 2) (wS (V 0) rfl)))
   (Fa (ni hu (wS (V 0) rfl) (V 2) (hN TW OK (D.mono) rfl OX OM .nil ws (UV (wS (V 0) rfl) (UV (aA (V 0) T.cl OW OL D ON .nil ws (UV (V 1) PP)) (UV (wS (V 0) rfl) PP)))) rfl)) ii)
  (Fa (tt (uQ hu (wS (V 0) rfl) (V 2) (λ_ _=>rfl)))))) ?_
 refine zn _ O (by show 2<=Gc;decide) (λtk OZ=>?_);have j:Tl H (Uf H tk (.tup [W1.str "forward",Rs d])):=Tl.new OZ;have l:(Uf H tk (.tup [W1.str "forward",Rs d])) tk=some (.tup ((ck "forward" d).map kV)):=KE;generalize Uf H tk (.tup [W1.str "forward",Rs d])=H1 at j l⊢;have a:=OT.same j;obtain⟨J,n1,n2,n3⟩:=a.bo;refine B rfl (B rfl (wv A.x CP A.dx _ _ O a.ob T.cl T.bo O (IN A.n _ O (cN.t (k:=ck "forward" d) n1 l) (B rfl ?_))));cases q:it J (ck "forward" d)with
 |some v=>
  refine v6 ?_;refine B rfl (wv A.x CP A.dx _ _ O a.ob T.cl T.bo O (B rfl (IN A.n v O (by rw[<- q];exact cN.t (k:=ck "forward" d) n1 l) ?_)));exact k H1 v (a.more (by lia)) ((n3 d hd).1 v q) (j.but _) (f9.same j)
 |none=>
  refine wn ?_;refine B rfl (wv A.x CP A.dx _ _ O a.ob T.cl T.chg O (B rfl (nw A.x A.dx _ O a.ob O (B rfl (Db A i m d O a hT.sz hT.jC (λH2 b O1 s OU O0=>?_))))));have p:=a.same s;obtain⟨O5,O3,O4⟩:=p.walks;refine B rfl (wv A.x CP A.dx _ _ O p.ob T.cl T.walks O (λx dx nx OY ne=>?_));have g:Tl H2 (Uf (Uf H2 dx (.own x)) x (.ins CN dx [])):=(Tl.new OY).tr (Tl.new (by rw[UF (Ne.symm ne)];exact nx));have O2:Tl H2 (hide [x] (Uf (Uf H2 dx (.own x)) x (.ins CN dx []))):=λc u e=>wl.mpr ⟨by simpa using v0 e nx,g _ _ e⟩;refine⟨x,dx,A.c,b,A.w,up i,cR d i.trips,O1,O5,ol i,O,KE,by rw[yO];exact g _ _ p.chg,g _ _ OU,aj (λ_ _ q=>q.same O2) O0,g _ _ O3,aj (λ_ _ q=>TupAt.same g q) (B1 O4),zi hT d,λL N C U OS=>⟨O,?_⟩⟩;have y:Tl H2 L:=λc u e=>OS c u (g _ _ e) (by simpa using v0 e nx);rw[lJ,B5]at C;have OH:=p.same y;have r:=y _ _ (s _ _ n1);have o:=y _ _ (s _ _ l);have OV:tk≠A.n:=λz=>by rw[z,r]at o;cases o
  refine B rfl (wv A.x CP A.dx _ _ O OH.ob T.cl T.bo O (B rfl (IN A.n _ O (f7.t (k:=ck "forward" d) r o (small (by lia))) ?_)));have OI:=OH.put r (z:="forward") (d:=d) (v:=W1.ref x) (λ_=>IN x N O U C) (λz=>absurd z (by decide));have Y:=f9.put (l':=aC J (ck "forward" d) (W1.ref x)) r;refine B rfl (wv A.x CP A.dx _ _ O OI.ob T.cl T.bo O (B rfl (IN A.n (W1.ref x) O ?_ ?_)))
  ·have:=cN.t (H:=Uf L A.n (.dT (aC J (ck "forward" d) (W1.ref x)))) (k:=ck "forward" d) (b:=tk) KE ((UF OV).trans o);rw[kb,No rfl]at this;exact this
  ·have OJ:=(j.tr s).tr y;exact k _ _ OI (IN x N O (U.jP Y) C) ((OJ.but _).put (by simp)) λc u e m=>Y c u (OJ c u e) m)
theorem JQ(F:sB K "mirrored" "Plan.mirrored" qH f fd) (T:bU K mg CP) (OO:AC P w K mg base xL 3 OS OU zab (rf CP CN)) (OR:Binds K OU zab []) (O0:cf K CP "runs_around" OS)
  (GM:AC P w K mg base xL 4 OH OT zat (vy CN)) (OQ:Binds K OT zat []) (O1:mg "mirrored_network"=some (.ref OH)) (OY:cV K (.ref OH)=true):AC P w K mg base xL 5 f fd zab (fM CP CN me):=by(
refine F.ar Bf (λvs H Q E h=>?_) (λPc Pa outer s0 H vs Q E U h=>?_)
·refine jX h λA g m d O9 _=>?_;subst O9;rfl
·intro Pb;refine pR h λA g m d O_ OV hT hd hm k=>?_;subst O_;have hu:=hI U;refine B (On (zS 2 Bf (bX (UV Az (UV (V 1) PP))))
  (On (jp (AG (Ax hu (V 2) (wS (V 0) rfl)))
   (Fa (ni hu (wS (V 0) rfl) (V 2) (ge GM U rfl O1 OY OQ .nil ws (UV (wS (V 0) rfl) (UV (aA (V 0) T.cl O0 OO (U.mono) OR .nil ws (UV (V 1) PP)) (UV (wS (V 0) rfl) PP)))) rfl)) ii)
  (Fa (tt (uQ hu (wS (V 0) rfl) (V 2) (λ_ _=>rfl)))))) ?_
 refine zn _ O (by show 2<=Gc;decide) (λtk O2=>?_);have o:Tl H (Uf H tk (.tup [W1.str "mirrored",Rs d])):=Tl.new O2;have p:(Uf H tk (.tup [W1.str "mirrored",Rs d])) tk=some (.tup ((ck "mirrored" d).map kV)):=KE;generalize Uf H tk (.tup [W1.str "mirrored",Rs d])=H1 at o p⊢;have j:=OV.same o;obtain⟨Y,n1,n2,n3⟩:=j.bo;refine B rfl (B rfl (wv A.x CP A.dx _ _ O j.ob T.cl T.bo O (IN A.n _ O (cN.t (k:=ck "mirrored" d) n1 p) (B rfl ?_))));cases q:it Y (ck "mirrored" d)with
 |some v=>
  refine v6 ?_;refine B rfl (wv A.x CP A.dx _ _ O j.ob T.cl T.bo O (B rfl (IN A.n v O (by rw[<- q];exact cN.t (k:=ck "mirrored" d) n1 p) ?_)));exact k H1 v (j.more (by lia)) ((n3 d hd).2 v q) (o.but _) (f9.same o)
 |none=>
  refine wn ?_;refine B rfl (wv A.x CP A.dx _ _ O j.ob T.cl T.chg O (B rfl (nw A.x A.dx _ O j.ob O (B rfl (Db A g m d O j hT.sz hT.jC (λH2 b O4 D OW O3=>?_))))));have s:=j.same D;obtain⟨O8,O6,O7⟩:=s.walks;have Pe:(up g).length=g.stops.length:=by simp[up]
  have ok:=j2 hT.bd d;have OM:∀y,y∈cR d g.trips->y.2∈wT g d:=λy l=>by rw[<- lJ];exact l8 l
  have Pd:=p8 hT d;refine B rfl (wv A.x CP A.dx _ _ O s.ob T.cl T.walks O (fc A.c b A.w (up g) (cR d g.trips) O4 O8 (ol g) ⟨O,by rw[yO];exact s.chg,OW,O3,O6,B1 O7,zi hT d,λy l=>ok.comes _ (OM y l),λO5 OX=>?_,λy l=>?_,λOP x N L OI J=>?_⟩))
  ·obtain⟨a,b,c⟩:=O5;exact(ke hT.bd a b c OX).2.1
  ·obtain⟨i,hi⟩:=fW.mp (OM y l);have:=jO ((wT g d).map λx=>x.1.length) i;rw[np,pr,hi]at this;have this:y.2.1.length<=_:=this;lia
  rw[lJ,B5]at L;have OK:=s.same J;have C:=J _ _ (D _ _ n1);have r:=J _ _ (D _ _ p);have OZ:tk≠A.n:=λz=>by rw[z,C]at r;cases r
  refine B rfl (wv A.x CP A.dx _ _ O OK.ob T.cl T.bo O (B rfl (IN A.n _ O (f7.t (k:=ck "mirrored" d) C r (small (by lia))) ?_)));have OL:=OK.put C (z:="mirrored") (d:=d) (v:=W1.ref x) (λz=>absurd z (by decide)) (λ_=>IN x N O OI L);have OJ:=f9.put (l':=aC Y (ck "mirrored" d) (W1.ref x)) C;refine B rfl (wv A.x CP A.dx _ _ O OL.ob T.cl T.bo O (B rfl (IN A.n (W1.ref x) O ?_ ?_)))
  ·have:=cN.t (H:=Uf OP A.n (.dT (aC Y (ck "mirrored" d) (W1.ref x)))) (k:=ck "mirrored" d) (b:=tk) KE ((UF OZ).trans r);rw[kb,No rfl]at this;exact this
  ·have ON:=(o.tr D).tr J;exact k _ _ OL (IN x N O (OI.jP OJ) L) ((ON.but _).put (by simp)) λc u e m=>OJ c u (ON c u e) m)
end Dv
namespace L2
open PySem PySem.Spec PySem.AutoSeq1
theorem F_(h0:¬(!a.isEmpty&&l1 (a.size+c.size))=true) (h1:a.size<=Gc) (h2:a.size+c.size<=Gc+1) (f:o.cls=.type "tuple") (i:o.data=.seq c n2):
  Meets (h8.«list.extend» ⟨[.ref l,.ref b],[]⟩) (λ_ R s=>s.heap.get? l=some {cls:=.type "list",dict:=none,data:=.seq a n,slots:= #[]}/\s.heap.get? b=some o/\R (.ok (.ret Value.none)) {s with heap:=s.heap.update l (ho λx=>x++c),toks:=s.toks}):=
 .of_wp λprog w A R s h=>by
  obtain⟨m,p,q,D⟩:=o;simp only at f i;subst f i;obtain⟨C,g,d,tk,os⟩:=s;obtain⟨e,j,h⟩:=h;have r:=idx_int;have t:=sub_tuple_tuple;have u:=sub_list_list;have y:=sub_tuple_list;have z:=sub_list_tuple;have k:(a++c).size<=Gc+1:=by rw[Array.size_append];exact h2
  wp_walk using (nN e rfl (hz:=h1) (_hz':=k)),wpAny_loadPart' e,wpAny_loadPart' j
  exact B rfl h
def Lh (K:wf):W1->List W1->Hp->VK->Prop:=λx vs H Q=>∃l b xs zs,x=.ref l/\vs=[.ref b]/\H l=some (.lst xs)/\pm K H b zs/\xs.length+zs.length<=Gc/\Q .ak (Uf H l (.lst (xs++zs)))
theorem II:mm X "list.extend" (Lh X.K):=by(
intro WP s ZB H x vs v us Q XV t p h;refine pR h λl b xs zs w y c g hz q=>?_;subst w;subst y;cases t;obtain⟨u,rfl,m⟩:=p.one;cases m;obtain⟨z,Op,n,r,A,e⟩:=XV.hJ c;obtain⟨a,d,⟨o,f,j,n2,k⟩,D⟩:=XV.tuple g;have C:=d.length;have big:Op.toArray.size+a.toArray.size<=Gc:=by rw[aU,aU];lia
have i:¬(!Op.toArray.isEmpty&&l1 (Op.toArray.size+a.toArray.size))=true:=by
 rw[uD big,n0];exact cc
refine kh F.slot_list_extend (B e rfl) F.entry_list_extend (F.args_list_extend_2 _ _) (F_ i (by rw[aU];lia) (by lia) j k) ⟨e,f,?_⟩;exact IN (.ak) _ (XV.mV (its':=Op++a) c e (by simp) (r.append d) (by rw[ls];lia)) O q)
end L2
namespace L2
open PySem PySem.Spec PyProof.Rows
section
variable {prog:fr}{w:g2}{A:bJ}{R:Result->Go->Prop}{XV:WF}{fp wr:List WF}{n:Nat}{P:Nat->Tk->Prop}{St:Nat->s2->Prop}
def x3 (prog:fr) (w:g2) (A:bJ) (ok:s2->Prop) (P:Nat->Tk->Prop) (c:Nat->Nat->Bool):Prop:=
 ∀i j a b (s:Go) (Q:Tk->Go->Prop) (E:Tk->Go->Prop),ok s.heap->P i a->P j b->Q (.bool (c i j)) s->wpAny (AT prog w) A (wH .Lt a b) Q E s
theorem pD:(toString "min"++toString ".loop":String)="min.loop":=by decide
theorem ID(W:Walks prog w A.in1 XV fp wr n P St) (i:Nat->Nat->Bool) (OH:x3 prog w A.in1 ok P i) (S:WF) (J:S∉fp) (ag:∀h h':s2,ok h->(∀b o,b∉wr->b≠S->h.get? b=some o->h'.get? b=some o)->ok h'):
  ∀(k j:Nat) (s:Go) (a:Tk) (c:Nat),n-(j+1)=k->j+1<=n->ok s.heap->St (j+1) s.heap->P (fg i j) a->s.heap.get? S=some {cls:=.type "list",dict:=none,data:=.seq #[a,a] c,slots:= #[]}->
  (∀v h' tk,P (fg i (n-1)) v->(∀b o,b∉wr->b≠S->s.heap.get? b=some o->h'.get? b=some o)->R (.ok (.ret v)) {s with heap:=h',toks:=tk})->codeAny (AT prog w) A (.builtin "min.loop" ⟨[.ref XV,.none,.ref S],[]⟩) R s:=by(
have L:S∉wr:=λh=>J (W.sub _ h);intro k
induction k with
|zero=>
 intro j s a c OJ OI Q C p l q;have N:j+1=n:=by lia
 refine wD F.entry_min_loop ?_;rw[xM F.plain_min_loop _];show wpAny _ A.in1 (wR (.ref S) >>= _) _ _ s;refine IR (h6 l rfl ?_);show wpAny _ A.in1 (tryCatch (eU (.ref XV)) _ >>= _) _ _ s;refine IR (r2 (W.done s _ _ (N▸C) λh' tk g=>?_));have m:=g S _ L l;show wpAny _ A.in1 (wQ S (λ_=> #[]) >>= _) _ _ _;refine IR ?_;refine nN m rfl (IR (i6 (t3 ?_)));refine q a _ tk (by rw[<- N];exact p) λb o f d e=>(ia _ _ (Ne.symm d)).trans (g b o f e)
|succ k U=>
 intro j s a c OJ OI Q C p l q;have y:j+1<n:=by lia
 refine wD F.entry_min_loop ?_;rw[xM F.plain_min_loop _];show wpAny _ A.in1 (wR (.ref S) >>= _) _ _ s;refine IR (h6 l rfl ?_);show wpAny _ A.in1 (tryCatch (eU (.ref XV)) _ >>= _) _ _ s;refine IR (r2 (W.item (j+1) s _ _ y C λv h' tk H T g=>?_));have m:=g S _ L l;have z:ok h':=ag _ _ Q λb o r _ e=>g b o r e;show wpAny _ A.in1 (tryCatch (ki [v,v] (wH .Lt v a >>= _)) _ >>= _) _ _ _;refine IR (r2 (i4 (IR (OH (j+1) (fg i j) v a _ _ _ z H p ?_))));refine IR (i4 (i2 ?_));refine IR (i6 (t3 ?_));cases r:i (j+1) (fg i j)with
 |true=>
  simp only[a9];refine IR ?_;refine nN m rfl (IR (i6 ?_));rw[pD];refine t3 ⟨r5 F.plain_min_loop _,U (j+1) _ v _ (by lia) y (ag _ _ z λb o _ d e=>(ia _ _ (Ne.symm d)).trans e) (W.frame _ _ _ T λb Y o e=>?_) (by simp only[fg,r,a9];exact H) (kk _ m rfl) λE t D u x=>?_⟩
  ·exact(ia _ _ (λh:S=b=>J (by rw[h];exact Y))).trans e
  ·exact q E t D u λb o f d e=>x b o f d ((ia _ _ (Ne.symm d)).trans (g b o f e))
 |false=>
  simp only[fX,aK];refine IR (i6 ?_);rw[pD];refine t3 ⟨r5 F.plain_min_loop _,U (j+1) _ a c (by lia) y z T (by simp only[fg,r,fX,aK];exact p) m λE t D u x=>?_⟩;exact q E t D u λb o f d e=>x b o f d (g b o f e))
theorem IC(W:Walks prog w A.in1 XV fp wr n P St) (d:Nat->Nat->Bool) (y:x3 prog w A.in1 ok P d) (S:WF) (f:S∉fp) (ag:∀h h':s2,ok h->(∀b o,b∉wr->b≠S->h.get? b=some o->h'.get? b=some o)->ok h') (l:0<n) (C:ok s.heap) (E:St 0 s.heap) (i:s.heap.get? S=some {cls:=.type "list",dict:=none,data:=.seq #[] c,slots:= #[]})
  (r:∀v h' tk,P (fg d (n-1)) v->(∀b o,b∉wr->b≠S->s.heap.get? b=some o->h'.get? b=some o)->R (.ok (.ret v)) {s with heap:=h',toks:=tk}):codeAny (AT prog w) A (.builtin "min.loop" ⟨[.ref XV,.none,.ref S],[]⟩) R s:=by(
have t:S∉wr:=λh=>f (W.sub _ h);refine wD F.entry_min_loop ?_;rw[xM F.plain_min_loop _];show wpAny _ A.in1 (wR (.ref S) >>= _) _ _ s;refine IR (h6 i rfl ?_);show wpAny _ A.in1 (tryCatch (eU (.ref XV)) _ >>= _) _ _ s;refine IR (r2 (W.item 0 s _ _ l E λv h' tk p H g=>?_));have j:=g S _ t i;have D:ok h':=ag _ _ C λb o u _ e=>g b o u e;show wpAny _ A.in1 (wQ S (λ_=> #[v,v]) >>= _) _ _ _;refine IR ?_;refine nN j rfl ?_;rw[pD];refine t3 ⟨r5 F.plain_min_loop _,ID W d y S f ag _ 0 _ v _ rfl l (ag _ _ D λb o _ a e=>(ia _ _ (Ne.symm a)).trans e) (W.frame _ _ _ H λb x o e=>?_) p (kk _ j rfl) λL m J q z=>?_⟩
·exact(ia _ _ (λh:S=b=>f (by rw[h];exact x))).trans e
·exact r L m J q λb o k a e=>z b o k a ((ia _ _ (Ne.symm a)).trans (g b o k e)))
end
theorem yg (a:Nat->Nat->Bool) (c:∀i,a i i=false) (tr:∀i j k,a i j=true->a j k=true->a i k=true):∀k,fg a k<=k/\∀j,j<=k->a j (fg a k)=false
 |0=>⟨tz _,λj b=>by rw[xk.mp b];exact c _⟩
 |k+1=>by
  obtain⟨h1,h2⟩:=yg a c tr k;unfold fg;cases q:a (k+1) (fg a k)with
  |true=>
   simp only[a9];refine⟨tz _,λj b=>?_⟩;by_cases e:j=k+1
   ·rw[e];exact c _
   ·cases z:a j (k+1)with
    |false=>rfl
    |true=>have:=tr _ _ _ z q;rw[h2 j (by lia)]at this;cases this
  |false=>
   simp only[fX,aK];refine⟨by lia,λj b=>?_⟩;by_cases e:j=k+1
   ·rw[e];exact q
   ·exact h2 j (by lia)
theorem zZ:∀a:List Int,HT.lexLt a a=false
 |[]=>rfl
 |x::a=>by rw[HT.k2,No rfl];exact zZ a
theorem z1:∀a b c:List Int,HT.lexLt a b=true->HT.lexLt b c=true->HT.lexLt a c=true
 |[],[],_,h,_=>by cases h
 |[],_::_,[],_,h=>by cases h
 |[],_::_,_::_,_,_=>rfl
 |_::_,[],_,h,_=>by cases h
 |_::_,_::_,[],_,h=>by cases h
 |x::a,y::b,z::c,h,h'=>by
  rw[HT.k2]at h h'⊢;by_cases e:x=y
  ·rw[No e]at h;by_cases d:y=z
   ·rw[No d]at h';rw[No (e.trans d)];exact z1 a b c h h'
   ·rw[Ps d]at h';rw[Ps (by lia)];rw[e];exact h'
  ·rw[Ps e]at h;have h1:x<y:=gB h;by_cases d:y=z
   ·rw[Ps (by lia)];exact sK (by lia)
   ·rw[Ps d]at h';have h2:y<z:=gB h';rw[Ps (by lia)];exact sK (by lia)
def Li (K:wf):List W1->Hp->VK->Prop:=λvs H Q=>∃(a:WF) (as:List WF) (L:List (List Int)),vs=[W1.ref a]/\TD K H a (as.map W1.ref)/\Paired (λb ns=>H b=some (.tup (ns.map W1.int))) as L/\0<as.length/\
 ∀(i:Nat) (b:WF) (m:List Int),as[i]?=some b->L[i]?=some m->(∀c,c∈L->HT.lexLt c m=false)->Q (.ref b) H
theorem FI(OR:X.calm=true) (hu:X.A.units+1<cT):hs X (.builtin "min") (Li X.K):=by(
intro WP s ZB H vs us Q XV r h;refine m7 h λa as L O5=>?_;obtain⟨rfl,OW,N,Pc,q⟩:=O5;obtain⟨Op,Y,n,_⟩:=XV.list OW;rw[ww.u3 r];have Pf:Op.length=as.length:=by rw[<- Y.length,FM]
have Pe:L.length=as.length:=(Paired.length N).symm;have at_:∀(i:Nat) (v:Tk),Op.toArray[i]?=some v->∃b ns,as[i]?=some b/\L[i]?=some ns/\v=em b/\∃y,jf s.heap b y/\cD y.toList ns:=λi v hv=>by
 have U:Op[i]?=some v:=by simpa using hv
 have hi:=(aD.mp U).1;obtain⟨b,d⟩:∃b,as[i]?=some b:=⟨_,g1 (by lia)⟩;obtain⟨u,T,O2⟩:=Y.get (show(as.map W1.ref)[i]?=some (W1.ref b) by rw[pr,d];rfl);rw[U]at T;cases T;cases O2;obtain⟨ns,p,OP⟩:=Dv.eu N d;obtain⟨z,Ph,rt,x⟩:=XV.ag b _ OP;exact he b ns d p O (B x (by simpa using intsAre_of rt))
have OS:∃o,s.heap.get? a=some o:=by obtain⟨o,e,_⟩:=n.isList;exact⟨o,e⟩
obtain⟨Pg,OV⟩:=OS;have J:a<s.heap.objs.size:=cr OV;refine call_function_tree F.kind_min F.plain_min F.entry_min (F.args_min1 _) ?_;show wpAny _ X.A.in1 (Builtin.Builtins.bindParams "min" ["key","default"] 0 ⟨[],[]⟩ >>= _) _ _ s;refine IR (Dl (show Builtin.Builtins.bindParams "min" ["key","default"] 0 ⟨[],[]⟩=pure [none,none] from rfl) ?_);refine IR (t3 ?_);refine IR (nL n.isList ?_);refine IR (nM ?_);rw[pD];generalize t:s.heap.push {cls:=.type "list_iterator",data:=.fields #[.ref a,.int 0 0]}=h2;have C:∀b o,s.heap.get? b=some o->h2.get? b=some o:=λb o e=>by rw[<- t];exact ln _ e
have D:h2.objs.size=s.heap.objs.size+1:=by rw[<- t];exact cU ..
have W:=Walks.list (prog:=X.prog) (w:=X.w) (A:=X.A.in1) (XV.ok.hd OR) s.heap.objs.size a (cb J) Op.toArray;refine t3 ⟨r5 F.plain_min_loop _,IC (ok:=λh=>∀b o,s.heap.get? b=some o->h.get? b=some o) W (λi j=>HT.lexLt (L.getD i []) (L.getD j [])) (λi j O3 O4 s' OH O9 ok hi f g=>?_) h2.objs.size ?_ ?_ (by simp;lia) (λb o e=>ln _ (C b o e)) ?_ (bc _ rfl) λv h' tk OQ l=>?_⟩
·refine iS (at_ i O3 hi) λb ns O6=>?_;obtain⟨d,p,rfl,y,x,OX⟩:=O6;refine iS (at_ j O4 f) λO_ O1 O7=>?_;obtain⟨Pa,OU,rfl,Pd,OZ,OY⟩:=O7;have OI:L.getD i []=ns:=by rw[np,p];rfl
 have OJ:L.getD j []=O1:=by rw[np,OU];rfl
 replace g:OH (sD (HT.lexLt (L.getD i []) (L.getD j []))) s':=g
 rw[OI,OJ]at g;obtain⟨o,OK,OM,g3⟩:=x;obtain⟨o',OL,ON,OO⟩:=OZ;exact HT.z6 (A:=X.A.in1) (zn o (ok _ _ OK) OM g3) (zn o' (ok _ _ OL) ON OO) OX OY (by show X.A.units+1<cT;exact hu) g
·rw[D];intro m;rcases rs.mp m with e|e
 ·exact Nat.succ_ne_self _ e
 ·exact Nat.not_lt.mpr (ie _) (xi (kn (sc.mp e)) J)
·intro h h' ok l b o e;have d:=cr e;exact l b o (λm=>cb d (sc.mp m)) (by rw[D];exact cb (lZ d)) (ok b o e)
·refine⟨(zn ({cls:=.type "list_iterator",data:=.fields #[.ref a,.int 0 0]}) ?_ O O),?_⟩
 ·refine ln _ (by rw[<- t];exact bc _ rfl)
 ·have:=n.isList;obtain⟨o,e,c1,c2⟩:=this;exact zn o (ln _ (C _ _ e)) c1 c2
·have d:=yg (λi j=>HT.lexLt (L.getD i []) (L.getD j [])) (λi=>zZ _) (λi j k=>z1 _ _ _) (Op.toArray.size-1);refine gl (at_ _ v OQ) λb ns h1 E O8 _=>?_;subst O8;refine IN (.ref b) H (XV.kept (t':=tk) λc o e=>l c o ?_ ?_ (ln _ (C _ _ e))) O (q _ b ns h1 E λO0 OT=>?_)
 ·exact λm=>cb (cr e) (sc.mp m)
 ·rw[D];exact cb (lZ (cr e))
 ·obtain⟨j,f⟩:=fW.mp OT;have Pb:=(aD.mp f).1;have:=d.2 j (by simp;lia)
  replace this:HT.lexLt (L.getD j []) (L.getD (fg (λi j=>HT.lexLt (L.getD i []) (L.getD j [])) (Op.toArray.size-1)) [])=false:=this
  rw[show L.getD j []=O0 by rw[np,f];rfl]at this;rw[show L.getD (fg (λi j=>HT.lexLt (L.getD i []) (L.getD j [])) (Op.toArray.size-1)) []=ns by rw[np,E];rfl]at this;exact this)
end L2
namespace Dv
open PySem L2 Tw
variable {P:fr}{w:g2}{K:wf}{mg:Str->Option Tk}{base:s2}{CP CN CS CL CG:WF}
abbrev qn:v2:=na 37
abbrev qF:v2:=na 38
abbrev qu:v2:=na 39
abbrev qM:v2:=na 40
abbrev qN:v2:=na 41
abbrev qC:v2:=na 42
abbrev qg:v2:=na 43
abbrev qm:v2:=na 48
structure eG (mg:Str->Option Tk):Prop where
 c1:a_ mg "NO_WAY" (-1)
 c3:a_ mg "TOO_MANY" (-3)
 un:a_ mg "UNREACHED" (-1)
 wk:a_ mg "WALKED" (-1)
 nv:a_ mg "NEVER" 1000000
 m8:a_ mg "MOST_RIDES_OF_FRONT" 8
 min:mg "min"=none
 list:mg "list"=none
 sorted:mg "sorted"=none
noncomputable def am (a:DA):List Int:=a.code::(if a.code<0 then []else a.out)
noncomputable def gq (most:Int) (L:List (List Int)):List Int:=if(L.length:Int)<=most then(L.length:Int)::L.flatten else [-3]
theorem AX (most:Int) (L:List (List Int)):gq most L=am (lV most L):=by(
unfold gq am lV;by_cases c:(L.length:Int)<=most
·simp only[No c];rw[Ps (by lia)]
·simp only[Ps c,bM];rfl)
def j5:Sp:=λvs H Q _=>∃(b:WF) (most:Int) (c:List W1) (L:List (List Int)),vs=[.ref b,.int most]/\H b=some (.lst c)/\Paired (λv r=>TupAt H v (r.map W1.int)) c L/\most<=4096/\(∀r,r∈L->r.length<=9)/\
 ∀(I:Hp) (a:WF),Tl H I->H a=none->I a=some (.lst ((gq most L).map W1.int))->Q (.ref a) I
theorem ph {a:Int}(h:(decide (0<=a)&&decide (a<=4096))=true):a<=4096:=by simp only[ev,dL]at h;exact h.2
theorem ve:pu ["rows","most","answer","row"] zam (s1 qm):=nb rfl rfl rfl (by decide +kernel)
theorem Jx(F:sB K "counted" "counted" qm f fd) (T:bU K mg CP) (U:eG mg):AC P w K mg base xL 1 f fd zam j5:=by(
refine F.ar ve (λvs H Q E h=>?_) (λJ C outer s0 H vs Q E OH h=>?_)
·refine jX h λd most l L z _=>?_;subst z;rfl
·intro D;refine pR h λd most l L A g p N o k=>?_;subst A;refine B (On (jp (ga m6 (a0 b6 (by rfl) T.len b0 (UV (V 0) PP)) (V 1) (li _)) (Fa (tt (db (UV (nl U.c3 rfl) PP)))) ii)
  (On (zS 2 ve (db (UV (a0 b6 (by rfl) T.len b0 (UV (V 0) PP)) PP)))
  (On (cH bN rfl (cy (V 0)) (zG 3 ve)
   (Fa (ca (cG cm DH DI II (V 2) (UV (V 3) PP)))))
  (Fa (tt (V 2)))))) ?_
 have j:l.length=L.length:=Paired.length p;refine B rfl (IN d _ O (.inl (TD.of g)) (B rfl (IN _ _ O O (B rfl ?_))));by_cases c:most<(L.length:Int)
 ·rw[sK (by rw[j];exact c)];refine wn ⟨by show 1<=Gc;decide,λa b=>k _ a (Tl.new b) b ?_⟩;unfold gq;rw[KE,Ps (by lia)];rfl
 ·rw[sn (by rw[j];exact c)];refine v6 (B rfl (he d _ O (.inl (TD.of g)) (by show 1<=Gc;decide) (λa b=>?_)));have u:Tl H (Uf H a (.lst [W1.int (l.length:Int)])):=Tl.new b;refine B rfl (zn d O ⟨_,TD.of (u _ _ g)⟩ ?_)
  let q:Nat->St->Hp->Prop:=λi ZB H2=>∃n,ZB=[some (.ref d),some (.int most),some (.ref a),n]/\H2=Uf H a (.lst (((L.length:Int)::(L.take i).flatten).map W1.int))
  refine gM (K:=K) (a:=d) (xs:=l) q
   (Ix none O (by rw[j];rfl)) (λi ZB H2 _ y=>by obtain⟨_,_,e⟩:=y;rw[e];exact TD.of (Tl.new b _ _ g)) ?_ ?_
  ·rintro i v ZB H2 hi ⟨n,rfl,rfl⟩;obtain⟨r,m,ta,rfl,s⟩:=eu p hi;have Y:=(aD.mp m).1;have fl:((L.take i).flatten).length<=9*i:=by
    rw[Cq];have:=nF cC 9 (L.take i) λx t=>o x (ox t);rw[aP]at this;have hm:min i L.length<=i:=Nat.min_le_left ..;have:=Nat.mul_le_mul_left 9 hm;lia
   have OI:=o r (pi m);refine zn _ O (.inl ⟨O,⟨_,TD.of KE⟩⟩) (B rfl (bi a ta _ _ O O KE (pm.of (Tl.new b _ _ s)) ?_ ?_))
   ·simp only[FM,bt];exact ed (small (by lia))
   ·refine B rfl ?_;rw[gZ,cB,m,cK,List.flatten_append,<-bL];simp
  ·rintro ZB H2 ⟨n,rfl,rfl⟩;refine B rfl (k _ a (Tl.new b) b ?_);rw[KE,j,dy];unfold gq;rw[No (by lia)])
theorem iU (N:Nt) (S:SS):∀k,aN N S k=a8 N S k
 |0=>rfl
 |k+1=>by show cA N (aN N S k)=cA N (a8 N S k);rw[iU N S k]
def cI (CP CN:WF) (args:List Int->Option c9) (n:Nat):Sp:=λvs H Q _=>∃(A:PA) (T:t1) (m:Nat) (l:List Int) (c:c9),vs=W1.ref A.x::l.map W1.int/\l.length=n/\args l=some c/\cd CP CN H A T m/\eY T/\m+2<=1000/\
 ∀(I:Hp) (a:WF),cd CP CN I A T (m+2)->Ch [A.n] H I->H a=none->I a=some (.lst ((am (Ev T c).1).map W1.int))->Q (.ref a) I
noncomputable def iA:List Int->Option c9
 |[a,b,d,t]=>some (.earliest a b d t)
 |_=>none
noncomputable def iD:List Int->Option c9
 |[a,b,d,t]=>some (.latest a b d t)
 |_=>none
theorem Bb:pu ["plan","start","goal","day","minute","search"] zac (s1 qn):=nb rfl rfl rfl (by decide +kernel)
theorem Be:pu ["plan","start","goal","day","minute","search"] zac (s1 qF):=nb rfl rfl rfl (by decide +kernel)
theorem jy(h:b1 T a b d t=true):∃(x y e:Nat),a=(x:Int)/\b=(y:Int)/\d=(e:Int)/\x<T.stops.length/\y<T.stops.length/\e<7/\0<=t/\t<2880:=by
 unfold b1 eV u8 at h;simp only[ev,dL]at h;exact b_ a.toNat b.toNat d.toNat ⟨by lia,by lia,by lia,by lia,by lia,by lia,by lia,by lia⟩
theorem gF(h:Ch l H I) (c:I a=none) (d:∀b,b∈l->I b≠none):H a=none:=by(
cases q:H a with
|none=>rfl
|some o=>
 have:=h a o q λz=>d a z c;rw[c]at this;cases this)
theorem int_at{l:List Int}(h:i<l.length):(l.map W1.int)[i]?=some (W1.int (l.getD i 0)):=by
 rw[pr,bV h 0];rfl
theorem k7{l:List Nat}(h:i<l.length):(l.map Rs)[i]?=some (Rs (l.getD i 0)):=by
 rw[pr,bV h 0];rfl
theorem Jy(F:sB K "earliest" "earliest" qn f fd) (T:bU K mg CP) (U:eG mg) (X:bg K mg CS CN)
  (OQ:AC P w K mg base xL 2 OM OX zac (hW CP CN)) (OT:Binds K OX zac []) (O_:mg "can_ask"=some (.ref OM)) (O7:cV K (.ref OM)=true)
  (OR:AC P w K mg base xL 4 OW OY zab (fM CP CN hx)) (OU:Binds K OY zab []) (O9:cf K CP "forward" OW)
  (OS:AC P w K mg base xL 6 ON OZ zah (lC CS CN)) (OV:Binds K OZ zah []) (Pa:mg "searched"=some (.ref ON)) (O8:cV K (.ref ON)=true):AC P w K mg base xL 7 f fd zac (cI CP CN iA 4):=by(
refine F.ar Bb (λvs H Q E h=>?_) (λPm Pk outer s0 H vs Q E OJ h=>?_)
·refine gR h λA i m l c Pd OI _=>?_;subst Pd;simp[OI]
·intro Pl;refine gS h λA i m l c Pe OI O4 D hT hm k=>?_;subst Pe;obtain⟨a,b,d,t,rfl⟩:=d0 OI;cases O4;refine B (On (jp (bQ (cz (ge OQ (OJ.mono) rfl O_ O7 OT .nil ws (UV (V 0) (UV (V 1) (UV (V 2) (UV (V 3) (UV (V 4) PP)))))))) (Fa (tt (db (UV (nl T.c2 rfl) PP)))) ii)
  (On (zS 5 Bb (ge OS OJ rfl Pa O8 OV .nil ws (UV (aA (V 0) T.cl O9 OR (OJ.mono) OU .nil ws (UV (V 3) PP)) (UV (V 1) (UV (V 4) PP)))))
  (On (jp (ga c0 (xz wE (wS (V 5) rfl) (V 2)) (nl U.nv rfl) (li _)) (Fa (tt (db (UV (nl U.c1 rfl) PP)))) ii)
  (Fa (tt (db (UV EQ (UV (xz wE (wS (V 5) rfl) (V 2)) (UV (xz wE (wS (V 5) rfl) (V 2)) PP))))))))) ?_
 refine B rfl (B rfl (B rfl (B rfl (B rfl (g8 A i m a b d t ⟨O,D,B rfl ?_⟩)))));rw[jS];cases C:b1 i a b d t with
 |false=>
  have s:Ev i (.earliest a b d t)=(bM (-2),i):=by simp only[Ev,C,a9]
  rw[s]at k;exact wn ⟨by show 1<=Gc;decide,λp g=>k _ p ((D.same (Tl.new g)).more (by lia)) ((Tl.new g).but _) g KE⟩
 |true=>
  refine jW (jy C) λx y e Pf Pg Ph u OK O5 Po Pp=>?_;subst Pf;subst Pg;subst Ph;refine v6 (B rfl (nw A.x A.dx _ O D.ob O (B rfl (bi A i m e O D hT O5 (by lia) (λH1 v O2 hv O0 Pn=>?_)))));refine Do hv λn N Pj O1 Y=>?_;subst Pj;have hz:=jJ hT e Y;obtain⟨ok,same,r⟩:=dF hT.bd Y;refine B rfl (B rfl (Db n N x t O O1 hz (by rw[r];exact u) (λH2 S j o q OP=>?_)));have OH:=O2.same OP;have L:Ch [A.n] H H2:=O0.tr (OP.but []) λb q=>by simp at q
  have OL:=j1 ok (kL ok (s0:=x) (t0:=t) (by rw[r];exact u) (by unfold FS;lia)) j;rw[<- iU]at OL;have J:=fJ (((fw hz).av (stop:=x) (by rw[r];exact u) t t).bI (by rw[r];exact u) t) j;generalize O3:aN N (cp N x t) j=SS at o q OL;have J:pp N SS:=by rw[<- O3];exact J
  obtain⟨Pb,Pc⟩:=y4 hT.bd Y u OK OL q (by unfold FS;lia);have OO:y<SS.arr.length:=by rw[J.arr,r];exact OK
  have O6:y<SS.rides.length:=by rw[J.rides,r];exact OK
  have free:∀ {p:WF},H2 p=none->H p=none:=λg=>gF L g λb q=>OH.there (by simp only[sc]at q;rw[q];simp[PA.own]);refine B rfl (wv S.x CS S.dx _ _ O o.ob X.aq X.dJ O (B rfl (bi S.a1 _ _ _ O O (TD.of o.arr) (lv (int_at OO)) O (B rfl ?_))));by_cases c:SS.arr.getD y 0=FS
  ·rw[sK (by rw[c];rfl)];have s:Ev i (.earliest x y e t)=(bM (-1),i):=by simp only[Ev,C,c',aK,ee,Pb c]
   rw[s]at k;refine wn ⟨by show 1<=Gc;decide,λp g=>?_⟩;exact k _ p ((OH.same (Tl.new g)).more (by lia)) (L.new g) (free g) KE
  ·rw[sn (by intro z;injection z with z;exact c z)];have s:Ev i (.earliest x y e t)=(⟨0,[SS.arr.getD y 0,((SS.rides.getD y 0:Nat):Int)]⟩,i):=by simp only[Ev,C,c',aK,ee,Pc c]
   rw[s]at k;refine v6 (B rfl (wv S.x CS S.dx _ _ O o.ob X.aq X.dJ O (B rfl (Db S.a1 _ _ _ O O (TD.of o.arr) (lv (int_at OO)) (B rfl (wv S.x CS S.dx _ _ O o.ob X.aq X.nr O (B rfl (bi S.a2 _ _ _ O O (TD.of o.rides) (lv (k7 O6)) (by show 3<=Gc;decide) (λp g=>?_)))))))));exact k _ p ((OH.same (Tl.new g)).more (by lia)) (L.new g) (free g) KE)
theorem JO(F:sB K "latest" "latest" qF f fd) (T:bU K mg CP) (U:eG mg) (X:bg K mg CS CN)
  (OQ:AC P w K mg base xL 2 OM OX zac (hW CP CN)) (OT:Binds K OX zac []) (O_:mg "can_ask"=some (.ref OM)) (O7:cV K (.ref OM)=true)
  (OR:AC P w K mg base xL 5 OW OY zab (fM CP CN me)) (OU:Binds K OY zab []) (O9:cf K CP "mirrored" OW)
  (OS:AC P w K mg base xL 6 ON OZ zah (lC CS CN)) (OV:Binds K OZ zah []) (Pa:mg "searched"=some (.ref ON)) (O8:cV K (.ref ON)=true):AC P w K mg base xL 7 f fd zac (cI CP CN iD 4):=by(
refine F.ar Be (λvs H Q E h=>?_) (λPm Pk outer s0 H vs Q E OJ h=>?_)
·refine gR h λA i m l c Pf OI _=>?_;subst Pf;simp[OI]
·intro Pl;refine gS h λA i m l c Pg OI O4 D hT hm k=>?_;subst Pg;obtain⟨a,b,d,t,rfl⟩:=d0 OI;cases O4;refine B (On (jp (bQ (cz (ge OQ (OJ.mono) rfl O_ O7 OT .nil ws (UV (V 0) (UV (V 1) (UV (V 2) (UV (V 3) (UV (V 4) PP)))))))) (Fa (tt (db (UV (nl T.c2 rfl) PP)))) ii)
  (On (zS 5 Be (ge OS OJ rfl Pa O8 OV .nil ws (UV (aA (V 0) T.cl O9 OR (OJ.mono) OU .nil ws (UV (V 3) PP)) (UV (V 2) (UV (eL eP (V 4)) PP)))))
  (On (jp (ga c0 (xz wE (wS (V 5) rfl) (V 1)) (nl U.nv rfl) (li _)) (Fa (tt (db (UV (nl U.c1 rfl) PP)))) ii)
  (Fa (tt (db (UV EQ (UV (eL eP (xz wE (wS (V 5) rfl) (V 1))) (UV (xz wE (wS (V 5) rfl) (V 1)) PP))))))))) ?_
 refine B rfl (B rfl (B rfl (B rfl (B rfl (g8 A i m a b d t ⟨O,D,B rfl ?_⟩)))));rw[jS];cases C:b1 i a b d t with
 |false=>
  have s:Ev i (.latest a b d t)=(bM (-2),i):=by simp only[Ev,C,a9]
  rw[s]at k;exact wn ⟨by show 1<=Gc;decide,λp g=>k _ p ((D.same (Tl.new g)).more (by lia)) ((Tl.new g).but _) g KE⟩
 |true=>
  refine jW (jy C) λx y e Ph Pj Pd OK u O5 Po Pp=>?_;subst Ph;subst Pj;subst Pd;refine v6 (B rfl (nw A.x A.dx _ O D.ob O (B rfl (bi A i m e O D hT O5 (by lia) (λH1 v O2 hv O0 Pn=>?_)))));refine Do hv λn N Pe O1 Y=>?_;subst Pe;have hz:=yC hT e Y;obtain⟨ok,same,r⟩:=jB hT.bd Y;refine B rfl (B rfl (Ix t O (Db n N y (-t) O O1 hz (by rw[r];exact u) (λH2 S j o q OP=>?_))));have OH:=O2.same OP;have L:Ch [A.n] H H2:=O0.tr (OP.but []) λb q=>by simp at q
  have OL:=j1 ok (kL ok (s0:=y) (t0:= -t) (by rw[r];exact u) (by unfold FS;lia)) j;rw[<- iU]at OL;have J:=fJ (((fw hz).av (stop:=y) (by rw[r];exact u) (-t) (-t)).bI (by rw[r];exact u) (-t)) j;generalize O3:aN N (cp N y (-t)) j=SS at o q OL;have J:pp N SS:=by rw[<- O3];exact J
  obtain⟨Pb,Pc⟩:=Ii hT.bd Y OK u OL q (by unfold FS;lia);have OO:x<SS.arr.length:=by rw[J.arr,r];exact OK
  have O6:x<SS.rides.length:=by rw[J.rides,r];exact OK
  have free:∀ {p:WF},H2 p=none->H p=none:=λg=>gF L g λb q=>OH.there (by simp only[sc]at q;rw[q];simp[PA.own]);refine B rfl (wv S.x CS S.dx _ _ O o.ob X.aq X.dJ O (B rfl (bi S.a1 _ _ _ O O (TD.of o.arr) (lv (int_at OO)) O (B rfl ?_))));by_cases c:SS.arr.getD x 0=FS
  ·rw[sK (by rw[c];rfl)];have s:Ev i (.latest x y e t)=(bM (-1),i):=by simp only[Ev,C,c',aK,ee,Pb c]
   rw[s]at k;refine wn ⟨by show 1<=Gc;decide,λp g=>?_⟩;exact k _ p ((OH.same (Tl.new g)).more (by lia)) (L.new g) (free g) KE
  ·rw[sn (by intro z;injection z with z;exact c z)];have s:Ev i (.latest x y e t)=(⟨0,[-(SS.arr.getD x 0),((SS.rides.getD x 0:Nat):Int)]⟩,i):=by simp only[Ev,C,c',aK,ee,Pc c]
   rw[s]at k;refine v6 (B rfl (wv S.x CS S.dx _ _ O o.ob X.aq X.dJ O (B rfl (Db S.a1 _ _ _ O O (TD.of o.arr) (lv (int_at OO)) (B rfl (B rfl (wv S.x CS S.dx _ _ O o.ob X.aq X.nr O (B rfl (bi S.a2 _ _ _ O O (TD.of o.rides) (lv (k7 O6)) (by show 3<=Gc;decide) (λp g=>?_))))))))));exact k _ p ((OH.same (Tl.new g)).more (by lia)) (L.new g) (free g) KE)
def Gf (P:fr) (w:g2) (K:wf) (mg:Str->Option Tk) (base:s2) (k:Nat) (x:Str) (ps:List Str) (sp:Sp):Prop:=∃f fd,AC P w K mg base xL k f fd ps sp/\Binds K fd ps []/\mg x=some (.ref f)/\cV K (.ref f)=true
def Gm (P:fr) (w:g2) (K:wf) (mg:Str->Option Tk) (base:s2) (k:Nat) (C:WF) (x:Str) (ps:List Str) (sp:Sp):Prop:=∃f fd,AC P w K mg base xL k f fd ps sp/\Binds K fd ps []/\cf K C x f
theorem Aw{f:W1->List W1}{g:Int->List Int}(hf:∀x,f (.int x)=(g x).map W1.int):∀ {as:List WF}{l:List Int},Paired (λa x=>H a=some (.tup (f x))) as (l.map W1.int)->Paired (λv r=>TupAt H v (r.map W1.int)) (as.map W1.ref) (l.map g)
 |[],[],_=>.nil
 |[],_::_,h=>by cases h
 |_::_,[],h=>by cases h
 |a::as,x::l,h=>by
  rw[m0]at h;cases h with
  |cons r t=>exact .cons (Ix a O (by rw[r,hf])) (Aw hf t)
noncomputable def u1:W1->List W1
 |.int x=>[.int (if x<1000000 then x else -1)]
 |_=>[]
noncomputable def iF:List Int->Option c9
 |[a,d,t,m]=>some (.reach a d t m)
 |_=>none
theorem q5:pu ["plan","start","day","minute","most","search","rows","arrival"] zaF (s1 qN):=nb rfl rfl rfl (by decide +kernel)
theorem GO {a c:Type}(f:a->c) (l:List a):(l.map λx=>[f x]).flatten=l.map f:=by(
induction l with
|nil=>rfl
|cons x l b=>rw[m0,kv,b];rfl)
theorem JW(F:sB K "reach" "reach" qN f fd) (T:bU K mg CP) (U:eG mg) (X:bg K mg CS CN)
  (O6:Gf P w K mg base 2 "can_ask" zac (hW CP CN)) (O9:Gf P w K mg base 1 "is_most" zai j6) (O7:Gm P w K mg base 4 CP "forward" zab (fM CP CN hx))
  (O_:Gf P w K mg base 6 "searched" zah (lC CS CN)) (O8:Gf P w K mg base 1 "counted" zam j5):AC P w K mg base xL 7 f fd zaF (cI CP CN iF 4):=by(
refine gl O6 λPQ PZ OV O1 Pq Pk=>?_;refine gl O9 λPV P2 GM O4 Pt Pm=>?_;refine Do O7 λPR P0 OW O2 Pp=>?_;refine gl O_ λPX P4 OY O5 Pu Pn=>?_;refine gl O8 λPU P1 OX O3 Pr Pl=>?_;refine F.ar q5 (λvs H Q E h=>?_) (λPN PK outer s0 H vs Q E C h=>?_)
·refine gR h λA o m l c PB OK _=>?_;subst PB;simp[OK]
·intro PM;refine gS h λA o m l c PD OK Pg D hT hm k=>?_;subst PD;obtain⟨a,d,t,q,rfl⟩:=d0 OK;cases Pg;refine B (On (jp (PW.pt (ew (bQ (cz (ge OV (C.mono) rfl Pq Pk O1 .nil ws (UV (V 0) (UV (V 1) (UV (V 1) (UV (V 2) (UV (V 3) PP)))))))) (gU (bQ (cz (ge GM (C.mono) rfl Pt Pm O4 .nil ws (UV (V 4) PP))))))) (Fa (tt (db (UV (nl T.c2 rfl) PP)))) ii)
  (On (zS 5 q5 (ge OY C rfl Pu Pn O5 .nil ws (UV (aA (V 0) T.cl Pp OW (C.mono) O2 .nil ws (UV (V 2) PP)) (UV (V 1) (UV (V 3) PP)))))
  (On (p4 (i:=6) (own:=[("arrival",7)]) rfl q5.nd rfl rfl rfl (cy (wS (V 5) rfl)) (fx rfl) (λ_ _ _ _ _=>zG 7 q5) (λ_ _ _ _ _=>gn) (λ_ _ _ _ _=>bX (UV (KH (ga d1 (V 7) (nl U.nv rfl) (li _)) (V 7) (nl U.un rfl)) PP)))
  (Fa (tt (ge OX (C.mono) rfl Pr Pl O3 .nil ws (UV (V 6) (UV (V 4) PP)))))))) ?_
 have OO:(b1 o a a d t&&u8 q 0 4096)=false->∀p,H p=none->Q (.ref p) (Uf H p (.lst [W1.int (-2)])):=λe p u=>by
  have Pa:Ev o (.reach a d t q)=(bM (-2),o):=by simp only[Ev,e,a9]
  rw[Pa]at k;exact k _ p ((D.same (Tl.new u)).more (by lia)) ((Tl.new u).but _) u KE
 refine B rfl (B rfl (B rfl (B rfl (B rfl (g8 A o m a a d t ⟨O,D,B rfl ?_⟩)))));rw[jS];cases Y:b1 o a a d t with
 |false=>exact wn (wn ⟨by show 1<=Gc;decide,OO (by rw[Y];rfl)⟩)
 |true=>
  refine v6 (B rfl (Ix q O (B rfl ?_)));cases OI:(decide (0<=q)&&decide (q<=4096))with
  |false=>exact wn ⟨by show 1<=Gc;decide,OO (by rw[Y,show u8 q 0 4096=false from OI];rfl)⟩
  |true=>
   refine jW (jy Y) λx y e PF P9 PH L P_ Ph P7 P8=>?_;subst PF;subst PH;refine v6 (B rfl (nw A.x A.dx _ O D.ob O (B rfl (bi A o m e O D hT Ph (by lia) (λH1 v Pe hv Pb P6=>?_)))));refine Do hv λn N PJ Pd OJ=>?_;subst PJ;have hz:=jJ hT e OJ;obtain⟨ok,same,J⟩:=dF hT.bd OJ;refine B rfl (B rfl (Db n N x t O Pd hz (by rw[J];exact L) (λH2 S j OH s OS=>?_)));have OQ:=Pe.same OS;have OP:Ch [A.n] H H2:=Pb.tr (OS.but []) λb s=>by simp at s
   have OL:=j1 ok (kL ok (s0:=x) (t0:=t) (by rw[J];exact L) (by unfold FS;lia)) j;rw[<- iU]at OL;have ON:=fJ (((fw hz).av (stop:=x) (by rw[J];exact L) t t).bI (by rw[J];exact L) t) j;generalize Pf:aN N (cp N x t) j=SS at OH s OL;have ON:pp N SS:=by rw[<- Pf];exact ON
   have bn:=Lr hT.bd OJ L OL s (by unfold FS;lia);have Po:SS.arr.length=o.stops.length:=by rw[ON.arr,J]
   have P5:=hT.sz.stops;refine B rfl (wv S.x CS S.dx _ _ O OH.ob X.aq X.dJ O (zn S.a1 O ⟨_,TD.of OH.arr⟩ (λOU Pw=>?_)));refine zQ u1 Pw (TD.of OH.arr) (by rw[FM];exact ed (small (by lia))) (λv hv OZ PL OM OR=>?_) λOZ as Qb Pc Px OM PY=>?_
   ·obtain⟨z,Qa,rfl⟩:=mo.mp hv;refine⟨O,B rfl (IN _ _ O O (B rfl ?_))⟩;by_cases c:z<1000000
    ·rw[sK c];refine wn (zn _ O (by show 1<=Gc;decide) (λp u=>?_));have:=OR p u;simp only[u1,No c]at this;exact this
    ·rw[sn c];refine v6 ⟨by show 1<=Gc;decide,λp u=>?_⟩;have:=OR p u;simp only[u1,Ps c]at this;exact this
   ·have Py:=Aw (g:=λx=>[if x<1000000 then x else -1]) (λx=>rfl) Px;refine B rfl (B rfl (bi OU q _ _ O Pc Py (ph OI) (λr C=>?_) (λO0 p Pz u Pj=>?_)))
    ·obtain⟨z,_,rfl⟩:=mo.mp C;show 1<=9;decide
    have OT:=OM.tr Pz;refine k O0 p ((OQ.same OT).more (by lia)) (OP.tr (OT.but []) λb s=>by simp at s) ?_ ?_
    ·exact gF OP (OM.free u) λb s=>OQ.there (by simp only[sc]at s;rw[s];simp[PA.own])
    ·rw[Pj];have eq:gq q (SS.arr.map λx=>[if x<1000000 then x else -1])=am (Ev o (.reach x e t q)).1:=by
      have hw:(b1 o x x e t&&u8 q 0 4096)=true:=by rw[Y,show u8 q 0 4096=true from OI];rfl
      unfold gq;rw[FM,Po,GO];by_cases c:q<(o.stops.length:Int)
      ·simp only[Ev,hw,c,a9,c',aK,bM];rw[Ps (by lia)];rfl
      ·simp only[Ev,hw,c,c',aK,ee];rw[No (by lia),bn];unfold am;rw[Ps (show ¬((o.stops.length:Int)<0) by lia)];rfl
     rw[eq])
end Dv
namespace L2
open PySem
theorem Ij{n:TT}{j:Hp->Prop}(p:W1->Bool) (k:H1 D=none) (o:TD K H1 a xs) (hz:xs.length<=Gc)
  (hv:∀x,nm ((nm ZB [v]).set v (some x)) [v]=nm ZB [v]) (hg:∀x,((nm ZB [v]).set v (some x))[v]?=some (some x))
  (step:∀x,x∈xs->∀(H:Hp) (R:Bool->Hp->Prop),Tl H1 H->R (p x) H->n ((nm ZB [v]).set v (some x)) H R) (post:j (Uf H1 D (.lst (xs.filter p)))):
  ∃W:Nat->Nat->Hp->Prop,(∃m,W 0 m (Uf H1 D (.lst [])))/\∀i m H,W i m H->
   ((cO K a).stop i H/\j H)\/((cO K a).go i H/\∃d:Hp->Prop,(∀I,d I->∃l,l<m/\W (i+1) l I)/\∀x I,(cO K a).eQ i H x I->bh v x (nm ZB [v]) I λf H2=>nm f [v]=nm ZB [v]/\n f H2 λb g=>
    if b=true then bY v f g λy h=>∃acc,h D=some (.lst acc)/\acc.length<Gc/\d (Uf h D (.lst (acc++[y])))else d g):=by(
refine mP (xs:=xs) (λi H=>H=Uf H1 D (.lst ((xs.take i).filter p))) (by simp) (λi H _ (e:H=_)=>by rw[e];exact o.same (Tl.new k)) ?_ (λH (e:H=_)=>by rw[e,dy];exact post);rintro i x H hi rfl;have q:i<xs.length:=(aD.mp hi).1;refine⟨hv x,step x (pi hi) _ _ (Tl.new k) ?_⟩;have e:(xs.take (i+1)).filter p=(xs.take i).filter p++(if p x=true then [x]else []):=by
 rw[cB,hi,cK,ku]
 congr 1
 by_cases c:p x=true<;>simp[c]
rw[e];cases c:p x with
|true=>
 rw[No rfl];refine Ix x (hg x) (zn _ KE ?_ (by rw[gZ,No rfl]));have h1:=l7 p (xs.take i);rw[aP]at h1;lia
|false=>
 rw[Ps (by simp),Ps (by simp),fm])
end L2
namespace Dv
open PySem L2 Tw
variable {P:fr}{w:g2}{K:wf}{mg:Str->Option Tk}{base:s2}{CP CN CS CL CG:WF}
theorem Kx{p:b->Bool}{q:c->Bool}(h:∀x y,R x y->p x=q y) (z:Paired R xs ys):Paired R (xs.filter p) (ys.filter q):=by(
induction z with
|nil=>exact .nil
|cons r t a=>
 rw[oE,oE,h _ _ r];split
 ·exact .cons r a
 ·exact a)
theorem Av:∀ {xs:List a}{ys:List b}(k:Nat),Paired R xs ys->Paired R (xs.take k) (ys.take k)
 |_,_,0,_=>.nil
 |_,_,_+1,.nil=>.nil
 |_,_,k+1,.cons r t=>.cons r (Av k t)
theorem oS(h:xs[xs.length-1]?=some v):dW xs (-1)=some v:=by(
have h0:=(aD.mp h).1;unfold dW e7;rw[Ps (by lia),No (by lia)];show xs[_]?=some v;rw[<- h]
congr 1
lia)
noncomputable def iz:List Int->Option c9
 |[s,d,t,m]=>some (.board s d t m)
 |_=>none
theorem fL:pu ["plan","stop","day","minute","most","network","rows","goes","run","call","trip","begins","stops","comes","leaving"] zaG (s1 qg):=nb rfl rfl rfl (by decide +kernel)
noncomputable def e5 (H:Hp) (t:Int) (v:W1):Bool:=match j_ H v with
 |.int g::_=>decide (t<=g)
 |_=>false
theorem Js(F:sB K "board" "board" qg f fd) (T:bU K mg CP) (U:eG mg) (X:bg K mg CS CN)
  (PR:Gf P w K mg base 2 "can_ask" zac (hW CP CN)) (PX:Gf P w K mg base 1 "is_most" zai j6) (PU:Gm P w K mg base 4 CP "forward" zab (fM CP CN hx))
  (PV:Gf P w K mg base 1 "counted" zam j5):AC P w K mg base xL 7 f fd zaG (cI CP CN iz 4):=by
 refine gl PR λQR QV PF PL Qy Qt=>?_;refine gl PX λQU QY GM PQ QA Qv=>?_;refine Do PU λQS QW PH PM Qx=>?_;refine gl PV λQT QX PJ PN Qz Qu=>?_;refine F.ar fL (λvs H Q E h=>?_) (λQP QN outer s0 H vs Q E O0 h=>?_)
 ·refine gR h λA J m l c QI O7 _=>?_;subst QI;simp[O7]
 ·intro QO;refine gS h λA J m l c QJ O7 Qg OY hT hm k=>?_;subst QJ;obtain⟨a,d,t,s,rfl⟩:=d0 O7;cases Qg;refine B (On (jp (PW.pt (ew (bQ (cz (ge PF (O0.mono) rfl Qy Qt PL .nil ws (UV (V 0) (UV (V 1) (UV (V 1) (UV (V 2) (UV (V 3) PP)))))))) (gU (bQ (cz (ge GM (O0.mono) rfl QA Qv PQ .nil ws (UV (V 4) PP))))))) (Fa (tt (db (UV (nl T.c2 rfl) PP)))) ii)
   (On (zS 5 fL (aA (V 0) T.cl Qx PH (O0.mono) PM .nil ws (UV (V 2) PP)))
   (On (zS 6 fL (db PP))
   (On (cH bN rfl (cy (nc nB (iT (own:=[("leaving",14)]) rfl fL.nd (cy (xz wE (wS (V 5) rfl) (V 1))) (fx rfl) (λ_ _ _ _ _=>zG 14 fL) (λ_ _ _ _ _=>K2 (ga (r:=d3 λi j=>.bl (decide (j<=i))) k8 (xz (r:=AI K) gN (V 14) EQ) (V 3) (li _))) (λ_ _ _ _ _=>V 14)) fI (d2 (V 4))))
     (cw rfl (re (zG 7 fL) (re (zG 8 fL) (re (zG 9 fL) cx))))
    (On (dI (xz wE (wS (V 5) rfl) (V 8)) (cw rfl (re (zG 10 fL) (re (zG 11 fL) cx))))
    (On (dI (xz wE (wS (V 5) rfl) (V 8)) (cw rfl (re (zG 12 fL) (re (zG 13 fL) cx))))
    (Fa (ca (cG cm da dc cZ (V 6) (UV (bX (UV (V 7) (UV (V 10) (UV (V 11) (UV (xz wE (V 12) (eL eP EQ)) PP))))) PP)))))))
   (Fa (tt (ge PJ (O0.mono) rfl Qz Qu PN .nil ws (UV (V 6) (UV (V 4) PP))))))))) ?_
  have Pl:(b1 J a a d t&&u8 s 0 4096)=false->∀p,H p=none->Q (.ref p) (Uf H p (.lst [W1.int (-2)])):=λe p OS=>by
   have Y:Ev J (.board a d t s)=(bM (-2),J):=by simp only[Ev,e,a9]
   rw[Y]at k;exact k _ p ((OY.same (Tl.new OS)).more (by lia)) ((Tl.new OS).but _) OS KE
  refine B rfl (B rfl (B rfl (B rfl (B rfl (g8 A J m a a d t ⟨O,OY,B rfl ?_⟩)))));rw[jS];cases OX:b1 J a a d t with
  |false=>exact wn (wn ⟨by show 1<=Gc;decide,Pl (by rw[OX];rfl)⟩)
  |true=>
   refine v6 (B rfl (Ix s O (B rfl ?_)));cases ON:(decide (0<=s)&&decide (s<=4096))with
   |false=>exact wn ⟨by show 1<=Gc;decide,Pl (by rw[OX,show u8 s 0 4096=false from ON];rfl)⟩
   |true=>
    have hw:(b1 J a a d t&&u8 s 0 4096)=true:=by rw[OX,show u8 s 0 4096=true from ON];rfl
    simp only[ev,dL]at ON;refine jW (jy OX) λx y e QK Q_ QL O8 O1 Qh Q7 Q8=>?_;subst QK;subst QL;refine v6 (B rfl (nw A.x A.dx _ O OY.ob O (B rfl (bi A J m e O OY hT Qh (by lia) (λH1 v Po hv Pm Q2=>?_)))));refine Do hv λn N QM Pn OP=>?_;subst QM;have hz:=jJ hT e OP;obtain⟨ok,same,Pu⟩:=dF hT.bd OP;have bn:=Fp hT.bd OP (t:=t) O8;refine et Pn.ex λO4 c r o P0 QZ Rf os ds fs h1 h2 P7 P8 P9 P_ Q0 Q1 Qa P6=>?_;refine⟨f4 _,λb O2=>?_⟩;have D:Tl H1 (Uf H1 b (.lst [])):=Tl.new O2;generalize Qb:Uf H1 b (.lst [])=H2 at D⊢;have Pp:H2 b=some (.lst []):=by rw[<- Qb];exact KE
    have xd:x<N.af.length:=by rw[hz.af,Pu];exact O8
    obtain⟨vd,Qq,es,⟨PZ,rfl,Pr⟩,Pa⟩:=c5 P_ (bV xd []);have Rb:es.length<=300000:=by
     rw[Paired.length Pa];have:=jO (N.af.map cC) x;rw[np,pr,bV xd []]at this;have this:(N.af.getD x []).length<=_:=this;have:=hz.small.2.1;lia
    have Q4:=Pn.same D;refine B rfl (wv n CN O4 _ _ O (D _ _ h1) X.aS X.hK O (B rfl (Db P0 _ _ _ O O (TD.of (D _ _ P9)) (lv Qq) (zn PZ O ⟨_,TD.of (D _ _ Pr)⟩ (λOV Py=>?_)))));refine Ij (e5 H2 t) Py (TD.of (D _ _ Pr)) (ed (small (by lia))) (λ_=>rfl) (λ_=>rfl) (λv hv OL R OK q=>?_) ?_
    ·obtain⟨Y,_,ta,rfl,OR⟩:=m_ Pa hv;have Px:=D _ _ OR;have P5:e5 H2 t (.ref ta)=decide (t<=Y.1):=by simp only[e5,j_,Px,aX]
     rw[P5]at q;exact B rfl (Db ta _ _ _ O O (pm.of (OK _ _ Px)) O (B rfl (IN _ _ O O (B rfl q))))
    have OK:Tl H2 (Uf H2 OV (.lst (es.filter (e5 H2 t)))):=Tl.new Py;generalize Qc:Uf H2 OV (.lst (es.filter (e5 H2 t)))=OL at OK⊢;have P4:OL OV=some (.lst (es.filter (e5 H2 t))):=by rw[<- Qc];exact KE
    refine B rfl (Ix s O (IN OV _ O (TD.of P4) (λOI O9=>?_)));rw[yS _ ON.1];have Pb:Tl OL (Uf OL OI (.lst ((es.filter (e5 H2 t)).take s.toNat))):=Tl.new O9;generalize Qd:Uf OL OI (.lst ((es.filter (e5 H2 t)).take s.toNat))=OJ at Pb⊢;have O5:OJ OI=some (.lst ((es.filter (e5 H2 t)).take s.toNat)):=by rw[<- Qd];exact KE
    have pl:Paired (λv e=>TupAt OJ v (aX e)) ((es.filter (e5 H2 t)).take s.toNat) ((iH N x t).take s.toNat):=by
     have QC:Paired (λv e=>TupAt H2 v (aX e)) es (N.af.getD x []):=aj (λ_ _ q=>q.same D) Pa;have p2:Paired (λv e=>TupAt H2 v (aX e)) (es.filter (e5 H2 t)) (iH N x t):=Kx (λv Y QG=>by obtain⟨ta,P1,P2⟩:=QG;subst P1;simp only[e5,j_,P2,aX]) QC;exact aj (λ_ _ q=>(q.same OK).same Pb) (Av _ p2)
    generalize Q9:(es.filter (e5 H2 t)).take s.toNat=vs at O5 pl⊢;generalize OO:(iH N x t).take s.toNat=OM at pl;have Qe:∀Y,Y∈OM->Y.2.1<N.runs.length:=λY Pt=>by
     rw[<- OO]at Pt;have:=ox Pt;unfold iH at this;exact hz.mB x Y (by rw[Pu];exact O8) (f5.mp this).1
    have Q3:OM.length<=4096:=by rw[<- OO,aP];lia
    have Qw:vs.length=OM.length:=Paired.length pl;have Pz:Tl H2 OJ:=OK.tr Pb;have Pq:OJ b=some (.lst []):=Pz _ _ Pp;have lo:N.aZ.length=N.runs.length:=by rw[OP.aZ,OP.runs];simp[lm,wT]
    have O6:Tl H1 OJ:=D.tr Pz;have PD:OI∉[b]:=λz=>by rw[sc.mp z,OK _ _ Pp]at O9;cases O9
    refine zn OI O ⟨_,TD.of O5⟩ ?_
    let PK:Nat->St->Hp->Prop:=λi ZB C=>∃Pg Ph Pj Pc Pd Pe Pf bs,ZB=[some (.ref A.x),some (Rs x),some (Rs e),some (.int t),some (.int s),some (.ref n),some (.ref b),Pg,Ph,Pj,Pc,Pd,Pe,Pf,none]/\C b=some (.lst bs)/\Paired (λv r=>TupAt (hide [b] C) v (r.map W1.int)) bs ((OM.take i).map (fB N))/\Ch [b] OJ C
    refine gM (K:=K) (a:=OI) (xs:=vs) PK
     (fc none none none none none none none ([]) ⟨O,Pq,.nil,Ch.rfl' _ _⟩) (λi ZB C _ QH=>by obtain⟨_,_,_,_,_,_,_,_,_,_,_,L⟩:=QH;exact TD.of (L _ _ O5 PD)) ?_ ?_
    ·rintro i v ZB C hi ⟨Pg,Ph,Pj,Pc,Pd,Pe,Pf,bs,rfl,OQ,OT,L⟩;obtain⟨⟨g,OH,PY⟩,O1,ta,rfl,OR⟩:=eu pl hi;have Q6:=(aD.mp O1).1;have up1:∀ {OW:WF}{u:HO},H1 OW=some u->C OW=some u:=λq=>L _ _ (O6 _ _ q) (by simpa using v0 q O2);have Qp:=L _ _ OR (λz=>by rw[sc.mp z,Pq]at OR;cases OR);have Pw:OH<N.runs.length:=Qe _ (pi O1);obtain⟨Rg,Qr,QB,rfl,Qk⟩:=c5 P6 (bV (show OH<N.aZ.length by lia) (0,0));obtain⟨Rh,Qs,sa,QQ,⟨QD,rfl,Qn⟩,Qo,Q5⟩:=c5 P8 (bV Pw ([],[]));have Ra:bs.length=i:=by rw[Paired.length OT,FM,aP];lia
     refine he ta _ O (pm.of Qp) O (io _ _ O (io _ _ O (IN _ _ O O ?_)));refine B rfl (wv n CN O4 _ _ O (up1 h1) X.aS X.pG O (B rfl (Db o _ _ _ O O (TD.of (up1 Qa)) (lv Qr) (he QB _ O (pm.of (up1 Qk)) O (io _ _ O (IN _ _ O O ?_))))));refine B rfl (wv n CN O4 _ _ O (up1 h1) X.aS X.iQ O (B rfl (Db r _ _ _ O O (TD.of (up1 P7)) (lv Qs) (he QD _ O (pm.of (up1 Qn)) O (io _ _ O (IN _ _ O O ?_))))));have pos:=hz.pos OH Pw;have Qj:((N.runs.getD OH ([],[])).1.map Rs)[((N.runs.getD OH ([],[])).1.map Rs).length-1]?=some (Rs (N.stop OH (N.len OH-1))):=by
      rw[FM];exact k7 (by unfold Nt.len at pos;lia)
     refine zn _ O (.inl ⟨O,⟨_,TD.of OQ⟩⟩) (B rfl (B rfl (B rfl (B rfl (Ix 1 O (bi sa _ _ _ O O (TD.of (up1 Qo)) (oS Qj) (by show 4<=Gc;decide) (λOU O_=>?_)))))));have O3:b≠OU:=v0 OQ O_;refine bb b bs _ O O ((UF O3).trans OQ) (small (by lia)) ?_;have Qi:Tl (hide [b] C) (hide [b] (Uf (Uf C OU (.tup ((fB N (g,OH,PY)).map W1.int))) b (.lst (bs++[W1.ref OU])))):=pH (by simp) O_;refine fc _ _ _ _ _ _ _ (bs++[W1.ref OU]) ⟨O,KE,?_,?_⟩
     ·rw[cB,O1,cK,bL];refine Paired.snoc (aj (λ_ _ q=>q.same Qi) OT) (Ix OU O (wl.mpr ⟨by simpa using Ne.symm O3,?_⟩));rw[UF (Ne.symm O3),KE];rfl
     ·exact(L.new O_).put (by simp)
    ·rintro ZB C ⟨Pg,Ph,Pj,Pc,Pd,Pe,Pf,bs,rfl,OQ,OT,L⟩;rw[Qw,dy]at OT;refine B rfl (B rfl (bi b s bs _ O OQ (aj (λ_ _ q=>q.same (b7 _ _)) OT) ON.2 (λRc Qm=>?_) (λPk p QF OS Ql=>?_)))
     ·obtain⟨z,_,rfl⟩:=mo.mp Qm;show 4<=9;decide
     have PB:Tl H1 Pk:=λOW u q=>QF _ _ (L _ _ (O6 _ _ q) (by simpa using v0 q O2));have QE:Tl H1 C:=λOW u q=>L _ _ (O6 _ _ q) (by simpa using v0 q O2);refine k Pk p ((Po.same PB).more (by lia)) (Pm.tr (PB.but []) λb OZ=>by simp at OZ) ?_ ?_
     ·exact gF Pm (QE.free OS) λb OZ=>Po.there (by simp only[sc]at OZ;rw[OZ];simp[PA.own])
     ·rw[Ql];have eq:gq s (OM.map (fB N))=am (Ev J (.board x e t s)).1:=by
       simp only[Ev,hw,c',aK,ee];rw[bn];unfold gq am;rw[No (by rw[FM,<-OO,aP];lia),Ps (by simp only;lia)];rw[<- nH,OO,FM,FM,<-OO,aP,Nat.min_comm]
      rw[eq]
theorem ul.there(h:ul CS CN H A N S) (a:b∈A.own):∃o,H b=some o/\∀l,o≠HO.tup l:=by(
simp only[SA.own,rs,ip,g9]at a;rcases a with rfl|rfl|rfl|rfl|rfl|rfl|rfl|rfl
·exact B h.ob (λ_ z=>by cases z)
·exact B h.arr (λ_ z=>by cases z)
·exact B h.rides (λ_ z=>by cases z)
·exact B h.ab (λ_ z=>by cases z)
·exact B h.ready (λ_ z=>by cases z)
·exact B h.ah (λ_ z=>by cases z)
·exact B h.aa (λ_ z=>by cases z)
·obtain⟨es,e,_⟩:=h.ae;exact B e (λ_ z=>by cases z))
theorem ul.tup(h:ul CS CN H A N S) (c:Ch A.own H I) (t:TupAt H v l):TupAt I v l:=by
 obtain⟨a,e,q⟩:=t;refine Ix a e (c a _ q λz=>?_);obtain⟨o,b,d⟩:=h.there z;rw[q]at b;cases b;exact d _ rfl
theorem ul.same(h:ul CS CN H A N S) (s:Tl H I):ul CS CN I A N S:=by(
have d:Tl (hide A.own H) (hide A.own I):=λb o e=>by
 obtain⟨a,c⟩:=wl.mp e;exact wl.mpr ⟨a,s _ _ c⟩
obtain⟨es,a,c⟩:=h.ae;exact⟨s _ _ h.ob,s _ _ h.arr,s _ _ h.rides,s _ _ h.ab,s _ _ h.ready,s _ _ h.ah,s _ _ h.aa,(Ix es (s _ _ a) (aj (λ_ _ q=>q.same d) c)),h.nd,h.au.same d⟩)
theorem ul.put(h:ul CS CN H A N S) (p:b∉A.own) (m:H b=some o) (s:∀l,o≠HO.tup l) (r:f2 CN (hide (b::A.own) H) A.n N):ul CS CN (Uf H b o') A N S:=by(
have ne:∀ {c:WF},c∈A.own->c≠b:=λf z=>p (by rw[<- z];exact f);have at_:∀ {c:WF}{u:HO},c∈A.own->H c=some u->(Uf H b o') c=some u:=λf e=>by rw[UF (ne f)];exact e
obtain⟨es,j,k⟩:=h.ae;refine⟨at_ (by simp[SA.own]) h.ob,at_ (by simp[SA.own]) h.arr,at_ (by simp[SA.own]) h.rides,at_ (by simp[SA.own]) h.ab,at_ (by simp[SA.own]) h.ready,at_ (by simp[SA.own]) h.ah,at_ (by simp[SA.own]) h.aa,(Ix es (at_ (by simp[SA.own]) j) (aj (λv e q=>?_) k)),h.nd,r.same λc u e=>?_⟩
·obtain⟨a,d,g⟩:=q;obtain⟨t,i⟩:=wl.mp g;refine Ix a d (wl.mpr ⟨t,?_⟩);rw[UF (λz=>by rw[z,m]at i;cases i;exact s _ rfl)];exact i
·obtain⟨d,g⟩:=wl.mp e;exact wl.mpr ⟨λz=>d (o0 _ z),by rw[UF (λz=>d (by rw[z];exact kw ..))];exact g⟩)
noncomputable def iB:List Int->Option c9
 |[a,b,d,t,m]=>some (.front a b d t m)
 |_=>none
theorem lA:pu ["plan","start","goal","day","minute","most","search","rows","arrival","rides"] zan (s1 qu):=nb rfl rfl rfl (by decide +kernel)
theorem ri (p:Int) (k:Nat) (v:Int) (l:List Int):gs p k (v::l)=if v<p then [((k:Nat):Int),v]::gs v (k+1) l else gs p (k+1) l:=rfl
theorem JE(F:sB K "front" "front" qu f fd) (T:bU K mg CP) (U:eG mg) (X:bg K mg CS CN) (Qz:mg "Search"=some (.ref CS)) (TW:Mk K CS Qi) (PX:AC P w K mg base xL 1 Qi Qj zae (iW CS CN)) (P2:Binds K Qj zae [])
  (P9:Gf P w K mg base 2 "can_ask" zac (hW CP CN)) (Qb:Gf P w K mg base 1 "is_most" zai j6) (P_:Gm P w K mg base 4 CP "forward" zab (fM CP CN hx))
  (P8:Gm P w K mg base 4 CS "begin" zaj (nD CS CN)) (Qc:Gm P w K mg base 4 CS "take_ride" zaa (nE CS CN)) (Qa:Gf P w K mg base 1 "counted" zam j5):AC P w K mg base xL 7 f fd zan (cI CP CN iB 5):=by
 refine gl P9 λQM QS PU P0 Qw Qp=>?_;refine gl Qb λQP QV GM P5 Qy Qr=>?_;refine Do P_ λQN QT PV P1 Qu=>?_;refine Do P8 λQL QR PR bB Qt=>?_;refine Do Qc λQQ QW GT P7 Qv=>?_;refine gl Qa λQO QU PY P4 Qx Qq=>?_;refine F.ar lA (λvs H Q E h=>?_) (λQK QI outer s0 H vs Q E g h=>?_)
 ·refine gR h λA OH m l c QC O1 _=>?_;subst QC;simp[O1]
 ·intro QJ;refine gS h λA OH m l c QD O1 OR O9 hT hm k=>?_;subst QD;obtain⟨a,b,d,t,Y,rfl⟩:=jN O1;cases OR;refine B (On (jp (PW.pt (ew (bQ (cz (ge PU (g.mono) rfl Qw Qp P0 .nil ws (UV (V 0) (UV (V 1) (UV (V 2) (UV (V 3) (UV (V 4) PP)))))))) (gU (bQ (cz (ge GM (g.mono) rfl Qy Qr P5 .nil ws (UV (V 5) PP))))))) (Fa (tt (db (UV (nl T.c2 rfl) PP)))) ii)
   (On (zS 6 lA (hN TW PX (g.mono) rfl Qz P2 .nil ws (UV (aA (V 0) T.cl Qu PV (g.mono) P1 .nil ws (UV (V 3) PP)) PP)))
   (On (ca (aA (V 6) X.aq Qt PR (g.mono) bB .nil ws (UV (V 1) (UV (V 4) PP))))
   (On (zS 7 lA (db PP))
   (On (zS 8 lA (nl U.nv rfl))
   (On (cH bN rfl (ng rfl T.range (UV (kt bG (nl U.m8 rfl) EQ) PP)) (zG 9 lA)
    (On (jp (ga m6 (V 9) EQ (li _)) (Fa (ca (lg (V 6) X.aq Qv GT (g.mono) P7 .nil ws))) ii)
    (Fa (jp (ga d1 (xz wE (wS (V 6) rfl) (V 2)) (V 8) (li _))
     (On (zS 8 lA (xz wE (wS (V 6) rfl) (V 2)))
     (Fa (ca (cG cm da dc cZ (V 7) (UV (bX (UV (V 9) (UV (V 8) PP))) PP))))) ii))))
   (Fa (tt (ge PY (g.mono) rfl Qx Qq P4 .nil ws (UV (V 7) (UV (V 5) PP))))))))))) ?_
  have Pr:(b1 OH a b d t&&u8 Y 0 4096)=false->∀p,H p=none->Q (.ref p) (Uf H p (.lst [W1.int (-2)])):=λe p O5=>by
   have Pe:Ev OH (.front a b d t Y)=(bM (-2),OH):=by simp only[Ev,e,a9]
   rw[Pe]at k;exact k _ p ((O9.same (Tl.new O5)).more (by lia)) ((Tl.new O5).but _) O5 KE
  refine B rfl (B rfl (B rfl (B rfl (B rfl (g8 A OH m a b d t ⟨O,O9,B rfl ?_⟩)))));rw[jS];cases O7:b1 OH a b d t with
  |false=>exact wn (wn ⟨by show 1<=Gc;decide,Pr (by rw[O7];rfl)⟩)
  |true=>
   refine v6 (B rfl (Ix Y O (B rfl ?_)));cases Pf:(decide (0<=Y)&&decide (Y<=4096))with
   |false=>exact wn ⟨by show 1<=Gc;decide,Pr (by rw[O7,show u8 Y 0 4096=false from Pf];rfl)⟩
   |true=>
    have hw:(b1 OH a b d t&&u8 Y 0 4096)=true:=by rw[O7,show u8 Y 0 4096=true from Pf];rfl
    refine jW (jy O7) λx y e QE QF QG PF PH Qm QZ Q0=>?_;subst QE;subst QF;subst QG;refine v6 (B rfl (nw A.x A.dx _ O O9.ob O (B rfl (bi A OH m e O O9 hT Qm (by lia) (λH1 v Py hv Pw QX=>?_)))));refine Do hv λn N QH Ql Ph=>?_;subst QH;have hz:=jJ hT e Ph;obtain⟨ok,same,PD⟩:=dF hT.bd Ph;have bn:=GX hT.bd Ph PF PH (t:=t) (by unfold FS;lia);have Pl:x<N.n:=by rw[PD];exact PF
    refine λsx dx a1 a2 a3=>z7 Ql hz a1 a2 a3 λH2 S ex Pz QB Pu=>⟨O,?_⟩;subst ex;refine B rfl (nw S.x S.dx _ O Pz.ob O (B rfl (B rfl (bZ S N _ x t ⟨O,Pz,fw hz,Pl,λOJ OY Qk=>?_⟩))));have Px:pp N (cp N x t):=((fw hz).av Pl t t).bI Pl t;have QA:=kM QB Qk Pu;have Po:Tl H1 (hide S.own OJ):=λc u q=>wl.mpr ⟨(λz=>by rw[Pu c z]at q;cases q),QA _ _ q⟩
    replace OY:ul CS CN OJ S N (cp N x t):=OY
    generalize cp N x t=Wp at OY Px bn;have Pj:=OY.au;have Pp:Tl (hide S.own OJ) OJ:=b7 _ _;have PK:∀c,c∈S.own->(hide S.own OJ) c=none:=λc OR=>by
     cases q:(hide S.own OJ) c with
     |none=>rfl
     |some u=>exact absurd OR (wl.mp q).1
    generalize hide S.own OJ=G at Po Pj Pp PK;refine⟨f4 _,λb Pm=>?_⟩;have PM:Tl OJ (Uf OJ b (.lst [])):=Tl.new Pm;have P6:b∉S.own:=λz=>by obtain⟨o,q,_⟩:=OY.there z;rw[Pm]at q;cases q
    have Pb:G b=none:=Pp.free Pm;generalize Pk:(s4 9).map (λk=>(a8 N Wp k).arr.getD y 0)=OT at bn;refine IN _ _ O O ⟨_,O,by decide,by decide,?_⟩
    let PZ:Nat->St->Hp->Prop:=λi ZB OK=>∃(s:SA) (bs:List W1) (R:List (List Int)) (p:Int) (Pq:Option W1),ZB=[some (.ref A.x),some (Rs x),some (Rs y),some (Rs e),some (.int t),some (.int Y),some (.ref S.x),some (.ref b),some (.int p),Pq]/\s.x=S.x/\s.n=S.n/\ul CS CN OK s N (a8 N Wp (i-1))/\OK b=some (.lst bs)/\b∉s.own/\(∀c,c∈s.own->G c=none)/\Paired (λv r=>TupAt OK v (r.map W1.int)) bs R/\Tl G OK/\gs FS 0 OT=R++gs p i (OT.drop i)/\R.length<=i/\∀r,r∈R->r.length<=9
    refine kT (lo:=0) (n:=9) PZ
     (bZ S ([]) ([]) FS none ⟨O,O,O,OY.same PM,KE,P6,PK,.nil,Pp.tr PM,O,tz _,λr g=>by simp at g⟩) ?_ ?_
    ·rintro i ZB OK hi ⟨s,bs,R,p,Pq,rfl,ex,en,OZ,O0,O6,Pc,Pd,O3,eq,Qs,O2⟩;have Qd:(0:Int)+((i:Nat):Int)=((i:Nat):Int):=by lia
     show bh 9 (W1.int ((0:Int)+((i:Nat):Int))) _ _ _;rw[Qd];have PB:i<9:=hi;have PN:∀j,pp N (a8 N Wp j):=λj=>by rw[<- iU];exact fJ Px j
     have Pa:y<(a8 N Wp i).arr.length:=by rw[(PN i).arr,PD];exact PH
     have O8:OT.drop i=(a8 N Wp i).arr.getD y 0::OT.drop (i+1):=by
      have O1:i<OT.length:=by rw[<- Pk,FM,fZ];exact PB
      rw[xY O1]
      congr 1
      have:OT[i]?=some ((a8 N Wp i).arr.getD y 0):=by rw[<- Pk,pr,gy PB];rfl
      rw[g1 O1]at this;exact b2 this
     refine B rfl (IN _ _ O O (B rfl ?_));rcases Nat.eq_zero_or_pos i with Qn|QY
     ·have D:ul CS CN OK s N (a8 N Wp i):=by rw[Qn]at OZ ⊢;exact OZ
      rw[sn (by lia)];refine v6 ?_;obtain⟨C,L,OI,OQ,J,OP,OS,OL,ON,Qg,Pt⟩:∃(C:SA) (L:Hp),C.x=S.x/\C.n=S.n/\L b=some (.lst bs)/\b∉C.own/\(∀c,c∈C.own->G c=none)/\Paired (λv r=>TupAt L v (r.map W1.int)) bs R/\Tl G L/\C=s/\L=OK:=⟨s,OK,ex,en,O0,O6,Pc,Pd,O3,O,O⟩;rw[<- Qg,<-Pt]at D;rw[<- Pt];refine B rfl (wv S.x CS C.dx _ _ O (by rw[<- OI];exact D.ob) X.aq X.dJ O (B rfl (Db C.a1 _ _ _ O O (TD.of D.arr) (lv (int_at Pa)) (B rfl (IN _ _ O O (B rfl ?_))))));by_cases c:(a8 N Wp i).arr.getD y 0<p
      ·rw[sK c];refine wn (B rfl (wv S.x CS C.dx _ _ O (by rw[<- OI];exact D.ob) X.aq X.dJ O (B rfl (Db C.a1 _ _ _ O O (TD.of D.arr) (lv (int_at Pa)) ?_))));refine zn _ O (.inl ⟨O,⟨_,TD.of J⟩⟩) (B rfl (zn _ O (by show 2<=Gc;decide) (λOO OV=>?_)));have OU:b≠OO:=v0 J OV;refine bb b bs _ O O ((UF OU).trans J) (small (by rw[Paired.length OL];lia)) ?_;have OX:Tl L (Uf L OO (.tup [Rs i,W1.int ((a8 N Wp i).arr.getD y 0)])):=Tl.new OV;refine bZ C (bs++[W1.ref OO]) (R++[[(i:Int),(a8 N Wp i).arr.getD y 0]]) _ _ ⟨O,OI,OQ,(D.same OX).put OP ((UF OU).trans J) (λ_ z=>by cases z) ?_,KE,OP,OS,?_,λO4 u q=>?_,by rw[eq,O8,ri,No c,dv];rfl,by rw[ls,bK];lia,λr g=>?_⟩
       ·rw[OQ];refine Pj.same λO4 u q=>wl.mpr ⟨λz=>?_,OX _ _ (ON _ _ q)⟩;rcases rs.mp z with z|z
        ·rw[z,Pb]at q;cases q
        ·rw[OS O4 z]at q;cases q
       ·refine Paired.snoc (aj (λv r ⟨a,Pn,OM⟩=>Ix a Pn ?_) OL) (Ix OO O (by rw[UF (Ne.symm OU),KE];rfl));rw[UF (λz=>by rw[z,J]at OM;cases OM),UF (v0 OM OV)];exact OM
       ·rw[UF (λz=>by rw[z,Pb]at q;cases q)];exact OX _ _ (ON _ _ q)
       ·rcases cs.mp g with g|g
        ·exact O2 r g
        ·rw[sc.mp g];show 2<=9;decide
      ·rw[sn c];exact v6 (bZ C bs R p _ ⟨O,OI,OQ,D,J,OP,OS,OL,ON,by rw[eq,O8,ri,Ps c],by lia,O2⟩)
     ·rw[sK (by lia)];refine wn (B rfl (nw S.x s.dx _ O (by rw[<- ex];exact OZ.ob) O (nw s N _ (by rw[ex];rfl) OZ (PN _) (λL OW PJ D Pg=>?_))));have Qh:cA N (a8 N Wp (i-1))=a8 N Wp i:=by
       obtain⟨j,rfl⟩:∃j,i=j+1:=⟨i-1,by lia⟩;rfl
      rw[Qh]at D;have PQ:∀c,c∈({s with a7:=OW}:SA).own->c∈s.own\/c=OW:=λc OR=>by
       simp only[SA.own,rs,ip,g9]at OR⊢;rcases OR with h|h|h|h|h|h|h|h<;>simp[h]
      have J:=Pg _ _ O0 O6;have ON:=kM O3 Pg Pc;have OL:=aj (λv r q=>OZ.tup Pg q) Pd;have OP:b∉({s with a7:=OW}:SA).own:=λz=>by
       rcases PQ _ z with z|z
       ·exact O6 z
       ·rw[z,PJ]at O0;cases O0
      have OS:∀c,c∈({s with a7:=OW}:SA).own->G c=none:=λc OR=>by
       rcases PQ _ OR with z|z
       ·exact Pc c z
       ·rw[z];exact O3.free PJ
      have OI:({s with a7:=OW}:SA).x=S.x:=ex;have OQ:({s with a7:=OW}:SA).n=S.n:=en;generalize ({s with a7:=OW}:SA)=C at D OP OS OI OQ;refine B rfl (wv S.x CS C.dx _ _ O (by rw[<- OI];exact D.ob) X.aq X.dJ O (B rfl (Db C.a1 _ _ _ O O (TD.of D.arr) (lv (int_at Pa)) (B rfl (IN _ _ O O (B rfl ?_))))));by_cases c:(a8 N Wp i).arr.getD y 0<p
      ·rw[sK c];refine wn (B rfl (wv S.x CS C.dx _ _ O (by rw[<- OI];exact D.ob) X.aq X.dJ O (B rfl (Db C.a1 _ _ _ O O (TD.of D.arr) (lv (int_at Pa)) ?_))));refine zn _ O (.inl ⟨O,⟨_,TD.of J⟩⟩) (B rfl (zn _ O (by show 2<=Gc;decide) (λOO OV=>?_)));have OU:b≠OO:=v0 J OV;refine bb b bs _ O O ((UF OU).trans J) (small (by rw[Paired.length OL];lia)) ?_;have OX:Tl L (Uf L OO (.tup [Rs i,W1.int ((a8 N Wp i).arr.getD y 0)])):=Tl.new OV;refine bZ C (bs++[W1.ref OO]) (R++[[(i:Int),(a8 N Wp i).arr.getD y 0]]) _ _ ⟨O,OI,OQ,(D.same OX).put OP ((UF OU).trans J) (λ_ z=>by cases z) ?_,KE,OP,OS,?_,λO4 u q=>?_,by rw[eq,O8,ri,No c,dv];rfl,by rw[ls,bK];lia,λr g=>?_⟩
       ·rw[OQ];refine Pj.same λO4 u q=>wl.mpr ⟨λz=>?_,OX _ _ (ON _ _ q)⟩;rcases rs.mp z with z|z
        ·rw[z,Pb]at q;cases q
        ·rw[OS O4 z]at q;cases q
       ·refine Paired.snoc (aj (λv r ⟨a,Pn,OM⟩=>Ix a Pn ?_) OL) (Ix OO O (by rw[UF (Ne.symm OU),KE];rfl));rw[UF (λz=>by rw[z,J]at OM;cases OM),UF (v0 OM OV)];exact OM
       ·rw[UF (λz=>by rw[z,Pb]at q;cases q)];exact OX _ _ (ON _ _ q)
       ·rcases cs.mp g with g|g
        ·exact O2 r g
        ·rw[sc.mp g];show 2<=9;decide
      ·rw[sn c];exact v6 (bZ C bs R p _ ⟨O,OI,OQ,D,J,OP,OS,OL,ON,by rw[eq,O8,ri,Ps c],by lia,O2⟩)
    ·rintro ZB OK ⟨s,bs,R,p,Pq,rfl,ex,en,OZ,O0,O6,Pc,Pd,O3,eq,Qs,O2⟩;have Qe:gs FS 0 OT=R:=by
      rw[eq];have:OT.drop 9=[]:=wa (by rw[<- Pk,FM,fZ];exact tz _);rw[this];simp[gs]
     refine B rfl (B rfl (bi b Y bs R O O0 Pd (ph Pf) O2 (λL OL ON O5 Qo=>?_)));have PL:=(Po.tr O3).tr ON;refine k L OL ((Py.same PL).more (by lia)) (Pw.tr (PL.but []) λb O_=>by simp at O_) ?_ ?_
     ·exact gF Pw ((Po.tr O3).free O5) λb O_=>Py.there (by simp only[sc]at O_;rw[O_];simp[PA.own])
     ·rw[Qo,AX];have Pe:Ev OH (.front x y e t Y)=(lV Y R,OH):=by
       simp only[Ev,hw,c',aK,ee];rw[bn,Qe]
      rw[Pe]
abbrev q0:v2:=na 30
abbrev qK:v2:=na 31
abbrev qp:v2:=na 32
def nK (s:Nat):sw:=im (s:Int)
theorem uA(h:nK s=nK t):s=t:=by unfold nK at h;injection h with h;lia
structure FD (n a:Nat) (W:List (Nat×Int)) (T0:List (sw×W1)):Prop where
 val:∀s:Nat,∃o,ce (λf=>(s=a/\f=0)\/(s,f)∈W) o/\it T0 (nK s)=o.map W1.int
 keys:∃ks:List Nat,ks.Nodup/\(∀s,s∈ks->s<n)/\T0.map (·.1)=ks.map nK
theorem FD.start(h:a<n):FD n a [] [(nK a,W1.int 0)]:=by(
refine⟨λs=>?_,[a],by simp,λs c=>by rw[sc.mp c];exact h,O⟩;by_cases e:s=a
·subst e;exact Ix (some 0) ⟨.inl ⟨O,O⟩,λy b=>by rcases b with⟨_,rfl⟩|b<;>simp at *⟩ (fO rfl)
·refine Ix none (λy b=>?_) ?_
 ·rcases b with⟨z,_⟩|b
  ·exact e z
  ·simp at b
 ·rw[fN (λz=>e (uA z).symm)];rfl)
theorem K8{k:sw}:(aC T0 k v).map (·.1)=if(it T0 k).isSome=true then T0.map (·.1)else T0.map (·.1)++[k]:=by(
unfold aC;rw[j'];by_cases c:(it T0 k).isSome=true
·rw[No c,No c,ax];refine eE λx _=>?_;show(if x.1=k then(x.1,v)else x).1=x.1;split<;>rfl
·rw[Ps c,Ps c,bL];rfl)
theorem FD.step(h:FD n a W T0) (hg:g<n) (hz:(it T0 (nK g)).getD (W1.int m)=W1.int z):FD n a (W++[(g,m)]) (aC T0 (nK g) (W1.int (if z<m then z else m))):=by(
obtain⟨ks,l,p,k⟩:=h.keys;refine⟨λs=>?_,?_⟩
·obtain⟨o,h1,h2⟩:=h.val s;rw[kb];by_cases e:s=g
 ·subst e;rw[No rfl];rw[h2]at hz;refine Ix (some (if z<m then z else m)) ?_ O;cases o with
  |none=>
   have j:m=z:=by injection hz
   subst j;have:(if m<m then m else m)=m:=by split<;>rfl
   rw[this];refine⟨.inr (by simp),λy b=>?_⟩;rcases b with b|b
   ·exact absurd (.inl b) (h1 y)
   ·rcases cs.mp b with b|b
    ·exact absurd (.inr b) (h1 y)
    ·simp only[sc,oj,true_and]at b;lia
  |some f=>
   have j:f=z:=by injection hz
   subst j;obtain⟨i,t⟩:=h1;constructor
   ·split
    ·rcases i with i|i
     ·exact .inl i
     ·exact .inr (gx _ i)
    ·exact .inr (by simp)
   ·intro y b;have:y=m\/f<=y:=by
     rcases b with b|b
     ·exact .inr (t y (.inl b))
     ·rcases cs.mp b with b|b
      ·exact .inr (t y (.inr b))
      ·simp only[sc,oj,true_and]at b;exact .inl b
    split<;>lia
 ·rw[Ps (λq=>e (uA q))];refine Ix o (h1.congr λx=>?_) h2;rw[cs,sc,oj];constructor
  ·rintro(q|q)
   ·exact .inl q
   ·exact .inr (.inl q)
  ·rintro(q|q|q)
   ·exact .inl q
   ·exact .inr q
   ·exact absurd q.1 e
·rw[K8];by_cases c:(it T0 (nK g)).isSome=true
 ·rw[No c];exact zn ks l p k
 ·rw[Ps c];have u:it T0 (nK g)=none:=by simpa using c
  have r:=BU u;rw[k]at r;refine zn (ks++[g]) ?_ (λs d=>?_) (by rw[k,bL];rfl)
  ·rw[il];refine⟨l,by simp,λx A y b=>?_⟩;rw[sc.mp b];intro z;exact r (by rw[<- z];exact l8 A)
  ·rcases cs.mp d with d|d
   ·exact p s d
   ·rw[sc.mp d];exact hg)
theorem FD.len(h:FD n a W T0):T0.length<=n:=by(
obtain⟨ks,c,d,e⟩:=h.keys;have:T0.length=ks.length:=by have:=cM cC e;simpa using this
rw[this];have:=(c.sublist (List.Sublist.refl ks));have b:ks ⊆ s4 n:=λs b=>bR.mpr (d s b);have:=Eo c b;rw[fZ]at this;exact this)
def vA (CN:WF):Sp:=λvs H Q _=>∃(n:WF) (N:Nt) (a:Nat),vs=[.ref n,Rs a]/\f2 CN H n N/\dd N/\a<N.n/\
 ∀(I:Hp) (p:WF) (T0:List (sw×W1)),Tl H I->H p=none->I p=some (.dK T0)->FD N.n a (N.ft a) T0->Q (.ref p) I
theorem ny:pu ["network","start","on_foot","goal","minutes","number"] zaH (s1 qK):=nb rfl rfl rfl (by decide +kernel)
theorem JT(F:sB K "minutes_on_foot" "minutes_on_foot" qK f fd) (U:eG mg) (X:bg K mg CS CN):AC P w K mg base xL 1 f fd zaH (vA CN):=by(
refine F.ar ny (λvs H Q E h=>?_) (λOU OS outer s0 H vs Q E OJ h=>?_)
·refine pQ h λn N a OQ _=>?_;subst OQ;rfl
·intro OT;refine m7 h λn N a OR=>?_;obtain⟨rfl,OI,hz,d,k⟩:=OR;have hu:=hI OJ;refine B (On (zS 2 ny (KC (KW (V 1) EQ KX) rfl rfl (by simp) (by decide)))
  (On (cH bN rfl (cy (xz wE (wS (V 0) rfl) (V 1))) (cw rfl (re (zG 3 ny) (re (zG 4 ny) (re (zG 5 ny) cx))))
   (Fa (ni hu (V 2) (V 3) (a0 (yI rfl) (by rfl) U.min xt (UV (V 4) (UV (uR hu (V 2) (V 3) (V 4) ⟨O,O,O,O⟩) PP))) rfl)))
  (Fa (tt (V 2))))) ?_
 refine et OI.ex λJ c r o OV T O3 os ds fs h1 h2 OX OY OZ O0 Y OH O1 OW=>?_;refine λp A=>zn _ O KE (zn ([(nK a,W1.int 0)]) O (by show 1<=15;decide) ?_);rw[gZ];have L:k5 [] [(nK a,W1.int 0)]=[(nK a,W1.int 0)]:=rfl;rw[L];have sp:∀T0,Tl H (Uf H p (.dK T0)):=λT0=>Tl.new A;have xd:a<N.foot.length:=by rw[hz.foot];exact d
 obtain⟨vd,OL,es,⟨s,rfl,t⟩,C⟩:=c5 OH (bV xd []);refine B rfl (wv n CN J _ _ O (sp _ _ _ h1) X.aS X.mW O (B rfl (Db T _ _ _ O O (TD.of (sp _ _ _ Y)) (lv OL) (zn s O ⟨_,TD.of (sp _ _ _ t)⟩ ?_))));have OM:es.length=(N.foot.getD a []).length:=Paired.length C
 let D:Nat->St->Hp->Prop:=λi ZB H2=>∃j l m T0,ZB=[some (.ref n),some (Rs a),some (.ref p),j,l,m]/\H2=Uf H p (.dK T0)/\FD N.n a (((N.foot.getD a []).take i).map λw=>(w.1,w.2.1)) T0
 refine gM (K:=K) (a:=s) (xs:=es) D
  (dQ none none none _ ⟨O,O,FD.start d⟩) (λi ZB H2 _ OP=>by obtain⟨_,_,_,_,_,e,_⟩:=OP;rw[e];exact TD.of (sp _ _ _ t)) ?_ ?_
 ·rintro i v ZB H2 hi ⟨j,l,m,T0,rfl,rfl,b⟩;obtain⟨⟨g,mi,q⟩,u,ta,rfl,OK⟩:=eu C hi;refine he ta _ O (pm.of (sp _ _ _ OK)) O (io _ _ O (io _ _ O (IN _ _ O O ?_)));have hg:g<N.n:=hz.kS a g mi d (by unfold Nt.ft;exact mo.mpr (B (pi u) rfl));obtain⟨ON,O2,OO⟩:=b.val g;obtain⟨z,y⟩:∃z,(it T0 (nK g)).getD (W1.int mi)=W1.int z:=by
   rw[OO];cases ON with
   |none=>exact⟨mi,O⟩
   |some x=>exact⟨x,O⟩
  refine B rfl (B rfl (zn p O (.inl ⟨_,.inl KE⟩) (B rfl (B rfl (B (cN.k (k:=nK g) KE) ?_)))));rw[y];refine io _ _ O (B rfl (B rfl (IN p _ O (f7.k (k:=nK g) KE (small (by have:=b.len;have:=hz.small.1;lia))) ?_)));rw[gZ];refine dQ _ _ _ _ ⟨O,O,?_⟩;rw[cB,u,cK,bL];exact b.step hg y
 ·rintro ZB H2 ⟨j,l,m,T0,rfl,rfl,b⟩;rw[OM,dy]at b;exact B rfl (k _ p T0 (sp _) A KE b))
noncomputable def mz (e:on):List Int:=[e.1,(e.2.1:Int),(e.2.2:Int)]
noncomputable def eJ:List Int->on
 |[a,b,c]=>(a,b.toNat,c.toNat)
 |_=>(0,0,0)
theorem FX (e:on):eJ (mz e)=e:=by simp[eJ,mz]
theorem FV (e:on):(mz e).map W1.int=aX e:=rfl
def hA (H:Hp) (t:NP):Prop:=H t.a=some (.tup [.int t.k,.ref t.b])/\H t.b=some (.tup (t.d.map W1.int))/\∃e,t.d=mz e
theorem hA.same(s:Tl H I) (h:hA H t):hA I t:=⟨s _ _ h.1,s _ _ h.2.1,h.2.2⟩
def jR (t:NP):Int×on:=(t.k,eJ t.d)
noncomputable def fv (T0:List (sw×W1)) (s:Nat):Int:=match it T0 (nK s)with
 |some (.int f)=>f
 |_=>0
noncomputable def e3 (N:Nt) (T0:List (sw×W1)) (s:Nat) (l:List on):List (Int×on):=l.map λe=>(e.1-fv T0 s,e)
noncomputable def cq (N:Nt) (T0:List (sw×W1)) (ks:List Nat):List (Int×on):=ks.flatMap λs=>e3 N T0 s (N.af.getD s [])
theorem Bx (g:Nat->Nat):∀(ks m:List Nat),ks.Nodup->(∀s,s∈ks->s∈m)->(ks.map g).sum<=(m.map g).sum
 |[],_,_,_=>f4 _
 |x::ks,m,h,a=>by
  have c:=List.perm_cons_erase (a x (kw ..));have e:=(c.map g).sum_nat;rw[iq]at h;have:=Bx g ks (m.erase x) h.2 λs b=>(List.mem_erase_of_ne (λz=>h.1 (by rw[<- z];exact b))).mpr (a s (o0 _ b));rw[e,m0,m0,dV,dV];lia
theorem I8{ks:List Nat}(h1:ks.Nodup) (h2:∀s,s∈ks->s<n) (g:Nat->Nat):(ks.map g).sum<=((s4 n).map g).sum:=Bx g ks _ h1 λs a=>bR.mpr (h2 s a)
theorem y6(hz:dd N) (h1:ks.Nodup) (h2:∀s,s∈ks->s<N.n):(cq N T0 ks).length<=300000:=by(
unfold cq;rw[wc];have e:(ks.map λs=>(e3 N T0 s (N.af.getD s [])).length)=ks.map λs=>(N.af.getD s []).length:=eE λs _=>by unfold e3;rw[FM]
rw[e];have q:=I8 h1 h2 λs=>(N.af.getD s []).length;have a:=zk N.af;rw[hz.af]at a;rw[<- a]at q;have:=hz.small.2.1;lia)
def vp (CN:WF):Sp:=λvs H Q _=>∃(n d:WF) (N:Nt) (a:Nat) (W:List (Nat×Int)) (T0:List (sw×W1)),vs=[.ref n,.ref d]/\f2 CN H n N/\dd N/\H d=some (.dK T0)/\FD N.n a W T0/\
 ∀(I:Hp) (p:WF) (ts:List NP) (ks:List Nat),Tl H I->H p=none->I p=some (.lst (ts.map λt=>W1.ref t.a))->(∀t,t∈ts->hA I t)->(ts.map jR).Perm (cq N T0 ks)->ts.Pairwise (λx y=>x.k<=y.k)->ks.Nodup->(∀s,s∈ks->s<N.n)->T0.map (·.1)=ks.map nK->Q (.ref p) I
theorem q3:pu ["network","on_foot","boardings","stop","departure"] zaI (s1 qp):=nb rfl rfl rfl (by decide +kernel)
theorem FD.vX(h:FD n a W T0) (b:nK s∈T0.map (·.1)):it T0 (nK s)=some (W1.int (fv T0 s)):=by(
obtain⟨o,h1,h2⟩:=h.val s;unfold fv;rw[h2];cases o with
|some x=>rfl
|none=>exact absurd b (BU h2))
theorem Jz(F:sB K "first_boardings" "first_boardings" qp f fd) (U:eG mg) (X:bg K mg CS CN):AC P w K mg base xL 1 f fd zaI (vp CN):=by
 refine F.ar q3 (λvs H Q E h=>?_) (λPV PR outer s0 H vs Q E O9 h=>?_)
 ·refine k_ h λn d N a W T0 PN=>?_;obtain⟨rfl,_⟩:=PN;rfl
 ·intro PU;refine k_ h λn d N a W T0 PQ=>?_;obtain⟨rfl,Pp,hz,hd,O7,k⟩:=PQ;have hu:=hI O9;refine B (On (zS 2 q3 (db PP))
   (On (uV (cH bN rfl (AA (V 1)) (zG 3 q3)
    (Fa (cH bN rfl (cy (xz wE (wS (V 0) rfl) (V 3))) (zG 4 q3)
     (Fa (ca (cG cm da dc cZ (V 2) (UV (bX (UV (kt gP (xz gN (V 4) EQ) (uQ hu (V 1) (V 3) (λ_ _=>rfl))) (UV (V 4) PP))) PP))))))))
   (Fa (tt (a0 (FJ O9.units) (by rfl) U.sorted D7 (UV (V 2) PP)))))) ?_
  refine et Pp.ex λPh c r o Pg PZ P9 os ds fs h1 h2 P1 P2 Pn Po P4 P5 P6 P0=>?_;obtain⟨ks,O_,OY,ON⟩:=O7.keys;have PF:T0.length=ks.length:=by have:=cM cC ON;simpa using this
  refine⟨f4 _,λb OZ=>?_⟩;have OS:d≠b:=v0 hd OZ;have Pr:(Uf H b (.lst [])) d=some (.dK T0):=(UF OS).trans hd;refine IN d _ Pr True.intro (λOO=>?_);refine B rfl (io d OO O (.inl (B KE ?_)));have PH:∀ {x:WF}{u:HO},H x=some u->(∀l,u≠.dK l)->x≠d:=λe m z=>by rw[z,hd]at e;exact m _ (b2 e).symm
  have PD:∀i j,(cq N T0 (ks.take i)++e3 N T0 (ks.getD i 0) ((N.af.getD (ks.getD i 0) []).take j)).length<=300000\/ks.length<=i:=λi j=>by
   by_cases hi:i<ks.length
   ·left;have PX:=y6 hz (T0:=T0) O_ OY;have Pj:cq N T0 (ks.take (i+1))=cq N T0 (ks.take i)++e3 N T0 (ks.getD i 0) (N.af.getD (ks.getD i 0) []):=by
     unfold cq;rw[cB,bV hi 0,cK,oz];simp
    have Pk:(cq N T0 (ks.take (i+1))).length<=(cq N T0 ks).length:=by
     have:cq N T0 ks=cq N T0 (ks.take (i+1))++cq N T0 (ks.drop (i+1)):=by unfold cq;rw[<- oz,Cm]
     rw[this,ls];lia
    rw[Pj,ls]at Pk;have PY:(e3 N T0 (ks.getD i 0) ((N.af.getD (ks.getD i 0) []).take j)).length<=(e3 N T0 (ks.getD i 0) (N.af.getD (ks.getD i 0) [])).length:=by
     unfold e3;rw[FM,FM,aP];lia
    rw[ls];lia
   ·right;lia
  let OR:Nat->St->Hp->Prop:=λi ZB H2=>∃(O4 Y:Option W1) (ts:List NP),ZB=[some (.ref n),some (.ref d),some (.ref b),O4,Y]/\H2 d=some (.aw OO (.dK T0))/\H2 b=some (.lst (ts.map λt:NP=>W1.ref t.a))/\(∀t,t∈ts->hA H2 t)/\ts.map jR=cq N T0 (ks.take i)/\Ch [d] H H2
  refine zh OR
   (b_ none none ([]) ⟨O,KE,(UF (Ne.symm OS)).trans KE,λt g=>by simp at g,O,((Ch.rfl' _ _).new OZ).put (by simp)⟩) (λi ZB H2 _ PL=>by obtain⟨_,_,_,_,q,_⟩:=PL;exact q) ?_ ?_
  ·rintro i Pa v ZB H2 hi ⟨O4,Y,ts,rfl,OH,OT,OV,OL,C⟩;obtain⟨s,OI,Pl⟩:∃s,ks[i]?=some s/\Pa=nK s:=by
    have:(T0.map (·.1))[i]?=some Pa:=by rw[pr,hi];rfl
    rw[ON,pr]at this;cases q:ks[i]? with
    |none=>rw[q]at this;cases this
    |some st=>rw[q]at this;cases this;exact Ix st O O
   subst Pl;have P7:=(aD.mp OI).1;have Pm:ks.getD i 0=s:=by rw[np,OI];rfl
   have Pu:s<N.n:=OY s (pi OI);have xd:s<N.af.length:=by rw[hz.af];exact Pu
   obtain⟨vd,Py,es,⟨O6,rfl,O8⟩,Pc⟩:=c5 Po (bV xd []);have OK:∀ {OQ:Hp},Ch [d] H OQ->∀ {x:WF}{u:HO},H x=some u->(∀l,u≠.dK l)->OQ x=some u:=λ{OQ} Pf {x u} e m=>Pf _ _ e (by simpa using PH e m);refine B rfl (wv n CN Ph _ _ O (OK C h1 (λ_ z=>by cases z)) X.aS X.hK O (B rfl (Db Pg _ _ _ O O (TD.of (OK C Pn (λ_ z=>by cases z))) (lv Py) (zn O6 O ⟨_,TD.of (OK C O8 (λ_ z=>by cases z))⟩ ?_))));have PB:es.length=(N.af.getD s []).length:=Paired.length Pc
   let OR:Nat->St->Hp->Prop:=λj ZB y=>∃(Y:Option W1) (ts:List NP),ZB=[some (.ref n),some (.ref d),some (.ref b),some (Rs s),Y]/\y d=some (.aw OO (.dK T0))/\y b=some (.lst (ts.map λt:NP=>W1.ref t.a))/\(∀t,t∈ts->hA y t)/\ts.map jR=cq N T0 (ks.take i)++e3 N T0 s ((N.af.getD s []).take j)/\Ch [d] H y
   refine gM (K:=K) (a:=O6) (xs:=es) OR
    ⟨Y,ts,O,OH,OT,OV,by rw[OL];simp[e3],C⟩ (λj ZB y _ PM=>by obtain⟨_,_,_,_,_,_,_,D⟩:=PM;exact TD.of (OK D O8 (λ_ z=>by cases z))) ?_ ?_
   ·rintro j v ZB y Pt ⟨PK,OP,rfl,J,A,OX,OM,D⟩;obtain⟨e,Pz,ta,rfl,Pw⟩:=eu Pc Pt;have OU:=OK D Pw (λ_ z=>by cases z);have Px:=O7.vX (s:=s) (by rw[ON];exact l8 (pi OI));have P8:OP.length<=300000:=by
     have:=cM cC OM;rw[FM]at this;rcases PD i j with q|q
     ·rw[Pm]at q;lia
     ·lia
    refine zn _ O (.inl ⟨O,⟨_,TD.of A⟩⟩) (B rfl (Db ta _ _ _ O O (pm.of OU) O (B rfl (B rfl (IN d _ O (.inl (IN T0 (nK s) (.inr ⟨OO,J⟩) O Px.symm)) (IN _ _ O O (zn _ O (by show 2<=Gc;decide) (λO3 Pb=>?_))))))));have O5:b≠O3:=v0 A Pb;have OJ:Tl y (Uf y O3 (.tup [W1.int (e.1-fv T0 s),W1.ref ta])):=Tl.new Pb;refine bb b _ _ O O ((UF O5).trans A) (small (by rw[FM];lia)) ?_;refine⟨_,OP++[⟨O3,e.1-fv T0 s,ta,mz e⟩],O,?_,?_,λt g=>?_,?_,λx u q Pq=>?_⟩
    ·rw[UF (λz=>by rw[z,A]at J;cases J)];exact OJ _ _ J
    ·rw[KE,bL];rfl
    ·have O0:∀ {x:WF}{l:List W1},y x=some (.tup l)->x≠b:=λq z=>by rw[z,A]at q;cases q
     rcases cs.mp g with g|g
     ·obtain⟨L,T,O2⟩:=OX t g;exact⟨by rw[UF (O0 L)];exact OJ _ _ L,by rw[UF (O0 T)];exact OJ _ _ T,O2⟩
     ·rw[sc.mp g];exact⟨by rw[UF (Ne.symm O5)];exact KE,by rw[UF (O0 OU)];exact OJ _ _ OU,⟨e,O⟩⟩
    ·rw[bL,OM,cB,Pz,cK,dv]
     congr 1
     unfold e3;rw[bL];rfl
    ·rw[UF (v0 q OZ)];exact OJ _ _ (D _ _ q Pq)
   ·rintro ZB y ⟨PK,OP,rfl,J,A,OX,OM,D⟩;refine b_ _ _ OP ⟨O,J,A,OX,?_,D⟩;rw[OM,PB,dy];unfold cq;rw[cB,OI,cK,oz];simp
  ·rintro ZB H2 ⟨O4,Y,ts,rfl,OH,OT,OV,OL,C⟩;rw[PF,dy]at OL;refine⟨OH,?_⟩;have bd:b≠d:=Ne.symm OS;have Pe:Tl H (Uf H2 d (.dK T0)):=λx u q=>by
    by_cases z:x=d
    ·rw[z]at q ⊢;rw[hd]at q;rw[KE];exact q
    ·rw[UF z];exact C _ _ q (by simpa using z)
   have OW:∀t,t∈ts->hA (Uf H2 d (.dK T0)) t:=λt g=>by
    obtain⟨L,T,O2⟩:=OV t g;exact⟨by rw[UF (λz=>by rw[z,OH]at L;cases L)];exact L,by rw[UF (λz=>by rw[z,OH]at T;cases T)];exact T,O2⟩
   refine B rfl (he b ts O (TD.of ((UF bd).trans OT)) (λt g=>⟨pm.of (OW t g).1,pm.of (OW t g).2.1⟩) (λus p Pd PJ O1=>?_));refine k _ p us ks (Pe.tr (Tl.new O1)) (Pe.free O1) KE (λt g=>(OW t (Pd.mem_iff.mp g)).same (Tl.new O1)) ?_ PJ O_ OY ON;rw[<- OL];exact Pd.map jR
theorem ul.K3(h:ul CS CN H A N S) (d:H A.a7=some (.lst es)) (t:TupAt (hide A.own H) v (aX e)):ul CS CN (Uf H A.a7 (.lst (es++[v]))) A N {S with ae:=S.ae++[e]}:=by(
have c:hide A.own (Uf H A.a7 (.lst (es++[v])))=hide A.own H:=fD (by simp[SA.own]);have n:=gT h.nd;obtain⟨b,a,f⟩:=h.ae;have:b=es:=by rw[d]at a;cases a;rfl
subst this;have k:∀(i:Nat) (h:decide (i<8/\7<8/\i≠7)=true) {o:HO},H (A.own[i]'(gB h).1)=some o->(Uf H A.a7 (.lst (b++[v]))) (A.own[i]'(gB h).1)=some o:=λi h o q=>(UF (n i 7 h)).trans q;exact⟨k 0 rfl h.ob,k 1 rfl h.arr,k 2 rfl h.rides,k 3 rfl h.ab,k 4 rfl h.ready,k 5 rfl h.ah,k 6 rfl h.aa,(B KE (by rw[c];exact Paired.snoc f t)),h.nd,by rw[c];exact h.au⟩)
theorem z8(g:f2 CN H n N) (i:dd N) (nx:H x=none) (l:H dx=none) (ne:dx≠x) (k:∀(I:Hp) (A:SA),A.x=x->A.n=n->ul CS CN I A N (f1 N)->Tl H I->(∀b,b∈A.own->H b=none)->a .ak I):
  iW CS CN [.ref x,.ref n] (Uf (Uf H dx (.own x)) x (.ins CS dx [])) a E0:=by(
have s0:Tl H (Uf (Uf H dx (.own x)) x (.ins CS dx [])):=λb o e=>by
 rw[UF (v0 e nx),UF (v0 e l)];exact e
have m:Tl H (hide [x] (Uf (Uf H dx (.own x)) x (.ins CS dx []))):=λb o e=>wl.mpr ⟨by simp only[sc];exact v0 e nx,s0 b o e⟩;refine Db x dx n N O KE (g.same m) i (λI A ex en h f hf=>?_);refine k I A ex en h (λb o e=>f b o (s0 b o e) (by simp only[sc];exact v0 e nx)) λb j=>?_;rcases hf b j with rfl|q
·exact nx
·have c:b≠x:=λz=>by rw[z,KE]at q;cases q
 have d:b≠dx:=λz=>by rw[z,UF ne,KE]at q;cases q
 rwa [UF c,UF d]at q)
def Bp (ps:List NP) (r i:Nat):Prop:=∃t,t∈ps/\∃g,eJ t.d=(g,r,i)
section
variable {N:Nt}{goes:Nat->Nat->Int}{a:Nat}{T0:List (sw×W1)}{ks:List Nat}{ts:List NP}
theorem BO(b:FD N.n a (N.ft a) T0) (q:∀s,s∈ks->s<N.n) (u:T0.map (·.1)=ks.map nK) (ok:bz N goes) (x:(ts.map jR).Perm (cq N T0 ks)) (p:t∈ts):∃r i f,eJ t.d=(goes r i,r,i)/\r<N.runs.length/\i+1<N.len r/\t.k=goes r i-f/\((N.stop r i=a/\f=0)\/(N.stop r i,f)∈N.ft a):=by(
have:jR t∈cq N T0 ks:=x.mem_iff.mp (l8 p);unfold cq e3 at this;obtain⟨s,c,hm⟩:=fk.mp this;obtain⟨⟨g,r,i⟩,m,e⟩:=mo.mp hm;obtain⟨y,z,A,C⟩:=(ok.af s (q s c) g r i).mp m;have hv:=b.vX (s:=s) (by rw[u];exact l8 c);obtain⟨o,h1,h2⟩:=b.val s;rw[hv]at h2;cases o with
|none=>cases h2
|some f=>
 have l:fv T0 s=f:=by injection h2 with h2;injection h2
 injection e with h j;subst C;refine bb r i f j.symm y z (by rw[<- l];exact h.symm) ?_;rw[A];exact h1.1)
theorem Fs(j:FD N.n a (N.ft a) T0) (x:∀s,s∈ks->s<N.n) (y:T0.map (·.1)=ks.map nK) (ok:bz N goes) (z:(ts.map jR).Perm (cq N T0 ks)) (e:ts=aF++A) (h1:∀t,t∈A->m<=t.k) (h2:∀t,t∈aF->t.k<m):Bp A=ma N goes a m:=by(
funext r i;apply propext;constructor
·rintro⟨t,b,g,hg⟩;refine m7 (BO j x y ok z (t:=t) (by rw[e];exact fY _ b)) λOJ OI f U=>?_;obtain⟨d,p,h,L,Q⟩:=U;rw[hg]at d;injection d with OK q;injection q with q T;subst q T;exact⟨p,h,Ix f Q (by have:=h1 t b;lia)⟩
·rintro⟨d,p,f,h,L⟩;obtain⟨o,C,D⟩:=j.val (N.stop r i);cases o with
 |none=>exact absurd h (C f)
 |some u=>
  have l:nK (N.stop r i)∈T0.map (·.1):=M8 D;have c:N.stop r i∈ks:=by
   rw[y]at l;obtain⟨s,c,es⟩:=mo.mp l;rw[<- uA es];exact c
  have hv:=j.vX l;rw[D]at hv;have H:fv T0 (N.stop r i)=u:=by injection hv with hv;injection hv with hv;exact hv.symm
  have hm:(goes r i-u,goes r i,r,i)∈cq N T0 ks:=by
   unfold cq e3;refine fk.mpr (B c (mo.mpr (Ix (goes r i,r,i) ((ok.af _ (x _ c) _ _ _).mpr ⟨d,p,O,O⟩) ?_)));rw[H]
  obtain⟨t,b,J⟩:=mo.mp (z.mem_iff.mpr hm);injection J with Y E;have OH:=C.2 f h;rw[e]at b;rcases cs.mp b with b|b
  ·have:=h2 t b;lia
  ·exact Ix t b ⟨_,E⟩)
theorem AF(ok:bz N goes) (h:e0 N goes Wp S):∀k,e0 N goes Wp (aN N S k)
 |0=>h
 |k+1=>(AF ok h k).ride ok
theorem AU(h:pp N S):∀k,(aN N S k).ae.length+(aN N S k).ah.sum<=S.ae.length+S.ah.sum
 |0=>tz _
 |k+1=>by
  have h1:=(vQ (fJ h k)).2;have h2:=AU h k;show(cA N (aN N S k)).ae.length+(cA N (aN N S k)).ah.sum<=_;lia
end
noncomputable def rowsOf (v:Int) (xs:List Int):List (List Int):=(s4 (xs.length-1)).filterMap λj=>if xs.getD (j+1) 0<xs.getD j 0 then some [v-(j:Int),xs.getD (j+1) 0]else none
theorem jK{x:Int}:(l++[x]).getD j 0=if j<l.length then l.getD j 0 else if j=l.length then x else 0:=by(
rw[np,List.getElem?_append];by_cases c:j<l.length
·rw[No c,No c,np]
·rw[Ps c,Ps c];by_cases c2:j=l.length
 ·rw[No c2,c2];simp
 ·rw[Ps c2,ik (by simp;lia)];rfl)
theorem LH(h:0<xs.length):rowsOf v (xs++[x])=rowsOf v xs++(if x<xs.getD (xs.length-1) 0 then [[v-((xs.length-1:Nat):Int),x]]else []):=by(
unfold rowsOf;rw[ls,bK,xh];obtain⟨n,e⟩:∃n,xs.length=n+1:=⟨xs.length-1,by lia⟩;rw[e,xh,wo,List.filterMap_append]
congr 1
·refine kP λj d=>?_;rw[bR]at d;have a:(xs++[x]).getD (j+1) 0=xs.getD (j+1) 0:=by rw[jK,No (by lia)]
 have b:(xs++[x]).getD j 0=xs.getD j 0:=by rw[jK,No (by lia)]
 rw[a,b]
·simp only[hn,List.filterMap_nil];have a:(xs++[x]).getD (n+1) 0=x:=by rw[jK,Ps (by lia),No (by lia)]
 have b:(xs++[x]).getD n 0=xs.getD n 0:=by rw[jK,No (by lia)]
 rw[a,b];by_cases c:x<xs.getD n 0
 ·rw[No c,No c]
 ·rw[Ps c,Ps c])
theorem LG(d:(xs.length:Int)=v-u+2) (e:u<=v):(rowsOf v xs).reverse=(s4 (v-u+1).toNat).filterMap λ(i:Nat)=>if xs.getD (v+1-(u+(i:Int))).toNat 0<xs.getD (v+1-(u+(i:Int)+1)).toNat 0 then some [u+(i:Int),xs.getD (v+1-(u+(i:Int))).toNat 0]else none:=by(
unfold rowsOf;rw[GH];have en:xs.length-1=(v-u+1).toNat:=by lia
rw[en];refine kP λi hi=>?_;rw[bR]at hi;have a:(v-u+1).toNat-1-i+1=(v+1-(u+(i:Int))).toNat:=by lia
have b:(v-u+1).toNat-1-i=(v+1-(u+(i:Int)+1)).toNat:=by lia
have c:v-(((v-u+1).toNat-1-i:Nat):Int)=u+(i:Int):=by lia
rw[a,c];rw[b])
def vG (CN:WF):Sp:=λvs H Q _=>∃(n:WF) (N:Nt) (goes:Nat->Nat->Int) (a b:Nat) (u v:Int),vs=[.ref n,Rs a,Rs b,.int u,.int v]/\f2 CN H n N/\dd N/\bz N goes/\a<N.n/\b<N.n/\0<=u/\u<=v/\v<2880/\
 ∀(I:Hp) (p:WF) (c:List W1) (L:List (List Int)) (E:Int->Int),Tl H I->H p=none->I p=some (.lst c)->Paired (λv r=>TupAt I v (r.map W1.int)) c L->(∀m,u<=m->m<=v+1->lw (λx=>∃n w,NJ N goes a m n w b x) (E m))->
  L=((s4 (v-u+1).toNat).filterMap λ(i:Nat)=>if E (u+(i:Int))<E (u+(i:Int)+1)then some [u+(i:Int),E (u+(i:Int))]else none)->Q (.ref p) I
theorem hU:pu ["network","start","goal","first","last","on_foot","boardings","search","found","arrival_after","minute","arrival"] zaJ (s1 q0):=nb rfl rfl rfl (by decide +kernel)
theorem Mn {X G:Prop}(h:X->G) (x:X):G:=h x
theorem Kz{ys:List b}(p:Paired R xs ys):Paired R xs.reverse ys.reverse:=by(
induction p with
|nil=>exact .nil
|cons r t a=>rw[rK,rK];exact Paired.snoc a r)
theorem Bn {a:Type}{l:List a}(h:l≠[]):∃m x,l=m++[x]:=⟨l.dropLast,l.getLast h,(List.dropLast_concat_getLast h).symm⟩
structure Wd (CS CN:WF) (N:Nt) (G:Hp) (sx nn bl fl:WF) (H:Hp) (S:SA) (st:SS) (aF:List NP) (fs:List W1):Prop where
 ex:S.x=sx
 en:S.n=nn
 at_:ul CS CN H S N st
 ok:pp N st
 bW:H bl=some (.lst (aF.map λt=>W1.ref t.a))
 e6:H fl=some (.lst fs)
 fG:bl∉S.own
 fH:fl∉S.own
 own:∀c,c∈S.own->G c=none
 same:Tl G H
 dC:st.ae.length+st.ah.sum+aF.length<=600000
section
variable {CS CN:WF}{N:Nt}{G:Hp}{sx nn bl fl:WF}{H:Hp}{S:SA}{st:SS}{aF:List NP}{fs:List W1}
theorem Wd.push(h:Wd CS CN N G sx nn bl fl H S st (aF++[t]) fs) (p:f2 CN G nn N) (k:G bl=none) (ne:fl≠bl) (tk:hA G t) (s:(eJ t.d).2.1<N.runs.length) (m:H S.a7=some (.lst es)):
  Wd CS CN N G sx nn bl fl (Uf (Uf H bl (.lst (aF.map λt=>W1.ref t.a))) S.a7 (.lst (es++[W1.ref t.b]))) S {st with ae:=st.ae++[eJ t.d]} aF fs:=by(
have a7:S.a7∈S.own:=by simp[SA.own]
have i:bl≠S.a7:=λz=>h.fG (by rw[z];exact a7);have r:f2 CN (hide (bl::S.own) H) S.n N:=by
 rw[h.en];refine p.same λc u q=>wl.mpr ⟨λz=>?_,h.same _ _ q⟩;rcases rs.mp z with z|z
 ·rw[z,k]at q;cases q
 ·rw[h.own c z]at q;cases q
have x:=h.at_.put (o':=.lst (aF.map λt=>W1.ref t.a)) h.fG h.bW (λ_ z=>by cases z) r;obtain⟨e,j⟩:=tk.2.2;have tb:G t.b=some (.tup (aX e)):=by rw[<- FV,<-j];exact tk.2.1
have o:eJ t.d=e:=by rw[j,FX]
have g:∀ {c:WF}{u:HO},G c=some u->c≠bl/\c∉S.own:=λ{c u} q=>⟨(λz=>by rw[z,k]at q;cases q),(λz=>by rw[h.own c z]at q;cases q)⟩;have y:=x.K3 ((UF (Ne.symm i)).trans m) (v:=W1.ref t.b) (e:=eJ t.d) (Ix t.b O (by rw[o];exact wl.mpr ⟨(g tb).2,(UF (g tb).1).trans (h.same _ _ tb)⟩));have hf:=h.dC;refine⟨h.ex,h.en,y,{h.ok with iI:=λl f=>?_,dC:=?_},(UF i).trans KE,?_,h.fG,h.fH,h.own,λc u q=>?_,?_⟩
·rcases cs.mp f with f|f
 ·exact h.ok.iI l f
 ·rw[sc.mp f];exact s
·show(st.ae++[eJ t.d]).length+st.ah.sum<=1000000;rw[ls,bK];rw[ls,bK]at hf;lia
·rw[UF (λz=>h.fH (by rw[z];exact a7)),UF ne];exact h.e6
·rw[UF (λz=>(g q).2 (by rw[z];exact a7)),UF (g q).1];exact h.same _ _ q
·show(st.ae++[eJ t.d]).length+st.ah.sum+aF.length<=600000;rw[ls,bK];rw[ls,bK]at hf;lia)
theorem Wd.lists(h:Wd CS CN N G sx nn bl fl H S st aF fs) (t:TupAt H v l):TupAt (Uf (Uf H bl x) S.a7 y) v l:=by
 obtain⟨a,e,q⟩:=t;obtain⟨es,b,_⟩:=h.at_.ae;refine Ix a e ?_;rw[UF (λz=>by rw[z,b]at q;cases q),UF (λz=>by rw[z,h.bW]at q;cases q)];exact q
theorem Wd.found(h:Wd CS CN N G sx nn bl fl H S st aF fs) (b:f2 CN G nn N) (nf:G fl=none) (ne:fl≠bl) (e:H p=none) :Wd CS CN N G sx nn bl fl (Uf (Uf H p (.tup l)) fl (.lst (fs++[W1.ref p]))) S st aF (fs++[W1.ref p]):=by(
have a:Tl H (Uf H p (.tup l)):=Tl.new e;have d:f2 CN (hide (fl::S.own) (Uf H p (.tup l))) S.n N:=by
 rw[h.en];refine b.same λc u q=>wl.mpr ⟨λz=>?_,a _ _ (h.same _ _ q)⟩;rcases rs.mp z with z|z
 ·rw[z,nf]at q;cases q
 ·rw[h.own c z]at q;cases q
refine⟨h.ex,h.en,(h.at_.same a).put h.fH (a _ _ h.e6) (λ_ z=>by cases z) d,h.ok,by rw[UF (Ne.symm ne)];exact a _ _ h.bW,KE,h.fG,h.fH,h.own,λc u q=>?_,h.dC⟩;rw[UF (λz=>by rw[z,nf]at q;cases q)];exact a _ _ (h.same _ _ q))
end
theorem J7(F:sB K "worthwhile" "worthwhile" q0 f fd) (U:eG mg) (X:bg K mg CS CN) (QN:mg "Search"=some (.ref CS)) (TW:Mk K CS Qq) (P5:AC P w K mg base xL 1 Qq Qr zae (iW CS CN)) (Qb:Binds K Qr zae [])
  (Qj:Gf P w K mg base 1 "minutes_on_foot" zaH (vA CN)) (Qh:Gf P w K mg base 1 "first_boardings" zaI (vp CN)) (Qi:Gm P w K mg base 5 CS "ride_to_the_end" zaa (rg CS CN)):AC P w K mg base xL 6 f fd zaJ (vG CN):=by
 refine gl Qj λQ9 Rb P6 Qc QO QH=>?_;refine gl Qh λQ7 Q_ P4 bB QM QG=>?_;refine Do Qi λQ8 Ra GE Qa QL=>?_;refine F.ar hU (λvs H Q E h=>?_) (λQ3 Q1 outer s0 H vs Q E OP h=>?_)
 ·refine pT h λn N goes a b u v QW _=>?_;subst QW;rfl
 ·intro Q2;refine pS h λn N goes a b u v QX=>?_;obtain⟨rfl,PB,hz,ok,PH,PJ,Rj,QE,hv,k⟩:=QX;have hu:=hI OP;refine B (On (zS 5 hU (ge P6 (OP.mono) rfl QO QH Qc .nil ws (UV (V 0) (UV (V 1) PP))))
   (On (zS 6 hU (ge P4 (OP.mono) rfl QM QG bB .nil ws (UV (V 0) (UV (V 5) PP))))
   (On (zS 7 hU (hN TW P5 (OP.mono) rfl QN Qb .nil ws (UV (V 0) PP)))
   (On (zS 8 hU (db PP))
   (On (zS 9 hU (nl U.nv rfl))
   (On (cH bN rfl (KQ rfl X.range (UV (kt bG (V 4) EQ) (UV (kt gP (V 3) EQ) (UV (eL eP EQ) PP)))) (zG 10 hU)
    (On (ll bN (PW.pt (nj (ga m6 (a0 b6 (by rfl) X.len b0 (UV (V 6) PP)) EQ (li _)) (nk (ga k8 (xz gN (xz wE (V 6) (eL eP EQ)) EQ) (V 10) (li _)))))
     (Fa (ca (cG cm da dc cZ (wS (V 7) rfl) (UV (xz gN (lb cm N7 N8 IJ (V 6)) EQ) PP)))))
    (On (ca (lg (V 7) X.aq QL GE OP Qa .nil ws))
    (On (zS 11 hU (a0 (yI rfl) (by rfl) U.min xt (UV (xz wE (wS (V 7) rfl) (V 2)) (UV (kt bG (V 10) (uR hu (V 5) (V 2) (nl U.nv rfl) ⟨O,O,O,O⟩)) PP))))
    (On (jp (PW.pt (nj (ga cv (V 10) (V 4) (li _)) (nk (ga d1 (V 11) (V 9) (li _)))))
     (Fa (ca (cG cm da dc cZ (V 8) (UV (bX (UV (V 10) (UV (V 11) PP))) PP)))) ii)
    (Fa (zS 9 hU (V 11))))))))
   (On (ca (lb cm N0 N1 IK (V 8)))
   (Fa (tt (V 8)))))))))) ?_
  refine B rfl (B rfl (bb n N a O PB hz PH (λH1 dp T0 Pm Rn PL OW=>?_)));have O4:=PB.same Pm;refine B rfl (B rfl (i1 n dp N a (N.ft a) T0 ⟨O,O4,hz,PL,OW,λH2 bl ts ks PZ fG bW QD Pj P1 QF Pa PN=>?_⟩));have Qu:=O4.same PZ;refine B rfl (λsx dx a1 a2 a3=>z8 Qu hz a1 a2 a3 λOT S ex en PD P0 Py=>⟨O,?_⟩);subst ex;have Rm:ts.length<=300000:=by
   have:=(Pj.length_eq).trans rfl;rw[FM]at this;have:=y6 hz (T0:=T0) QF Pa;lia
  have OS:Tl H1 (hide [bl] H2):=λc o q=>wl.mpr ⟨by simpa using v0 q fG,PZ _ _ q⟩;have Po:Tl (hide [bl] H2) H2:=b7 _ _;have Pr:∀t,t∈ts->hA (hide [bl] H2) t:=λt A=>by
   obtain⟨T,OK,Pk⟩:=QD t A;refine⟨wl.mpr ⟨λz=>?_,T⟩,wl.mpr ⟨λz=>?_,OK⟩,Pk⟩
   ·rw[sc.mp z,bW]at T;cases T
   ·rw[sc.mp z,bW]at OK;cases OK
  have PR:∀c,c∈S.own->(hide [bl] H2) c=none:=λc ON=>Po.free (Py c ON);have Pw:(hide [bl] H2) bl=none:=by
   cases q:(hide [bl] H2) bl with
   |none=>rfl
   |some o=>exact absurd (sc.mpr rfl) (wl.mp q).1
  have Pp:Tl (hide [bl] H2) OT:=Po.tr P0;have PK:=P0 _ _ bW;have Qd:bl∉S.own:=λz=>by rw[Py _ z]at bW;cases bW
  have O8:f2 CN (hide [bl] H2) S.n N:=by rw[en];exact O4.same OS
  have O7:(hide [bl] H2) dp=some (.dK T0):=OS _ _ PL;generalize hide [bl] H2=G at OS Po Pr PR Pw Pp O8 O7;refine⟨f4 _,λfl fH=>?_⟩;have Pn:Tl OT (Uf OT fl (.lst [])):=Tl.new fH;have Qs:fl∉S.own:=λz=>by obtain⟨o,q,_⟩:=PD.there z;rw[fH]at q;cases q
  have O3:G fl=none:=Pp.free fH;have Pz:fl≠bl:=λz=>by rw[z,PK]at fH;cases fH
  have Qv:=PD.same Pn;have Qe:=fw hz;have P8:Wd CS CN N G S.x S.n bl fl (Uf OT fl (.lst [])) S (f1 N) ts []:=⟨O,O,Qv,Qe,Pn _ _ PK,KE,Qd,Qs,PR,Pp.tr Pn,by
   have OM:(f1 N).ae=[]:=rfl;have Q5:(f1 N).ah.sum<=300000:=hz.small.2.1;rw[OM,ky];lia⟩
  refine B rfl (IN _ _ O O (B rfl (IN _ _ O O (Ix 1 O (dQ (v+1) (u-1) (-1) _ ⟨O,oL.neg (by lia) (by lia) (by lia) (by lia),?_⟩)))));have QR:∀t,t∈ts->(eJ t.d).2.1<N.runs.length/\(eJ t.d).2.2+1<N.len (eJ t.d).2.1:=λt A=>by
   refine k9 (BO OW Pa PN ok Pj A) λr i f T OK Pk _=>?_;rw[T];exact⟨OK,Pk⟩
  let P7:Nat->St->Hp->Prop:=λi ZB OO=>∃(L:SA) (st:SS) (aF y:List NP) (xs:List Int) (fs:List W1) (Pt O0:Option W1),ZB=[some (.ref n),some (Rs a),some (Rs b),some (.int u),some (.int v),some (.ref dp),some (.ref bl),some (.ref S.x),some (.ref fl),some (.int (if i=0 then FS else xs.getD (i-1) 0)),Pt,O0]/\xs.length=i/\ts=aF++y/\(∀t,t∈y->v+2-(i:Int)<=t.k)/\Wd CS CN N G S.x S.n bl fl OO L st aF fs/\e0 N goes (Bp y) st/\Paired (λv r=>TupAt OO v (r.map W1.int)) fs (rowsOf v xs)/\∀j,j<i->lw (λx=>∃n w,NJ N goes a (v+1-(j:Int)) n w b x) (xs.getD j 0)
  refine GS (lo:=v+1) (c:= -1) P7
   (fc S (f1 N) ts ([]) ([]) ([]) none none ⟨O,O,by rw[fm],λt A=>by simp at A,P8,?_,.nil,λj Rg=>by lia⟩) ?_ ?_
  ·have:Bp []=λ_ _=>False:=funext λr=>funext λi=>propext ⟨λQT=>by obtain⟨t,A,_⟩:=QT;simp at A,λz=>z.elim⟩;rw[this];exact Fm ok
  ·rintro i ZB OO hi ⟨L,st,aF,y,xs,fs,Pt,O0,rfl,OQ,C,OI,Y,Ph,OR,Pc⟩;have QB:v+1+((i:Nat):Int)* -1=v+1-(i:Int):=by lia
   show bh 10 (W1.int (v+1+((i:Nat):Int)* -1)) _ _ _;rw[QB];generalize hm:v+1-(i:Int)=mi;generalize O5:rowsOf v xs=R at OR;generalize Qw:(if i=0 then FS else xs.getD (i-1) 0)=O1;have Rf:(i:Int)<v-u+2:=by lia
   refine⟨λm ZB OU=>∃(st:SS) (aF y:List NP),ZB=[some (.ref n),some (Rs a),some (Rs b),some (.int u),some (.int v),some (.ref dp),some (.ref bl),some (.ref S.x),some (.ref fl),some (.int O1),some (.int mi),O0]/\m=aF.length/\ts=aF++y/\(∀t,t∈y->mi<=t.k)/\Wd CS CN N G S.x S.n bl fl OU L st aF fs/\e0 N goes (Bp y) st/\Paired (λv r=>TupAt OU v (r.map W1.int)) fs R,(dQ _ st aF y ⟨rfl,rfl,C,λt A=>by have:=OI t A;lia,Y,Ph,OR⟩),?_⟩;clear Y Ph OR C OI st aF y;rintro m ZB OU ⟨st,aF,y,rfl,rfl,C,OI,s,PU,PY⟩;have Pf:∀t,t∈aF->OU t.a=some (.tup [.int t.k,.ref t.b]):=λt A=>s.same _ _ (Pr t (by rw[C];exact gx _ A)).1;refine B rfl (IN bl _ O (.inl (TD.of s.bW)) (IN _ _ O O (B rfl ?_)));by_cases ON:∀t,t∈aF->t.k<mi
   ·apply Mn
    ·intro PF;by_cases e:aF=[]
     ·rw[sn (by rw[e];decide)];exact v6 (v6 PF)
     ·refine iS (Bn e) λJ t QY=>?_;subst QY;rw[sK (by rw[FM,ls,bK];lia)];have OX:(((J++[t]).map λt=>W1.ref t.a))[((J++[t]).map λt=>W1.ref t.a).length-1]?=some (W1.ref t.a):=by simp
      refine wn (B rfl (Ix 1 O (Db bl _ _ _ O O (TD.of s.bW) (oS OX) (Db t.a _ _ _ O O (pm.of (Pf t (by simp))) O (B rfl (IN _ _ O O (B rfl ?_)))))));rw[sn (by have:=ON t (by simp);lia)];exact v6 PF
    ·have Qk:Bp y=ma N goes a mi:=Fs OW Pa PN ok Pj C OI ON;refine B rfl (nw S.x L.dx _ O (by rw[<- s.ex];exact s.at_.ob) O (nw L N st (by rw[s.ex];rfl) s.at_ s.ok (λPu OL j Qp Qn Pg O6 Qy OV=>?_)));have D:Wd CS CN N G S.x S.n bl fl Pu OL (aN N st j) aF fs:=by
      refine⟨Qp.trans s.ex,Qn.trans s.en,O6,fJ s.ok j,OV _ _ s.bW s.fG,OV _ _ s.e6 s.fH,λz=>?_,λz=>?_,λc Qz=>?_,λc o q=>OV _ _ (s.same _ _ q) (λz=>by rw[s.own c z]at q;cases q),by have:=AU s.ok j;have:=s.dC;lia⟩
      ·rcases Pg _ z with z|z
       ·exact s.fG z
       ·rw[s.bW]at z;cases z
      ·rcases Pg _ z with z|z
       ·exact s.fH z
       ·rw[s.e6]at z;cases z
      ·rcases Pg c Qz with z|z
       ·exact s.own c z
       ·exact s.same.free z
     have OZ:Paired (λv r=>TupAt Pu v (r.map W1.int)) fs R:=aj (λ_ _ q=>s.at_.tup OV q) PY;have OY:=AF ok PU j;have PV:=OY;rw[Qk]at PV;have P9:=PV.fin ok (λr i j h1 h2 Rc=>by lia) Qy PJ;obtain⟨o,Qt,QS⟩:=OW.val b;have PX:=KY ok PH (t:=mi) (by lia) (by unfold FS;lia) Qt P9;have QI:b<(aN N st j).arr.length:=by rw[(fJ s.ok j).arr];exact PJ
     refine B rfl (wv S.x CS OL.dx _ _ O (by rw[<- D.ex];exact O6.ob) X.aq X.dJ O (B rfl (Db OL.a1 _ _ _ O O (TD.of O6.arr) (lv (int_at QI)) (B rfl (B rfl (zn dp O (.inl ⟨_,.inl (D.same _ _ O7)⟩) (B rfl (B (cN.k (k:=nK b) (D.same _ _ O7)) ?_))))))));have Qo:(it T0 (nK b)).getD (W1.int 1000000)=W1.int (o.getD FS):=by rw[QS];cases o<;>rfl
     rw[Qo];refine IN _ _ O O (io _ _ O ?_);have Ql:(if mi+o.getD FS<(aN N st j).arr.getD b 0 then mi+o.getD FS else(aN N st j).arr.getD b 0)=arrOf ((aN N st j).arr.getD b 0) mi o:=by
      unfold arrOf;split<;>lia
     show bh 11 (W1.int (if mi+o.getD FS<(aN N st j).arr.getD b 0 then mi+o.getD FS else(aN N st j).arr.getD b 0)) _ _ _;rw[Ql];generalize arrOf ((aN N st j).arr.getD b 0) mi o=x at PX;refine B rfl (B rfl (IN _ _ O O (B rfl ?_)));have O2:(if i+1=0 then FS else(xs++[x]).getD (i+1-1) 0)=x:=by
      rw[Ps (by lia),jK,Ps (by lia),No (by lia)]
     have Pd:∀OJ,OJ<i+1->lw (λx=>∃n w,NJ N goes a (v+1-(OJ:Int)) n w b x) ((xs++[x]).getD OJ 0):=λOJ Rh=>by
      by_cases c:OJ<i
      ·rw[jK,No (by lia)];exact Pc OJ c
      ·have:OJ=i:=by lia
       subst this;rw[jK,Ps (by lia),No (by lia),hm];exact PX
     have O9:∀t,t∈y->v+2-((i+1:Nat):Int)<=t.k:=λt A=>by have:=OI t A;lia
     have Pb:(xs++[x]).length=i+1:=by rw[ls,OQ];rfl
     by_cases QA:i=0
     ·rw[sn (by lia)];have OH:rowsOf v (xs++[x])=R:=by
       have:xs=[]:=Cg.mp (by lia);rw[<- O5,this];rfl
      refine v6 (v6 (B rfl (fc OL _ aF y (xs++[x]) fs _ _ ⟨by rw[O2];rfl,Pb,C,O9,D,OY,by rw[OH];exact OZ,Pd⟩)))
     ·rw[sK (by lia)];refine wn (B rfl (B rfl (IN _ _ O O (B rfl ?_))));have Qx:O1=xs.getD (xs.length-1) 0:=by rw[<- Qw,Ps QA,OQ]
      have OH:=LH (v:=v) (x:=x) (xs:=xs) (by lia);rw[O5,<-Qx,OQ]at OH;have Rl:R.length<=5000:=by
       rw[<- O5];unfold rowsOf;refine dz (Ce ..) ?_;rw[fZ];lia
      by_cases c:x<O1
      ·rw[sK c];rw[No c]at OH;refine wn (zn _ O (.inl ⟨O,⟨_,TD.of D.e6⟩⟩) (B rfl (zn _ O (by show 2<=Gc;decide) (λp Pe=>?_))));have fp:=v0 D.e6 Pe;refine bb fl fs _ O O ((UF fp).trans D.e6) (small (by rw[Paired.length OZ];lia)) ?_;refine B rfl (fc OL _ aF y (xs++[x]) (fs++[W1.ref p]) _ _ ⟨by rw[O2];rfl,Pb,C,O9,D.found O8 O3 Pz Pe,OY,?_,Pd⟩);rw[OH];refine Paired.snoc (aj (λw r ⟨Qg,e,q⟩=>Ix Qg e ?_) OZ) (Ix p O ?_)
       ·rw[UF (Ne.symm fp),KE,show v-((i-1:Nat):Int)=mi by lia];rfl
       ·rw[UF (λz=>by rw[z,D.e6]at q;cases q),UF (v0 q Pe)];exact q
      ·rw[sn c];rw[Ps c,fm]at OH;exact v6 (B rfl (fc OL _ aF y (xs++[x]) fs _ _ ⟨by rw[O2];rfl,Pb,C,O9,D,OY,by rw[OH];exact OZ,Pd⟩))
   ·have ne:aF≠[]:=λz=>ON (by rw[z];intro t A;simp at A);refine iS (Bn ne) λJ t QZ=>?_;subst QZ;have P2:t∈ts:=by rw[C];simp
    have PM:mi<=t.k:=by
     rw[C,dv]at P1;have QQ:=(wb.mp P1).2.2;apply Ep;intro Ri;refine ON λt0 QC=>?_;rcases cs.mp QC with h0|h0
     ·have:=QQ t0 h0 t (by simp);lia
     ·rw[sc.mp h0];lia
    rw[sK (by rw[FM,ls,bK];lia)];have OX:(((J++[t]).map λt=>W1.ref t.a))[((J++[t]).map λt=>W1.ref t.a).length-1]?=some (W1.ref t.a):=by simp
    refine wn (B rfl (Ix 1 O (Db bl _ _ _ O O (TD.of s.bW) (oS OX) (Db t.a _ _ _ O O (pm.of (Pf t (by simp))) O (B rfl (IN _ _ O O (B rfl ?_)))))));rw[sK PM];obtain⟨es,OM,_⟩:=s.at_.ae;have Q4:es.length=st.ae.length:=by obtain⟨Q6,Px,p⟩:=s.at_.ae;rw[OM]at Px;cases Px;exact Paired.length p
    have P_:L.a7≠bl:=λz=>s.fG (by rw[<- z];simp[SA.own]);have Qm:((J++[t]).map λt=>W1.ref t.a).dropLast=J.map λt=>W1.ref t.a:=by simp
    have Pq:=Pf t (by simp);refine wn ⟨λQ0 I=>∃QK,QK<(J++[t]).length/\_,λQ0 I q=>q,?_⟩;have PQ:=s.at_.ob;rw[s.ex]at PQ;refine B rfl (b' S.x CS L.dx _ _ O PQ X.aq X.lx O (.inl ⟨O,⟨_,TD.of OM⟩⟩) (zn _ O (.inl ⟨O,⟨_,TD.of s.bW⟩⟩) (bb bl _ _ O O s.bW OX (Db t.a _ _ _ O O (pm.of ((UF (λz=>by rw[z,s.bW]at Pq;cases Pq)).trans Pq)) O (bb L.a7 es _ O O ((UF P_).trans OM) (small (by have:=s.dC;lia)) ?_)))));rw[Qm];obtain⟨T,OK⟩:=QR t P2;refine Ix J.length (by rw[ls,bK];lia) (b_ _ J (t::y) ⟨O,O,by rw[C,dv];rfl,λt' O_=>?_,s.push O8 Pw Pz (Pr t P2) T OM,?_,aj (λ_ _ q=>s.lists q) PY⟩)
    ·rcases rs.mp O_ with rfl|O_
     ·exact PM
     ·exact OI t' O_
    ·refine PU.push (λr i QU=>by obtain⟨t',h1,h2⟩:=QU;exact Ix t' (o0 _ h1) h2) (λr i QV=>?_) (Ix t (kw ..) ⟨_,O⟩) T OK;obtain⟨t',h1,g,h2⟩:=QV;rcases rs.mp h1 with rfl|h1
     ·right;rw[h2];exact⟨O,O⟩
     ·exact .inl (Ix t' h1 ⟨g,h2⟩)
  ·rintro ZB OO ⟨L,st,aF,y,xs,fs,Pt,O0,rfl,OQ,C,OI,Y,Ph,OR,Pc⟩;have QJ:(xs.length:Int)=v-u+2:=by rw[OQ];lia
   refine zn _ O (.inl ⟨O,⟨_,TD.of Y.e6⟩⟩) (he fl fs O O Y.e6 ?_);have QP:∀ {c:WF}{o:HO},OO c=some o->(∀l,o≠.lst l)->c≠fl:=λq m z=>by rw[z,Y.e6]at q;exact m _ (b2 q).symm
   refine B rfl (k _ fl fs.reverse (rowsOf v xs).reverse (λm=>xs.getD (v+1-m).toNat 0) (λc o q=>?_) ?_ KE ?_ (λm h1 h2=>?_) (LG QJ QE))
   ·have Pl:=OS _ _ (Pm _ _ q);rw[UF (λz=>by rw[z,O3]at Pl;cases Pl)];exact Y.same _ _ Pl
   ·exact Pm.free (OS.free O3)
   ·refine Kz (aj (λw r ⟨c,e,q⟩=>Ix c e ?_) OR);rw[UF (QP q (λ_ z=>by cases z))];exact q
   ·have:=Pc (v+1-m).toNat (by lia);rw[show v+1-(((v+1-m).toNat:Nat):Int)=m by lia]at this;exact this
noncomputable def iE:List Int->Option c9
 |[a,b,d,u,v,m]=>some (.profile a b d u v m)
 |_=>none
theorem Ma:pu zaA zaA (s1 qM):=nb rfl rfl rfl (by decide +kernel)
theorem JV(F:sB K "profile" "profile" qM f fd) (T:bU K mg CP)
  (O5:Gf P w K mg base 2 "can_ask" zac (hW CP CN)) (O7:Gf P w K mg base 1 "is_minute" zao rb) (O9:Gf P w K mg base 1 "is_most" zai j6) (O6:Gm P w K mg base 4 CP "forward" zab (fM CP CN hx))
  (O_:Gf P w K mg base 6 "worthwhile" zaJ (vG CN)) (O8:Gf P w K mg base 1 "counted" zam j5):AC P w K mg base xL 7 f fd zaA (cI CP CN iE 6):=by(
refine gl O5 λPU P1 OT OZ Pp Pj=>?_;refine gl O7 λPX P4 OV O1 Pq Pk=>?_;refine gl O9 λPZ P6 GM O3 Pt Pm=>?_;refine Do O6 λPV P2 OU O0 Po=>?_;refine gl O_ λP0 P7 OX O4 Pu Pn=>?_;refine gl O8 λPY P5 OW O2 Pr Pl=>?_;refine F.ar Ma (λvs H Q E h=>?_) (λPR PM outer s0 H vs Q E o h=>?_)
·refine gR h λA j m l c PD OJ _=>?_;subst PD;simp[OJ]
·intro PQ;refine gS h λA j m l c PF OJ Pc z hT hm k=>?_;subst PF;obtain⟨a,b,d,u,v,g,rfl⟩:=uw OJ;cases Pc;refine B (On (jp (PW.pt (ew (bQ (cz (ge OT (o.mono) rfl Pp Pj OZ .nil ws (UV (V 0) (UV (V 1) (UV (V 2) (UV (V 3) (UV (V 4) PP)))))))) (ew (bQ (cz (ge OV (o.mono) rfl Pq Pk O1 .nil ws (UV (V 5) PP)))) (ew (ga d1 (V 5) (V 4) (li _)) (gU (bQ (cz (ge GM (o.mono) rfl Pt Pm O3 .nil ws (UV (V 6) PP))))))))) (Fa (tt (db (UV (nl T.c2 rfl) PP)))) ii)
  (Fa (tt (ge OW (o.mono) rfl Pr Pl O2 .nil ws (UV (ge OX o rfl Pu Pn O4 .nil ws (UV (aA (V 0) T.cl Po OU (o.mono) O0 .nil ws (UV (V 3) PP)) (UV (V 1) (UV (V 2) (UV (V 4) (UV (V 5) PP)))))) (UV (V 6) PP)))))) ?_
 have s:(b1 j a b d u&&(u8 v u 2879&&u8 g 0 4096))=false->∀p,H p=none->Q (.ref p) (Uf H p (.lst [W1.int (-2)])):=λe p D=>by
  have J:Ev j (.profile a b d u v g)=(bM (-2),j):=by simp only[Ev,e,a9]
  rw[J]at k;exact k _ p ((z.same (Tl.new D)).more (by lia)) ((Tl.new D).but _) D KE
 refine B rfl (B rfl (B rfl (B rfl (B rfl (g8 A j m a b d u ⟨O,z,B rfl ?_⟩)))));rw[jS];cases Y:b1 j a b d u with
 |false=>exact wn (wn ⟨by show 1<=Gc;decide,s (by rw[Y];rfl)⟩)
 |true=>
  refine jW (jy Y) λx y e PH PJ PK OP OQ Pd Pg P9=>?_;subst PH;subst PJ;subst PK;refine v6 (B rfl (Ix v O (B rfl ?_)));by_cases t:0<=v/\v<2880
  case neg=>
   rw[show(decide (0<=v)&&decide (v<2880))=false by rw[<- xl,ev,dL,dL];exact t];refine wn (wn ⟨by show 1<=Gc;decide,s ?_⟩);have:u8 v u 2879=false:=by
    unfold u8;rw[<- xl,ev,dL,dL];lia
   rw[this];simp
  case pos=>
   rw[sK t.1,sK t.2];refine v6 (B rfl (B rfl (IN _ _ O O (B rfl ?_))));by_cases OK:v<u
   ·rw[sK OK];refine wn (wn ⟨by show 1<=Gc;decide,s ?_⟩);have:u8 v u 2879=false:=by
     unfold u8;rw[<- xl,ev,dL,dL];lia
    rw[this];simp
   ·rw[sn OK];have PB:u8 v u 2879=true:=by
     unfold u8;rw[ev,dL,dL];lia
    refine v6 (B rfl (Ix g O (B rfl ?_)));cases OH:(decide (0<=g)&&decide (g<=4096))with
    |false=>exact wn ⟨by show 1<=Gc;decide,s (by rw[show u8 g 0 4096=false from OH];simp)⟩
    |true=>
     have hw:(b1 j x y e u&&(u8 v u 2879&&u8 g 0 4096))=true:=by rw[Y,PB,show u8 g 0 4096=true from OH];rfl
     refine v6 (B rfl (nw A.x A.dx _ O z.ob O (B rfl (bi A j m e O z hT Pd (by lia) (λH1 Qa OM Ph OL P8=>?_)))));refine Do Ph λn N PL Pb OI=>?_;subst PL;have hz:=jJ hT e OI;obtain⟨ok,same,ON⟩:=dF hT.bd OI;refine B rfl (B rfl (B rfl (B rfl (g8 n N _ x y u v ⟨O,Pb,hz,ok,by rw[ON];exact OP,by rw[ON];exact OQ,Pg,by lia,t.2,λH2 p Py L PN OS D Pe Px Pa U=>?_⟩))));have bn:=KZ hT.bd OI OP OQ (u:=u) (v:=v) (by unfold FS;lia) Pa;have P_:L.length<=2880:=by
      rw[U];refine dz (Ce ..) ?_;rw[fZ];lia
     refine B rfl (bi p g Py L O Pe Px (ph OH) (λr OO=>?_) (λOY q Pz Pw Pf=>?_))
     ·rw[U]at OO;obtain⟨i,_,hi⟩:=oB.mp OO;split at hi
      ·cases hi;show 2<=9;decide
      ·cases hi
     have OR:=OS.tr Pz;refine k OY q ((OM.same OR).more (by lia)) (OL.tr (OR.but []) λb C=>by simp at C) ?_ ?_
     ·exact gF OL (OS.free Pw) λb C=>OM.there (by simp only[sc]at C;rw[C];simp[PA.own])
     ·rw[Pf,AX];have J:Ev j (.profile x y e u v g)=(lV g L,j):=by
       simp only[Ev,hw,c',aK,ee];rw[U,<-bn];rfl
      rw[J])
abbrev qD:v2:=bj (na 24) 0
abbrev qh:v2:=bj (na 24) 1
abbrev qJ:v2:=bj (na 24) 2
abbrev qE:v2:=bj (na 24) 3
abbrev qv:v2:=bj (na 25) 0
abbrev qZ:v2:=bj (na 25) 1
abbrev qj:v2:=bj (na 25) 2
abbrev qk:v2:=bj (na 25) 3
abbrev qq:v2:=na 26
abbrev qs:v2:=na 27
abbrev qr:v2:=na 28
structure fu (K:wf) (CL CG:WF):Prop where
 gd:cE K CL
 au:ao K CL "network"
 ab:ao K CL "ridden"
 ready:ao K CL "ready"
 first:ao K CL "first_calls"
 eH:cE K CG
 goal:ao K CG "goal"
 arr:ao K CG "arrival"
 gk:ao K CG "limits"
noncomputable def lf (n c1 c2 c3:WF):List (Str×W1):=[("network",.ref n),("ridden",.ref c1),("ready",.ref c2),("first_calls",.ref c3)]
noncomputable def gf (b:Nat) (a:Int) (c:WF):List (Str×W1):=[("goal",Rs b),("arrival",.int a),("limits",.ref c)]
def hy (CL:WF) (H:Hp) (v:W1) (n:WF) (S:SS):Prop:=∃x dx c1 c2 c3,v=.ref x/\H x=some (.ins CL dx (lf n c1 c2 c3))/\H c1=some (.lst (S.ab.map W1.int))/\H c2=some (.lst (S.ready.map W1.int))/\H c3=some (.lst (S.aa.map Rs))
theorem hy.same(s:Tl H I) (h:hy CL H v n S):hy CL I v n S:=by obtain⟨x,dx,c1,c2,c3,e,a,b,c,d⟩:=h;exact(bZ x dx c1 c2 c3 ⟨e,s _ _ a,s _ _ b,s _ _ c,s _ _ d⟩)
structure gC (CL CG CN:WF) (H:Hp) (g:WF) (b:Nat) (a:Int) (TW:Nt) (S:Nat->SS) (r:Nat):Prop where
 ex:∃f d e c,H g=some (.ins CG f (gf b a d))/\H d=some (.lst c)/\c.length=r+1/\(∀k,k<=r->∃v,c[k]?=some v/\hy CL H v e (S k))/\f2 CN H e TW
theorem gC.same(s:Tl H I) (h:gC CL CG CN H g b a TW S r):gC CL CG CN I g b a TW S r:=by
 refine gQ h.ex λc d m l h1 h2 e f i=>?_;exact⟨c,d,m,l,s _ _ h1,s _ _ h2,e,λk j=>by obtain⟨v,n,o⟩:=f k j;exact(Ix v n (o.same s)),i.same s⟩
def vl (CL:WF):Sp:=λvs H Q _=>∃(v:W1) (n:WF) (S:SS) (s:Nat) (t:Int),vs=[v,Rs s,.int t]/\hy CL H v n S/\s<S.ab.length/\Q (.bl (decide (t<= -(S.ab.getD s 0)))) H
def vz (CL:WF):Sp:=λvs H Q _=>∃(v:W1) (n:WF) (S:SS) (s:Nat) (t:Int),vs=[v,Rs s,.int t]/\hy CL H v n S/\s<S.ready.length/\Q (.bl (decide (t<= -(S.ready.getD s 0)))) H
def vx (CL CN:WF):Sp:=λvs H Q _=>∃(v:W1) (n:WF) (TW:Nt) (S:SS) (r:Nat),vs=[v,Rs r]/\hy CL H v n S/\f2 CN H n TW/\r<TW.runs.length/\S.aa.length=TW.runs.length/\Q (.int ((TW.len r:Int)-1-((S.aa.getD r 0:Nat):Int))) H
theorem L0:pu zad zad (s1 qh):=nb rfl rfl rfl (by decide +kernel)
theorem L_:pu zad zad (s1 qJ):=nb rfl rfl rfl (by decide +kernel)
theorem vg:pu ["self","run","stops","comes"] zaK (s1 qE):=nb rfl rfl rfl (by decide +kernel)
theorem Jr(F:sB K "can_board_at" "Limits.can_board_at" qh f fd) (L:fu K CL CG):AC P w K mg base xL 1 f fd zad (vl CL):=by(
refine F.ar L0 (λvs H Q E h=>?_) (λg d outer s0 H vs Q E l h=>?_)
·refine hL h λv n S s t b _=>?_;subst b;rfl
·intro e;refine uL h λv n S s t c=>?_;obtain⟨rfl,⟨x,dx,c1,c2,c3,rfl,h1,h2,i,j⟩,a,k⟩:=c;exact B (Fa (tt (p1 cv (V 2) (eL eP (xz wE (wS (V 0) rfl) (V 1))) (li _)))) (B rfl (B rfl (wv x CL dx _ _ O h1 L.gd L.ab O (B rfl (Db c1 _ _ _ O O (TD.of h2) (lv (int_at a)) (B rfl (IN _ _ O O k))))))))
theorem JS(F:sB K "can_get_off_at" "Limits.can_get_off_at" qJ f fd) (L:fu K CL CG):AC P w K mg base xL 1 f fd zad (vz CL):=by(
refine F.ar L_ (λvs H Q E h=>?_) (λi e outer s0 H vs Q E l h=>?_)
·refine hL h λv n S s t c _=>?_;subst c;rfl
·intro g;refine uL h λv n S s t d=>?_;obtain⟨rfl,⟨x,dx,c1,c2,c3,rfl,h1,h2,a,j⟩,b,k⟩:=d;exact B (Fa (tt (p1 cv (V 2) (eL eP (xz wE (wS (V 0) rfl) (V 1))) (li _)))) (B rfl (B rfl (wv x CL dx _ _ O h1 L.gd L.ready O (B rfl (Db c2 _ _ _ O O (TD.of a) (lv (int_at b)) (B rfl (IN _ _ O O k))))))))
theorem JN(F:sB K "last_call_off" "Limits.last_call_off" qE f fd) (L:fu K CL CG) (X:bg K mg CS CN):AC P w K mg base xL 1 f fd zaK (vx CL CN):=by(
refine F.ar vg (λvs H Q E h=>?_) (λz u outer s0 H vs Q E OJ h=>?_)
·refine hL h λv n TW S r s _=>?_;subst s;rfl
·intro y;refine uL h λv n TW S r t=>?_;obtain⟨rfl,⟨x,dx,c1,c2,c3,rfl,h1,h2,OH,g⟩,i,a,hf,k⟩:=t;refine et i.ex λb c p o C D OK os ds fs d N g3 g4 g5 g6 T U Y J=>?_;obtain⟨OL,m,sa,A,⟨q,rfl,j⟩,l,OI⟩:=c5 g4 (bV a ([],[]));refine B (On (dI (xz wE (wS (wS (V 0) rfl) rfl) (V 1)) (cw rfl (re (zG 2 vg) (re (zG 3 vg) cx))))
  (Fa (tt (kt gP (kt gP (a0 b6 (by rfl) X.len b0 (UV (V 2) PP)) EQ) (xz wE (wS (V 0) rfl) (V 1)))))) ?_
 refine B rfl (wv x CL dx _ _ O h1 L.gd L.au O (wv n CN b _ _ O d X.aS X.iQ O (B rfl (Db p _ _ _ O O (TD.of g3) (lv m) (he q _ O (pm.of j) O (io _ _ O (IN _ _ O O ?_)))))));refine B rfl (IN sa _ O (.inl (TD.of l)) (IN _ _ O O (B rfl (wv x CL dx _ _ O h1 L.gd L.first O (B rfl (Db c3 _ _ _ O O (TD.of g) (lv (k7 (by rw[hf];exact a))) (IN _ _ O O ?_)))))));have e:(((TW.runs.getD r ([],[])).1.map Rs).length:Int)=(TW.len r:Int):=by rw[FM];rfl
 show Q (.int ((((TW.runs.getD r ([],[])).1.map Rs).length:Int)-1-((S.aa.getD r 0:Nat):Int))) H;rw[e];exact k)
def vF (CL CG CN:WF):Sp:=λvs H Q _=>∃(g:WF) (b:Nat) (a:Int) (TW:Nt) (S:Nat->SS) (r s left:Nat) (t:Int),vs=[.ref g,Rs s,.int t,Rs left]/\gC CL CG CN H g b a TW S r/\left<=r/\s<(S left).ab.length/\Q (.bl (fz (S left) b a s t)) H
def vm (CL CG CN:WF):Sp:=λvs H Q _=>∃(g:WF) (b:Nat) (a:Int) (TW:Nt) (S:Nat->SS) (r run call left:Nat),vs=[.ref g,Rs run,Rs call,Rs left]/\gC CL CG CN H g b a TW S r/\left<=r/\run<TW.runs.length/\(S left).aa.length=TW.runs.length/\Q (.bl (decide ((call:Int)<(TW.len run:Int)-1-(((S left).aa.getD run 0:Nat):Int)))) H
def vn (CL CG CN:WF):Sp:=λvs H Q _=>∃(g:WF) (b:Nat) (a:Int) (TW:Nt) (S:Nat->SS) (r s left:Nat) (t:Int),vs=[.ref g,Rs s,.int t,Rs left]/\gC CL CG CN H g b a TW S r/\left<=r/\s<(S left).ready.length/\Q (.bl (decide (t<= -((S left).ready.getD s 0)))) H
theorem Md:pu zag zag (s1 qZ):=nb rfl rfl rfl (by decide +kernel)
theorem L3:pu zaB zaB (s1 qj):=nb rfl rfl rfl (by decide +kernel)
theorem L4:pu zag zag (s1 qk):=nb rfl rfl rfl (by decide +kernel)
theorem J6(F:sB K "can_walk_to" "Guide.can_walk_to" qZ f fd) (L:fu K CL CG) (u:Gm P w K mg base 1 CL "can_board_at" zad (vl CL)):AC P w K mg base xL 2 f fd zag (vF CL CG CN):=by(
refine Do u λOI OJ p bB J=>?_;refine F.ar Md (λvs H Q E h=>?_) (λOH U outer s0 H vs Q E D h=>?_)
·refine pW h λg b a TW S r s left t N _=>?_;subst N;rfl
·intro Y;refine pV h λg b a TW S r s left t T=>?_;obtain⟨rfl,A,C,m,k⟩:=T;refine gQ A.ex λd l n OM h1 h2 OK y OL=>?_;obtain⟨v,hv,j⟩:=y left C;refine hM (id j) λx dx c1 c2 c3 e o ON OO OP=>?_;refine B (On (jp (PW.pt (nj (ga c0 (V 1) (wS (V 0) rfl) (li _)) (nk (ga cv (V 2) (wS (V 0) rfl) (li _))))) (Fa (tt m')) ii)
  (Fa (tt (aA (xz wE (wS (V 0) rfl) (V 3)) L.gd J p D bB .nil ws (UV (V 1) (UV (V 2) PP)))))) ?_
 unfold fz at k;have d4:∀i:Bool,i=false->(Q (.bl (i||decide (t<= -((S left).ab.getD s 0)))) H)->Q (.bl (decide (t<= -((S left).ab.getD s 0)))) H:=λi e q=>by rw[e]at q;exact q
 refine B rfl (B rfl (b' g CG d _ _ O h1 L.eH L.goal O O (B rfl ?_)));by_cases c:s=b
 ·rw[sK (by rw[c])];refine wn (B rfl (B rfl (wv g CG d _ _ O h1 L.eH L.arr O (IN _ _ O O (B rfl ?_)))));by_cases c2:t<=a
  ·rw[sK c2];rw[sK c,sK c2]at k;exact wn k
  ·rw[sn c2];refine v6 (B rfl (wv g CG d _ _ O h1 L.eH L.gk O (B rfl (Db l _ _ _ O O (TD.of h2) (lv hv) (nw x dx _ e o O (B rfl (B rfl (bZ v n (S left) s t ⟨by rw[e];rfl,j,m,d4 _ (by rw[sn c2,n0]) k⟩))))))))
 ·rw[sn (λz=>c (by unfold Rs at z;injection z with z;lia))];refine v6 (v6 (B rfl (wv g CG d _ _ O h1 L.eH L.gk O (B rfl (Db l _ _ _ O O (TD.of h2) (lv hv) (nw x dx _ e o O (B rfl (B rfl (bZ v n (S left) s t ⟨by rw[e];rfl,j,m,d4 _ (by rw[sn c,xm]) k⟩))))))))))
theorem Ju(F:sB K "can_board" "Guide.can_board" qj f fd) (L:fu K CL CG) (i:Gm P w K mg base 1 CL "last_call_off" zaK (vx CL CN)):AC P w K mg base xL 2 f fd zaB (vm CL CG CN):=by(
refine Do i λN T d bB t=>?_;refine F.ar L3 (λvs H Q E h=>?_) (λJ C outer s0 H vs Q E q h=>?_)
·refine pW h λg b a TW S r run call left z _=>?_;subst z;rfl
·intro D;refine pV h λg b a TW S r run call left A=>?_;obtain⟨rfl,o,p,s,hf,k⟩:=A;refine gQ o.ex λj l u Y h1 h2 U m n=>?_;obtain⟨v,hv,c⟩:=m left p;refine hM (id c) λx dx c1 c2 c3 e y OH OI OJ=>?_;refine B (Fa (tt (p1 d1 (V 2) (aA (xz wE (wS (V 0) rfl) (V 3)) L.gd t d q bB .nil ws (UV (V 1) PP)) (li _)))) ?_;exact B rfl (B rfl (wv g CG j _ _ O h1 L.eH L.gk O (B rfl (Db l _ _ _ O O (TD.of h2) (lv hv) (nw x dx _ e y O (B rfl (wv v u TW (S left) run (by rw[e];rfl) c n s hf (IN _ _ O O k)))))))))
theorem Jv(F:sB K "can_get_off" "Guide.can_get_off" qk f fd) (L:fu K CL CG) (i:Gm P w K mg base 1 CL "can_get_off_at" zad (vz CL)):AC P w K mg base xL 2 f fd zag (vn CL CG CN):=by(
refine Do i λT U d bB u=>?_;refine F.ar L4 (λvs H Q E h=>?_) (λN D outer s0 H vs Q E p h=>?_)
·refine pW h λg b a TW S r s left t A _=>?_;subst A;rfl
·intro J;refine pV h λg b a TW S r s left t C=>?_;obtain⟨rfl,n,o,q,k⟩:=C;refine gQ n.ex λj l y OI h1 h2 Y m OH=>?_;obtain⟨v,hv,c⟩:=m left o;refine hM (id c) λx dx c1 c2 c3 e z OJ OK OL=>?_;refine B (Fa (tt (aA (xz wE (wS (V 0) rfl) (V 3)) L.gd u d p bB .nil ws (UV (V 1) (UV (V 2) PP))))) ?_;exact B rfl (wv g CG j _ _ O h1 L.eH L.gk O (B rfl (Db l _ _ _ O O (TD.of h2) (lv hv) (nw x dx _ e z O (B rfl (B rfl (bZ v y (S left) s t ⟨by rw[e];rfl,c,q,k⟩))))))))
def vw (CL CS CN:WF):Sp:=λvs H Q _=>∃(x dx:WF) (A:SA) (N:Nt) (S:SS),vs=[.ref x,.ref A.x]/\H x=some (.ins CL dx [])/\ul CS CN H A N S/\x∉A.own/\
 ∀I:Hp,(∀l:List WF,(∀c,c∈l->c≠x/\H c≠none)->hy CL (hide l I) (.ref x) A.n S)->Ch [x] H I->Q .ak I
theorem L9:pu zap zap (s1 qD):=nb rfl rfl rfl (by decide +kernel)
theorem uf(a:c∈l):hide l H c=none:=by(
cases q:hide l H c with
|none=>rfl
|some o=>exact absurd a (wl.mp q).1)
theorem ul.tI(h:ul CS CN H A N S) (b:Ch [g] H I) (m:g∉A.own) (hg:∀l,H g≠some (.tup l)) (k:f2 CN (hide A.own I) A.n N):ul CS CN I A N S:=by
 have at_:∀ {c:WF}{u:HO},c∈A.own->H c=some u->I c=some u:=λj e=>b _ _ e λz=>m (by rw[<- sc.mp z];exact j);obtain⟨es,f,i⟩:=h.ae;refine⟨at_ (by simp[SA.own]) h.ob,at_ (by simp[SA.own]) h.arr,at_ (by simp[SA.own]) h.rides,at_ (by simp[SA.own]) h.ab,at_ (by simp[SA.own]) h.ready,at_ (by simp[SA.own]) h.ah,at_ (by simp[SA.own]) h.aa,(Ix es (at_ (by simp[SA.own]) f) (aj (λv e r=>?_) i)),h.nd,k⟩;obtain⟨a,o,p⟩:=r;obtain⟨q,d⟩:=wl.mp p;exact Ix a o (wl.mpr ⟨q,b _ _ d λz=>hg _ (by rw[<- sc.mp z];exact d)⟩)
theorem f2.uh(h:f2 CN G n N) (s:Tl G H) (a:∀c,c∈l->G c=none):f2 CN (hide l H) n N:=h.same λc u q=>wl.mpr ⟨(λz=>by rw[a c z]at q;cases q),s _ _ q⟩
theorem Ba(s:Tl G H) (a:∀c,c∈l->G c=none):Tl G (hide l H):=λc u q=>wl.mpr ⟨(λz=>by rw[a c z]at q;cases q),s _ _ q⟩
theorem JM(F:sB K "__init__" "Limits.__init__" qD f fd) (L:fu K CL CG) (X:bg K mg CS CN) (U:eG mg):AC P w K mg base xL 1 f fd zap (vw CL CS CN):=by(
refine F.ar L9 (λvs H Q E h=>?_) (λOV OS outer s0 H vs Q E OW h=>?_)
·refine hL h λx dx A N S OQ _=>?_;subst OQ;rfl
·intro OU;refine hM h λx dx A N S OR OM a nx k=>?_;subst OR;refine B (On (bq (V 0) (wS (V 1) rfl) rfl)
  (On (bq (V 0) (pZ oW (by rfl) U.list sG (UV (wS (V 1) rfl) PP)) rfl)
  (On (bq (V 0) (pZ oW (by rfl) U.list sG (UV (wS (V 1) rfl) PP)) rfl)
  (Fa (bq (V 0) (pZ oW (by rfl) U.list sG (UV (wS (V 1) rfl) PP)) rfl))))) ?_
 have no:∀ {c:WF},c∈A.own->c∉[x]:=λy z=>nx (by rw[<- sc.mp z];exact y);refine B rfl (wv A.x CS A.dx _ _ O a.ob X.aq X.ly O (B rfl (bi x CL dx _ O OM L.gd L.au (by decide) ?_)));have g:Ch [x] H (Uf H x (.ins CL dx (rc "network" (W1.ref A.n) []))):=(Ch.rfl' _ _).put (by simp);have x0:(Uf H x (.ins CL dx (rc "network" (W1.ref A.n) []))) x=some (.ins CL dx (rc "network" (W1.ref A.n) [])):=KE;generalize Uf H x (.ins CL dx (rc "network" (W1.ref A.n) []))=OT at g x0⊢;refine B rfl (wv A.x CS A.dx _ _ O (g _ _ a.ob (no (by simp[SA.own]))) X.aq X.qP O (IN A.a3 _ O (.inl (TD.of (g _ _ a.ab (no (by simp[SA.own]))))) (λc1 n1=>?_)));refine gJ rfl x0 n1 L.gd L.ab (by show 1<1000;decide) λH1 Y m q=>?_;have i:=g.tr Y λb d=>.inl d;refine B rfl (wv A.x CS A.dx _ _ O (i _ _ a.ob (no (by simp[SA.own]))) X.aq X.qO O (IN A.a4 _ O (.inl (TD.of (i _ _ a.ready (no (by simp[SA.own]))))) (λc2 n2=>?_)));refine gJ rfl q n2 L.gd L.ready (by show 2<1000;decide) λH2 s C r=>?_;have j:=i.tr s λb d=>.inl d;refine B rfl (wv A.x CS A.dx _ _ O (j _ _ a.ob (no (by simp[SA.own]))) X.aq X.qo O (IN A.a6 _ O (.inl (TD.of (j _ _ a.aa (no (by simp[SA.own]))))) (λc3 n3=>?_)));refine gJ rfl r n3 L.gd L.first (by show 3<1000;decide) λT t OH OP=>?_
 have J:=j.tr t λb d=>.inl d;have p:∀ {c:WF}{l:List W1}{e:Hp}{fs:List (Str×W1)},e c=some (.lst l)->e x=some (.ins CL dx fs)->c∉[x]:=λD OO z=>by rw[sc.mp z,OO]at D;cases D
 have u:∀ {c:WF}{e:Hp},Ch [x] H e->e c=none->e x≠none->H c=none:=λd y ON=>gF d y λb OL=>by rw[sc.mp OL];exact ON
 have OI:=u g n1 (by rw[x0];simp);have OJ:=u i n2 (by rw[q];simp);have OK:=u j n3 (by rw[r];simp);refine k T (λl o=>bZ x dx c1 c2 c3 ⟨O,wl.mpr ⟨λz=>(o _ z).1 rfl,OP⟩,wl.mpr ⟨λz=>(o _ z).2 OI,t _ _ (s _ _ m (p m q)) (p (s _ _ m (p m q)) r)⟩,wl.mpr ⟨λz=>(o _ z).2 OJ,t _ _ C (p C r)⟩,wl.mpr ⟨λz=>(o _ z).2 OK,OH⟩⟩) J)
def vu (CL CG CN:WF):Sp:=λvs H Q _=>∃(g d c:WF) (b:Nat) (a:Int) (r:Nat) (TW:Nt),vs=[.ref g,.ref c,Rs b,.int a,Rs r]/\H g=some (.ins CG d [])/\f2 CN (hide [g] H) c TW/\dd TW/\b<TW.n/\r<=400000/\
 ∀I:Hp,gC CL CG CN I g b a TW (a8 TW (cp TW b (-a))) r->Ch [g] H I->Q .ak I
theorem vf:pu ["self","mirrored","goal","arrival","rides","search","ride"] zar (s1 qv):=nb rfl rfl rfl (by decide +kernel)
theorem JF(F:sB K "__init__" "Guide.__init__" qv f fd) (L:fu K CL CG) (X:bg K mg CS CN) (Qt:mg "Search"=some (.ref CS)) (P5:Mk K CS Qe) (P2:AC P w K mg base xL 1 Qe Qh zae (iW CS CN)) (P9:Binds K Qh zae [])
  (PN:mg "Limits"=some (.ref CL)) (Pu:Mk K CL Qg) (Pr:AC P w K mg base xL 1 Qg Qi zap (vw CL CS CN)) (Py:Binds K Qi zap [])
  (Qa:Gm P w K mg base 4 CS "begin" zaj (nD CS CN)) (Qb:Gm P w K mg base 4 CS "take_ride" zaa (nE CS CN)):AC P w K mg base xL 5 f fd zar (vu CL CG CN):=by
 refine Do Qa λQF QH P1 bB Qr=>?_;refine Do Qb λQG QI GT P_ Qs=>?_;refine F.ar vf (λvs H Q E h=>?_) (λQE QC outer s0 H vs Q E OR h=>?_)
 ·refine pT h λg y OJ b a r TW QA _=>?_;subst QA;rfl
 ·intro QD;refine pS h λg y OJ b a r TW QB=>?_;obtain⟨rfl,hg,OI,hz,Pj,QK,k⟩:=QB;refine B (On (zS 5 vf (hN P5 P2 (OR.mono) rfl Qt P9 .nil ws (UV (V 1) PP)))
   (On (ca (aA (V 5) X.aq Qr P1 OR bB .nil ws (UV (V 2) (UV (eL eP (V 3)) PP))))
   (On (bq (V 0) (V 2) rfl)
   (On (bq (V 0) (V 3) rfl)
   (On (bq (V 0) (db (UV (hN Pu Pr (OR.mono) rfl PN Py .nil ws (UV (V 5) PP)) PP)) rfl)
   (Fa (cH bN rfl (ng rfl X.range (UV (V 4) PP)) (zG 6 vf)
    (On (ca (lg (V 5) X.aq Qs GT OR P_ .nil ws))
    (Fa (ca (cG cm da dc cZ (wS (V 0) rfl) (UV (hN Pu Pr (OR.mono) rfl PN Py .nil ws (UV (V 5) PP)) PP)))))))))))) ?_
  have O5:Tl (hide [g] H) H:=b7 _ _;have Pc:(hide [g] H) g=none:=uf (by simp);have PX:∀ {I:Hp},Tl (hide [g] H) I->Ch [g] H I:=λs c u q m=>s c u (wl.mpr ⟨m,q⟩);generalize hide [g] H=G at OI O5 Pc PX;refine B rfl (λsx dx a1 a2 a3=>z8 (OI.same O5) hz a1 a2 a3 λH1 S ex en PJ Qv Pb=>⟨O,?_⟩);subst ex;have Pd:g∉S.own:=λz=>by rw[Pb _ z]at hg;cases hg
  refine B rfl (nw S.x S.dx _ O PJ.ob O (B rfl (B rfl (Ix a O (bZ S TW _ b (-a) ⟨O,PJ,fw hz,Pj,λH2 O3 Qm=>?_⟩)))));have PH:pp TW (cp TW b (-a)):=((fw hz).av Pj (-a) (-a)).bI Pj (-a)
  replace O3:ul CS CN H2 S TW (cp TW b (-a)):=O3
  generalize cp TW b (-a)=Wp at O3 PH k;have Qz:∀j,pp TW (a8 TW Wp j):=λj=>by rw[<- iU];exact fJ PH j
  have PU:=kM Qv Qm Pb;have Qy:Tl G H2:=O5.tr PU;have Po:∀c,c∈S.own->G c=none:=λc m=>O5.free (Pb c m);have PK:=PU _ _ hg;have PF:∀ {OL:Hp}{o:HO},OL g=some o->(∃C d fs,o=.ins C d fs)->∀l,OL g≠some (.tup l):=λq ⟨_,_,_,e⟩ l z=>by rw[q,e]at z;cases z
  have PL:∀ {OL Pt:Hp},Tl G OL->Ch [g] OL Pt->Tl G Pt:=λs P7 c u q=>P7 _ _ (s _ _ q) λz=>by rw[sc.mp z,Pc]at q;cases q
  refine B rfl (B rfl (bi g CG y _ O PK L.eH L.goal (by decide) ?_));have Px:Ch [g] H2 (Uf H2 g (.ins CG y (rc "goal" (Rs b) []))):=(Ch.rfl' _ _).put (by simp);have g3:(Uf H2 g (.ins CG y (rc "goal" (Rs b) []))) g=some (.ins CG y (rc "goal" (Rs b) [])):=KE;generalize Uf H2 g (.ins CG y (rc "goal" (Rs b) []))=O7 at Px g3⊢;refine B rfl (B rfl (bi g CG y _ O g3 L.eH L.arr (by show 1<1000;decide) ?_));have O_:Ch [g] H2 (Uf O7 g (.ins CG y (rc "arrival" (W1.int a) (rc "goal" (Rs b) [])))):=Px.put (by simp);have g4:(Uf O7 g (.ins CG y (rc "arrival" (W1.int a) (rc "goal" (Rs b) [])))) g=some (.ins CG y (rc "arrival" (W1.int a) (rc "goal" (Rs b) []))):=KE;generalize Uf O7 g (.ins CG y (rc "arrival" (W1.int a) (rc "goal" (Rs b) [])))=OY at O_ g4⊢;have PY:=PL Qy O_;have OM:ul CS CN OY S TW Wp:=O3.tI O_ Pd (PF PK (b_ _ _ _ O)) (by rw[en];exact OI.uh PY Po);refine B rfl (λx dx nx Pm ne=>?_);have sx:Tl OY (Uf (Uf OY dx (.own x)) x (.ins CL dx [])):=(Tl.new Pm).tr (Tl.new (by rw[UF (Ne.symm ne)];exact nx));refine bZ x dx S TW Wp ⟨O,KE,OM.same sx,(λz=>by obtain⟨o,q,_⟩:=OM.there z;rw[nx]at q;cases q),λO8 Pl Qn=>⟨O,by show 1<=Gc;decide,λp OT=>?_⟩⟩;have OV:Tl OY O8:=λc u q=>Qn _ _ (sx _ _ q) λz=>by rw[sc.mp z,nx]at q;cases q
  refine gJ rfl (OV _ _ g4) OT L.eH L.gk (by show 2<1000;decide) λO9 Pa Qc g6=>?_;have Ql:p∉S.own:=λz=>by obtain⟨o,q,_⟩:=OM.there z;rw[OV _ _ q]at OT;cases OT
  have PZ:Tl G O8:=PY.tr OV;have P0:=PL PZ Pa;have Qp:ul CS CN O9 S TW Wp:=(OM.same OV).tI Pa Pd (PF (OV _ _ g4) (b_ _ _ _ O)) (by rw[en];exact OI.uh P0 Po);have Qk:G p=none:=PZ.free OT;have P6:∀c,c∈p::g::S.own->G c=none:=λc m=>by
   rcases rs.mp m with z|z
   ·rw[z];exact Qk
   ·rcases rs.mp z with z|z
    ·rw[z];exact Pc
    ·exact Po c z
  have Qq:=Pl (g::S.own) λc m=>by
   rcases rs.mp m with z|z
   ·rw[z];exact⟨v0 g4 nx,by rw[sx _ _ g4];simp⟩
   ·obtain⟨o,q,_⟩:=OM.there z;exact⟨v0 q nx,by rw[sx _ _ q];simp⟩
  have Qw:Tl (hide (g::S.own) O8) (hide (p::g::S.own) O9):=λc u q=>by
   obtain⟨T,N⟩:=wl.mp q;refine wl.mpr ⟨λz=>?_,Pa _ _ N λz=>T (by rw[sc.mp z];simp)⟩;rcases rs.mp z with z|z
   ·rw[z,OT]at N;cases N
   ·exact T z
  refine B rfl ⟨_,O,by lia,by lia,?_⟩;have PB:((r:Nat):Int).toNat=r:=by lia
  let P4:Nat->St->Hp->Prop:=λi ZB U=>∃(t:SA) (A:List W1) (D:Hp) (Pq:Option W1),ZB=[some (.ref g),some (.ref OJ),some (Rs b),some (.int a),some (Rs r),some (.ref S.x),Pq]/\t.x=S.x/\t.n=OJ/\ul CS CN U t TW (a8 TW Wp i)/\U g=some (.ins CG y (gf b a p))/\U p=some (.lst A)/\A.length=i+1/\Tl G D/\Tl D U/\(∀c,c∈p::g::t.own->D c=none)/\(∀k,k<=i->∃v,A[k]?=some v/\hy CL D v OJ (a8 TW Wp k))/\g∉t.own/\p∉t.own
  refine kT P4
   (dQ S ([W1.ref x]) (hide (p::g::S.own) O9) none ⟨O,O,en,Qp,g6,Qc,O,Ba P0 P6,b7 _ _,λc m=>uf m,λk O4=>Ix (W1.ref x) (by rw[xk.mp O4];rfl) (by rw[xk.mp O4,<-en];exact Qq.same Qw),Pd,Ql⟩) ?_ ?_
  ·rintro i ZB U hi ⟨t,A,D,Pq,rfl,ex,Pz,Ph,ON,OP,OS,OX,OK,O0,gk,Pe,Pf⟩;have hi:i<r:=nZ hi PB;have PQ:=Ph.ob;rw[ex]at PQ;refine B rfl (nw S.x t.dx _ O PQ O (nw t TW _ (by rw[ex];rfl) Ph (Qz i) (λOZ OU Pn OH Pg=>?_)));have Qd:cA TW (a8 TW Wp i)=a8 TW Wp (i+1):=rfl;rw[Qd]at OH;have O6:∀c,c∈({t with a7:=OU}:SA).own->c∈t.own\/c=OU:=λc m=>by
    simp only[SA.own,rs,ip,g9]at m⊢;rcases m with h|h|h|h|h|h|h|h<;>simp[h]
   have O2:({t with a7:=OU}:SA).x=S.x:=ex;have O1:({t with a7:=OU}:SA).n=OJ:=Pz;generalize ({t with a7:=OU}:SA)=J at OH O6 O2 O1;have PR:∀c,c∈t.own->D c=none:=λc m=>O0 c (o0 _ (o0 _ m));have Qx:=kM OK Pg PR;have OO:=Pg _ _ ON Pe;have OQ:=Pg _ _ OP Pf;have Qj:g∉J.own:=λz=>by
    rcases O6 _ z with z|z
    ·exact Pe z
    ·rw[z,Pn]at ON;cases ON
   have PD:p∉J.own:=λz=>by
    rcases O6 _ z with z|z
    ·exact Pf z
    ·rw[z,Pn]at OP;cases OP
   have Pw:∀c,c∈p::g::J.own->D c=none:=λc m=>by
    rcases rs.mp m with z|z
    ·exact O0 c (by rw[z];simp)
    ·rcases rs.mp z with z|z
     ·exact O0 c (by rw[z];simp)
     ·rcases O6 _ z with z|z
      ·exact PR c z
      ·rw[z];exact OK.free Pn
   have Qu:=OH.ob;rw[O2]at Qu;refine B rfl (b' g CG y _ _ O OO L.eH L.gk O (.inl ⟨O,⟨_,TD.of OQ⟩⟩) (B rfl (λx dx nx Pm ne=>?_)));have sx:Tl OZ (Uf (Uf OZ dx (.own x)) x (.ins CL dx [])):=(Tl.new Pm).tr (Tl.new (by rw[UF (Ne.symm ne)];exact nx));refine bZ x dx J TW _ ⟨by rw[O2];rfl,KE,OH.same sx,(λz=>by obtain⟨o,q,_⟩:=OH.there z;rw[nx]at q;cases q),λY Pl Qo=>⟨O,?_⟩⟩;have OW:Tl OZ Y:=λc u q=>Qo _ _ (sx _ _ q) λz=>by rw[sc.mp z,nx]at q;cases q
   refine bb p A _ O O (OW _ _ OQ) (small (by lia)) ?_;have PM:=Pl (p::g::J.own) λc m=>by
    have:∃o,OZ c=some o:=by
     rcases rs.mp m with z|z
     ·exact⟨_,by rw[z];exact OQ⟩
     ·rcases rs.mp z with z|z
      ·exact⟨_,by rw[z];exact OO⟩
      ·obtain⟨o,q,_⟩:=OH.there z;exact⟨o,q⟩
    obtain⟨o,q⟩:=this;exact⟨v0 q nx,by rw[sx _ _ q];simp⟩
   have P8:Ch [p] Y (Uf Y p (.lst (A++[W1.ref x]))):=(Ch.rfl' _ _).put (by simp);have Pp:Tl D (hide (p::g::J.own) Y):=Ba (Qx.tr OW) Pw;have PV:Tl (hide (p::g::J.own) Y) (Uf Y p (.lst (A++[W1.ref x]))):=λc u q=>by
    obtain⟨T,N⟩:=wl.mp q;rw[UF (λz=>T (by rw[z];simp))];exact N
   refine dQ J (A++[W1.ref x]) (hide (p::g::J.own) Y) _ ⟨O,O2,O1,(OH.same OW).tI P8 PD (λl z=>by rw[OW _ _ OQ]at z;cases z) ?_,?_,KE,by rw[ls,OS];rfl,OX.tr Pp,PV,λc m=>uf m,λPk QJ=>?_,Qj,PD⟩
   ·rw[O1];exact(OI.same OX).uh (Pp.tr PV) λc m=>Pw c (o0 _ (o0 _ m))
   ·rw[UF (λz=>by rw[z,OQ]at OO;cases OO)];exact OW _ _ OO
   ·by_cases c:Pk<=i
    ·obtain⟨v,T,N⟩:=gk Pk c;exact Ix v (by rw[ot (by lia)];exact T) (N.same Pp)
    ·have:Pk=i+1:=by lia
     subst this;refine Ix (W1.ref x) (by rw[oq (by lia),OS];simp) ?_;rw[O1]at PM;exact PM
  ·rintro ZB U ⟨t,A,D,Pq,rfl,ex,Pz,Ph,ON,OP,OS,OX,OK,O0,gk,Pe,Pf⟩;rw[PB]at OS gk;refine k U ⟨y,p,OJ,A,ON,OP,OS,λk O4=>?_,OI.same (OX.tr OK)⟩ (PX (OX.tr OK));obtain⟨v,T,N⟩:=gk k O4;exact Ix v T (N.same OK)
def vt (CL CG CN:WF):Sp:=λvs H Q _=>∃(n g:WF) (N:Nt) (b:Nat) (a:Int) (TW:Nt) (S:Nat->SS) (r s left:Nat) (t:Int),vs=[.ref n,.ref g,Rs s,.int t,Rs left]/\f2 CN H n N/\dd N/\gC CL CG CN H g b a TW S r/\left<=r/\s<N.n/\(S left).ab.length=N.n/\
 (∀(c d:List (Nat×Int×Nat)) (g' q:Nat) (m:Int) (I:Hp) (p:WF),N.foot.getD s []=c++(g',m,q)::d->(∀f,f∈c->fz (S left) b a f.1 (t+f.2.1)=false)->fz (S left) b a g' (t+m)=true->Tl H I->I p=some (.tup [.int (-1),Rs q,Rs s,Rs g',.int (t+m)])->Q (.ref p) I)/\
 ((∀f,f∈N.foot.getD s []->fz (S left) b a f.1 (t+f.2.1)=false)->Q .ak H)
theorem q4:pu ["network","guide","stop","minute","left","goal","minutes","number"] zaL (s1 qs):=nb rfl rfl rfl (by decide +kernel)
theorem JC(F:sB K "first_walk" "first_walk" qs f fd) (L:fu K CL CG) (X:bg K mg CS CN) (U:eG mg) (Y:Gm P w K mg base 2 CG "can_walk_to" zag (vF CL CG CN)):AC P w K mg base xL 3 f fd zaL (vt CL CG CN):=by(
refine Do Y λO7 O8 D T OY=>?_;refine F.ar q4 (λvs H Q E h=>?_) (λO5 O3 outer s0 H vs Q E OR h=>?_)
·refine pP h λn g N b a TW S r s left t O1=>?_;obtain⟨rfl,_⟩:=O1;rfl
·intro O4;refine pP h λn g N b a TW S r s left t O2=>?_;obtain⟨rfl,ON,hz,y,OQ,A,OS,OV,OW⟩:=O2;refine B (On (cH bN rfl (cy (xz wE (wS (V 0) rfl) (V 2))) (cw rfl (re (zG 5 q4) (re (zG 6 q4) (re (zG 7 q4) cx))))
   (Fa (jp (cz (aA (V 1) L.eH OY D OR T .nil ws (UV (V 5) (UV (kt bG (V 3) (V 6)) (UV (V 4) PP))))) (Fa (tt (bX (UV (nl U.wk rfl) (UV (V 7) (UV (V 2) (UV (V 5) (UV (kt bG (V 3) (V 6)) PP)))))))) ii)))
  (Fa (tt uS))) ?_
 refine et ON.ex λOI c Pj o O6 OJ Pk os ds fs h1 h2 Pb Pc Pd Pe OL OM Pf Pa=>?_;refine gQ y.ex λOH O_ Ph Pg OK O9 g3 g4 g5=>?_;have xd:s<N.foot.length:=by rw[hz.foot];exact A
 obtain⟨vd,OU,es,⟨x,rfl,z⟩,C⟩:=c5 OM (bV xd []);have OX:es.length=(N.foot.getD s []).length:=Paired.length C;refine B rfl (wv n CN OI _ _ O h1 X.aS X.mW O (B rfl (Db OJ _ _ _ O O (TD.of OL) (lv OU) (zn x O ⟨_,TD.of z⟩ ?_))))
 let J:Nat->St->Hp->Prop:=λi ZB H2=>∃k l m,ZB=[some (.ref n),some (.ref g),some (Rs s),some (.int t),some (Rs left),k,l,m]/\H2=H/\∀f,f∈(N.foot.getD s []).take i->fz (S left) b a f.1 (t+f.2.1)=false
 refine gM (K:=K) (a:=x) (xs:=es) J
  (b_ none none none ⟨O,O,λf hf=>by simp at hf⟩) (λi ZB H2 _ O0=>by obtain⟨_,_,_,_,e,_⟩:=O0;rw[e];exact TD.of z) ?_ ?_
 ·rintro i v ZB H2 hi ⟨k,l,m,rfl,rfl,d⟩;obtain⟨⟨g',mi,q⟩,j,ta,rfl,OT⟩:=eu C hi;have OP:=(aD.mp j);have OO:g'<N.n:=hz.kS s g' mi A (by unfold Nt.ft;exact mo.mpr (B (pi j) rfl));refine he ta _ O (pm.of OT) O (io _ _ O (io _ _ O (IN _ _ O O ?_)));refine B rfl (nw g OH _ O OK O (B rfl (B rfl (B rfl (IN _ _ O O (B rfl ⟨g,b,a,TW,S,r,g',left,t+mi,O,y,OQ,by rw[OS];exact OO,_,O,?_⟩))))));cases u:fz (S left) b a g' (t+mi)with
  |true=>
   refine wn (B rfl (B rfl (B rfl (B rfl (B rfl (he _ _ O O (by show 5<=Gc;decide) (λp OZ=>?_)))))));refine OV _ ((N.foot.getD s []).drop (i+1)) g' q mi _ p ?_ d u (Tl.new OZ) KE;rw[<- OP.2,List.getElem_cons_drop,Cm]
  |false=>
   refine v6 (b_ _ _ _ ⟨O,O,λf hf=>?_⟩);rw[cB,j,cK]at hf;rcases cs.mp hf with hf|hf
   ·exact d f hf
   ·rw[sc.mp hf];exact u
 ·rintro ZB H2 ⟨k,l,m,rfl,rfl,d⟩;rw[OX,dy]at d;exact OW d)
def vr (CL CG CN:WF):Sp:=λvs H Q _=>∃(n g:WF) (N:Nt) (b:Nat) (a:Int) (TW:Nt) (S:Nat->SS) (r s left:Nat) (t:Int),vs=[.ref n,.ref g,Rs s,.int t,Rs left]/\f2 CN H n N/\dd N/\gC CL CG CN H g b a TW S r/\left+1<=r/\s<N.n/\(S left).ready.length=N.n/\
 (S (left+1)).aa.length=TW.runs.length/\TW.runs.length=N.runs.length/\N.aZ.length=N.runs.length/\(∀x,x<N.runs.length->TW.len x=N.len x/\(S (left+1)).aa.getD x 0<N.len x)/\(∃e,e∈N.af.getD s []/\bE N (S (left+1)) t e=true)/\
 (∀e,e∈N.af.getD s []->bE N (S (left+1)) t e=true->∃j,e.2.2<j/\j<N.len e.2.1/\e2 N (S left) e.2.1 j=true)/\
 ∀(e:on) (j:Nat) (I:Hp) (p q:WF),e∈N.af.getD s []->bE N (S (left+1)) t e=true->(∀c,c∈N.af.getD s []->bE N (S (left+1)) t c=true->e.2.1<c.2.1\/(e.2.1=c.2.1/\e.2.2<=c.2.2))->e.2.2<j->j<N.len e.2.1->e2 N (S left) e.2.1 j=true->(∀d,e.2.2<d->d<j->e2 N (S left) e.2.1 d=false)->
  Tl H I->I p=some (.tup [Rs (N.aZ.getD e.2.1 (0,0)).1,.int (N.aZ.getD e.2.1 (0,0)).2,Rs e.2.2,Rs j,.int (N.comes e.2.1 j)])->I q=some (.tup [.ref p,Rs (N.stop e.2.1 j)])->Q (.ref q) I
theorem e':pu ["network","guide","stop","ready","left","boardings","goes","run","call","on","trip","begins","stops","comes","off"] zaM (s1 qr):=nb rfl rfl rfl (by decide +kernel)
theorem Il(h:HT.lexLt [a,b] [c,d]=false):c<a\/(c=a/\d<=b):=by(
rw[HT.k2,HT.k2,HT.z0]at h;by_cases e:a=c
·rw[No e]at h;by_cases f:b=d
 ·right;lia
 ·rw[Ps f,wt]at h;right;lia
·rw[Ps e,wt]at h;left;lia)
theorem JB(F:sB K "first_ride" "first_ride" qr f fd) (O0:fu K CL CG) (X:bg K mg CS CN) (U:eG mg) (Pk:Gm P w K mg base 2 CG "can_board" zaB (vm CL CG CN)) (Pl:Gm P w K mg base 2 CG "can_get_off" zag (vn CL CG CN)):AC P w K mg base xL 3 f fd zaM (vr CL CG CN):=by
 refine Do Pk λQi Qk Pg bB P6=>?_;refine Do Pl λQj Ql Ph Pj P7=>?_;refine F.ar e' (λvs H Q E h=>?_) (λQh Qe outer s0 H vs Q E OS h=>?_)
 ·refine pP h λn g N b a TW S r s left t Qb=>?_;obtain⟨rfl,_⟩:=Qb;rfl
 ·intro Qg;refine pP h λn g N b a TW S r s left t Qc=>?_;obtain⟨rfl,Pz,hz,OP,PJ,OT,PR,e6,Qu,Qv,PK,hex,PN,k⟩:=Qc;have hu:=hI OS;refine B (On (zS 5 e' (db PP))
   (On (cH bN rfl (cy (xz wE (wS (V 0) rfl) (V 2))) (cw rfl (re (zG 6 e') (re (zG 7 e') (re (zG 8 e') cx))))
    (Fa (jp (PW.pt (nj (ga k8 (V 6) (V 3) (li _)) (nk (cz (aA (V 1) O0.eH P6 Pg OS bB .nil ws (UV (V 7) (UV (V 8) (UV (kt bG (V 4) EQ) PP)))))))) (Fa (ca (cG cm da dc cZ (V 5) (UV (bX (UV (V 7) (UV (V 8) PP))) PP)))) ii)))
   (On (dI (a0 (FI rfl hu) (by rfl) U.min xt (UV (V 5) PP)) (cw rfl (re (zG 7 e') (re (zG 9 e') cx))))
   (On (dI (xz wE (wS (V 0) rfl) (V 7)) (cw rfl (re (zG 10 e') (re (zG 11 e') cx))))
   (On (dI (xz wE (wS (V 0) rfl) (V 7)) (cw rfl (re (zG 12 e') (re (zG 13 e') cx))))
   (On (zS 14 e' (kt bG (V 9) EQ))
   (On (ll bN (bQ (cz (aA (V 1) O0.eH P7 Ph OS Pj .nil ws (UV (xz wE (V 12) (V 14)) (UV (xz wE (V 13) (V 14)) (UV (V 4) PP)))))) (Fa (uU (i:=14) e'.nd rfl (Or.inl rfl) EQ Ho)))
   (Fa (tt (bX (UV (bX (UV (V 10) (UV (V 11) (UV (V 9) (UV (V 14) (UV (xz wE (V 13) (V 14)) PP)))))) (UV (xz wE (V 12) (V 14)) PP)))))))))))) ?_
  refine et Pz.ex λOO c P9 o Pn Qm QB os ds fs h1 h2 Pt Pu Pw Px Qp Qq Py Pr=>?_;refine gQ OP.ex λO4 Qo QA Qz O6 Qn g3 g4 g5=>?_;have xd:s<N.af.length:=by rw[hz.af];exact OT
  obtain⟨vd,PX,es,⟨O3,rfl,O9⟩,Pf⟩:=c5 Px (bV xd []);have P5:es.length=(N.af.getD s []).length:=Paired.length Pf;have Qy:(N.af.getD s []).length<=300000:=by
   have:=jO (N.af.map cC) s;rw[np,pr,bV xd []]at this;have this:(N.af.getD s []).length<=_:=this;have:=hz.small.2.1;lia
  refine⟨f4 _,λbl fG=>?_⟩;have OK:Tl H (Uf H bl (.lst [])):=Tl.new fG;refine B rfl (wv n CN OO _ _ O (OK _ _ h1) X.aS X.hK O (B rfl (Db Pn _ _ _ O O (TD.of (OK _ _ Pw)) (lv PX) (zn O3 O ⟨_,TD.of (OK _ _ O9)⟩ ?_))))
  let OZ:Nat->St->Hp->Prop:=λi ZB H2=>∃(OL OX OM:Option W1) (as:List WF),ZB=[some (.ref n),some (.ref g),some (Rs s),some (.int t),some (Rs left),some (.ref bl),OL,OX,OM,none,none,none,none,none,none]/\H2 bl=some (.lst (as.map W1.ref))/\Paired (λJ ns=>H2 J=some (.tup (ns.map W1.int))) as ((((N.af.getD s []).take i).filter (bE N (S (left+1)) t)).map λe=>[(e.2.1:Int),(e.2.2:Int)])/\Tl H H2
  refine gM (K:=K) (a:=O3) (xs:=es) OZ
   (dQ none none none ([]) ⟨O,KE,.nil,OK⟩) (λi ZB H2 _ Qa=>by obtain⟨_,_,_,_,_,_,_,l⟩:=Qa;exact TD.of (l _ _ O9)) ?_ ?_
  ·rintro i v ZB H2 hi ⟨OL,OX,OM,as,rfl,bW,D,l⟩;obtain⟨⟨go,d,A⟩,OU,ta,rfl,PV⟩:=eu Pf hi;have Qr:=(aD.mp OU).1;have T:d<N.runs.length:=hz.mB s _ OT (pi OU);have O5:((N.af.getD s []).take (i+1)).filter (bE N (S (left+1)) t)=((N.af.getD s []).take i).filter (bE N (S (left+1)) t)++(if bE N (S (left+1)) t (go,d,A)=true then [(go,d,A)]else []):=by
    rw[cB,OU,cK,ku]
    congr 1
    by_cases q:bE N (S (left+1)) t (go,d,A)=true<;>simp[q]
   have Pd:as.length<=300000:=by
    rw[Paired.length D,FM];refine dz (l7 ..) ?_;rw[aP];lia
   have same:bE N (S (left+1)) t (go,d,A)=false->OZ (i+1) [some (W1.ref n),some (.ref g),some (Rs s),some (.int t),some (Rs left),some (.ref bl),some (.int go),some (Rs d),some (Rs A),none,none,none,none,none,none] H2:=λq=>by
    refine dQ _ _ _ as ⟨O,bW,?_,l⟩;rw[O5,Ps (by rw[q];simp),fm];exact D
   refine he ta _ O (pm.of (l _ _ PV)) O (io _ _ O (io _ _ O (IN _ _ O O ?_)));refine B rfl (B rfl (IN _ _ O O (B rfl ?_)));by_cases c1:t<=go
   ·rw[sK c1];have Qt:((left:Nat):Int)+1=((left+1:Nat):Int):=by lia
    refine wn (B rfl (nw g O4 _ O (l _ _ O6) O (B rfl (B rfl (B rfl (IN _ _ O O ?_))))));refine⟨g,b,a,TW,S,r,d,A,left+1,O,OP.same l,PJ,by lia,e6,_,O,?_⟩;obtain⟨P2,Qx⟩:=PK d T;rw[P2];by_cases c2:A<N.len d-1-(S (left+1)).aa.getD d 0
    ·have Pm:bE N (S (left+1)) t (go,d,A)=true:=by unfold bE;rw[sK c1,sK c2];rfl
     rw[sK (by lia)];refine wn (zn _ O (.inl ⟨O,⟨_,TD.of bW⟩⟩) (B rfl (zn _ O (by show 2<=Gc;decide) (λp L=>?_))));have O1:bl≠p:=v0 bW L;refine bb bl _ _ O O ((UF O1).trans bW) (small (by rw[FM];lia)) ?_;refine dQ _ _ _ (as++[p]) ⟨O,by rw[KE,bL];rfl,?_,λO2 u q=>?_⟩
     ·rw[O5,No Pm,bL];refine Paired.snoc (aj (λJ ns q=>?_) D) (by rw[UF (Ne.symm O1),KE];rfl);rw[UF (λz=>by rw[z,bW]at q;cases q),UF (v0 q L)];exact q
     ·rw[UF (v0 q fG)];exact Tl.new L _ _ (l _ _ q)
    ·rw[sn (by lia)];refine v6 (same ?_);unfold bE;rw[sn c2,n0]
   ·rw[sn c1];refine v6 (v6 (same ?_));unfold bE;rw[sn c1,xm]
  ·rintro ZB H2 ⟨OL,OX,OM,as,rfl,bW,D,l⟩;rw[P5,dy]at D;have Pd:as.length=((N.af.getD s []).filter (bE N (S (left+1)) t)).length:=by rw[Paired.length D,FM]
   refine B rfl (bb bl as _ O (TD.of bW) D ?_ (λi J m PB hm PL=>?_))
   ·obtain⟨e,OQ,PF⟩:=hex;rw[Pd];exact List.length_pos_of_mem (f5.mpr ⟨OQ,PF⟩)
   obtain⟨e,OQ,Po⟩:∃e,((N.af.getD s []).filter (bE N (S (left+1)) t))[i]?=some e/\m=[(e.2.1:Int),(e.2.2:Int)]:=by
    rw[pr]at hm;cases q:((N.af.getD s []).filter (bE N (S (left+1)) t))[i]? with
    |none=>rw[q]at hm;cases hm
    |some e=>rw[q]at hm;cases hm;exact Ix e O O
   subst Po;obtain⟨OR,O_⟩:=f5.mp (pi OQ);have PD:H2 J=some (.tup [Rs e.2.1,Rs e.2.2]):=by
    obtain⟨ns,OJ,OW⟩:=eu D PB;rw[hm]at OJ;cases OJ;exact OW
   have Pp:∀x,x∈N.af.getD s []->bE N (S (left+1)) t x=true->e.2.1<x.2.1\/(e.2.1=x.2.1/\e.2.2<=x.2.2):=λx OJ OW=>by
    have:=Il (PL [(x.2.1:Int),(x.2.2:Int)] (mo.mpr (Ix x (f5.mpr ⟨OJ,OW⟩) O)));lia
   obtain⟨go,d,y⟩:=e;have T:d<N.runs.length:=hz.mB s _ OT OR;obtain⟨QC,PY,P8,rfl,PM⟩:=c5 Pr (bV (show d<N.aZ.length by lia) (0,0));obtain⟨QD,PZ,sa,ON,⟨P_,rfl,PU⟩,Pb,O8⟩:=c5 Pu (bV T ([],[]));refine he J _ O (pm.of PD) O (io _ _ O (IN _ _ O O ?_));refine B rfl (wv n CN OO _ _ O (l _ _ h1) X.aS X.pG O (B rfl (Db o _ _ _ O O (TD.of (l _ _ Py)) (lv PY) (he P8 _ O (pm.of (l _ _ PM)) O (io _ _ O (IN _ _ O O ?_))))));refine B rfl (wv n CN OO _ _ O (l _ _ h1) X.aS X.iQ O (B rfl (Db P9 _ _ _ O O (TD.of (l _ _ Pt)) (lv PZ) (he P_ _ O (pm.of (l _ _ PU)) O (io _ _ O (IN _ _ O O ?_))))));refine B rfl (IN _ _ O O ?_);obtain⟨Y,P0,P1,OV⟩:=PN _ OR O_;have P4:=hz.comes d T;have PQ:W1.int ((y:Int)+1)=Rs (y+1):=by unfold Rs;congr 1
   show bh 14 (W1.int ((y:Int)+1)) _ _ _;rw[PQ];refine⟨λOI ZB OY=>∃(j:Nat),ZB=[some (.ref n),some (.ref g),some (Rs s),some (.int t),some (Rs left),some (.ref bl),OL,some (Rs d),OM,some (Rs y),some (Rs (N.aZ.getD d (0,0)).1),some (.int (N.aZ.getD d (0,0)).2),some (.ref sa),some (.ref ON),some (Rs j)]/\OY=H2/\OI=Y-j/\y<j/\j<=Y/\∀C,y<C->C<j->e2 N (S left) d C=false,⟨_,y+1,rfl,rfl,rfl,by lia,P0,λC h1 h2=>by lia⟩,?_⟩;rintro OI ZB OY ⟨j,rfl,rfl,rfl,PH,Qs,Pa⟩;have OH:j<N.len d:=by simp only at P1;lia
   have Pc:((N.runs.getD d ([],[])).1.map Rs)[j]?=some (Rs (N.stop d j)):=k7 OH;have O7:((N.runs.getD d ([],[])).2.map W1.int)[j]?=some (W1.int (N.comes d j)):=int_at (by rw[P4];exact OH);refine B rfl (nw g O4 _ O (l _ _ O6) O (B rfl (B rfl (Db sa _ _ _ O O (TD.of (l _ _ Pb)) (lv Pc) (B rfl (B rfl (Db ON _ _ _ O O (TD.of (l _ _ O8)) (lv O7) (B rfl ⟨g,b,a,TW,S,r,N.stop d j,left,N.comes d j,O,OP.same l,by lia,by rw[PR];exact hz.eO d j T OH,_,O,?_⟩))))))));have Pq:decide (N.comes d j<= -((S left).ready.getD (N.stop d j) 0))=e2 N (S left) d j:=rfl;rw[Pq];cases co:e2 N (S left) d j with
   |false=>
    refine wn ⟨λQd I=>∃OI,OI<Y-j/\_,λQd I q=>q,?_⟩;have Qw:j≠Y:=λz=>by rw[z]at co;simp only at OV;rw[co]at OV;cases OV
    refine B rfl (IN _ _ O O (Ix (Y-(j+1)) (by lia) ⟨j+1,?_,O,O,by lia,by lia,λC h1 h2=>?_⟩))
    ·have:W1.int ((j:Int)+1)=Rs (j+1):=by unfold Rs;congr 1
     show List.set _ 14 (some (W1.int ((j:Int)+1)))=_;rw[this];rfl
    ·by_cases O2:C<j
     ·exact Pa C h1 O2
     ·rw[show C=j by lia];exact co
   |true=>
    refine v6 ?_;refine B rfl (B rfl (B rfl (B rfl (B rfl (B rfl (bi ON _ _ _ O O (TD.of (l _ _ O8)) (lv O7) (by show 5<=Gc;decide) (λp L=>?_)))))));have sp:=Tl.new (o:=HO.tup [Rs (N.aZ.getD d (0,0)).1,.int (N.aZ.getD d (0,0)).2,Rs y,Rs j,.int (N.comes d j)]) L;refine B rfl (B rfl (bi sa _ _ _ O O (TD.of (sp _ _ (l _ _ Pb))) (lv Pc) (by show 2<=Gc;decide) (λq Pe=>?_)));exact k (go,d,y) j _ p q OR O_ Pp PH OH co Pa ((l.tr sp).tr (Tl.new Pe)) (Tl.new Pe _ _ KE) KE
abbrev x6 (T:t1) (d:Nat) (N:Nt):Prop:=ss (up T) (wT T d) (lm T d) (ol T) N
abbrev Ez (T:t1) (d:Nat) (N:Nt):Prop:=ss (up T) ((wT T d).map ut) (lm T d) ((ol T).map bD) N
noncomputable def dZ (x:lW) (left:Nat):Nat:=2*left+(if x.way=2 then 0 else 1)
def vq (CL CG CN:WF):Sp:=λvs H Q _=>∃(n g:WF) (N TW:Nt) (T:t1) (M b:Nat) (a:Int) (S:Nat->SS) (r s:Nat) (t:Int),vs=[.ref n,.ref g,Rs s,.int t,Rs r]/\f2 CN H n N/\gC CL CG CN H g b a TW S r/\eY T/\x6 T M N/\Ez T M TW/\(∀k,SInv TW (f0 ((wT T M).map ut)) b (-a) k (S k))/\(∀k,pp TW (S k))/\s<T.stops.length/\0<=t/\kE T M b a r ⟨s,t,0⟩/\fq T M b a r ⟨s,t,0⟩ [] ⟨s,t,0⟩ r/\r<=400000/\
 ∀(I:Hp) (p:WF) (c:List W1) (pre:List nX) (x:lW) (left:Nat),Tl H I->H p=none->I p=some (.lst c)->Paired (λv r=>TupAt I v (r.map W1.int)) c (ek T M ⟨s,t,0⟩ pre)->fq T M b a r ⟨s,t,0⟩ pre x left->x.halt=b->x.time<=a->Q (.ref p) I
theorem dN:pu ["network","guide","start","minute","rides","legs","stop","there","ready","left","after_walk","leg"] zaN (s1 qq):=nb rfl rfl rfl (by decide +kernel)
theorem Mo {A X G:Prop}(h:(A->X)->G) (x:A->X):G:=h x
theorem FF(hT:bm T) (c:x6 T M N) (f:r<N.runs.length) (a:j<N.len r): -1440<=N.comes r j:=by
 have b:=f;rw[p9 c]at b;obtain⟨i,d,k,e⟩:=pa c b;rw[d]at a;rw[(e j a).1];have mi:((v4 T M)[r].1,(v4 T M)[r].2.1,(v4 T M)[r].2.2)∈v4 T M:=eX b;obtain⟨g,h,l⟩:=dr.mp mi;exact(lH hT (pi g) M h a).1
theorem JA(F:sB K "first_journey" "first_journey" qq f fd) (O9:fu K CL CG) (X:bg K mg CS CN) (Pr:Gf P w K mg base 3 "first_walk" zaL (vt CL CG CN)) (Pq:Gf P w K mg base 3 "first_ride" zaM (vr CL CG CN)):AC P w K mg base xL 4 f fd zaN (vq CL CG CN):=by
 refine gl Pr λQy QA Pm Pp P8 P4=>?_;refine gl Pq λQx Qz Pl Po P7 P2=>?_;refine F.ar dN (λvs H Q E h=>?_) (λQv Qq outer s0 H vs Q E Ph h=>?_)
 ·refine Ao h λn g N TW T M b a S r s t Ql=>?_;obtain⟨rfl,_⟩:=Ql;rfl
 ·intro Qt;refine Ao h λn g N TW T M b a S r s t Qm=>?_;obtain⟨rfl,O4,Pb,hT,o,Y,OJ,OX,PZ,QN,Pg,PU,QM,k⟩:=Qm;refine B (On (zS 5 dN (db PP))
   (On (zS 6 dN (V 2))
   (On (zS 7 dN (V 3))
   (On (zS 8 dN (V 3))
   (On (zS 9 dN (V 4))
   (On (zS 10 dN m')
   (On (ll bN (ga Kd (V 6) (wS (V 1) rfl) (li _))
    (On (zS 11 dN uS)
    (On (jp (bQ (cz (V 10))) (Fa (zS 11 dN (ge Pm Ph rfl P8 P4 Pp .nil ws (UV (V 0) (UV (V 1) (UV (V 6) (UV (V 7) (UV (V 9) PP)))))))) ii)
    (On (zS 10 dN (p1 Ke (V 11) uS (li _)))
    (On (jp (cz (V 10))
     (On (zS 6 dN (xz gN (V 11) EQ)) (Fa (zS 8 dN (xz gN (V 11) EQ))))
     (On (uU (i:=9) dN.nd rfl (Or.inl rfl) EQ zw)
     (On (dI (ge Pl Ph rfl P7 P2 Po .nil ws (UV (V 0) (UV (V 1) (UV (V 6) (UV (V 8) (UV (V 9) PP)))))) (cw rfl (re (zG 11 dN) (re (zG 6 dN) cx))))
     (Fa (zS 8 dN (kt bG (xz gN (V 11) EQ) (xz wE (wS (V 0) rfl) (V 6))))))))
    (On (zS 7 dN (xz gN (V 11) EQ))
    (Fa (ca (cG cm da dc cZ (V 5) (UV (V 11) PP))))))))))
   (Fa (tt (V 5)))))))))) ?_
  refine et O4.ex λPu c QT QS Qw QB OV os ds fs h1 h2 QF QG QH QI QJ QK QL QE=>?_;refine gQ Pb.ex λPt QD QR QQ PH QC g3 g4 g5=>?_;have hz:=jJ hT M o;obtain⟨ok,_,OS⟩:=dF hT.bd o;obtain⟨_,_,Pf⟩:=jB hT.bd Y;have PX:TW.runs.length=N.runs.length:=by rw[o.e9,Y.e9,FM]
  have PR:N.aZ.length=N.runs.length:=by rw[o.aZ,o.runs];simp[lm,wT]
  refine⟨f4 _,λOL OY=>?_⟩;refine B rfl (B rfl (B rfl (B rfl ?_)))
  let Pn:Nat->St->Hp->Prop:=λm ZB H2=>∃(pre:List nX) (x:lW) (left:Nat) (OV:List W1) (Pk:Option W1),ZB=[some (.ref n),some (.ref g),some (Rs s),some (.int t),some (Rs r),some (.ref OL),some (Rs x.halt),some (.int x.time),some (.int (x.time+chg T x)),some (Rs left),some (.bl (decide (x.way=2))),Pk]/\m=dZ x left/\fq T M b a r ⟨s,t,0⟩ pre x left/\x.halt<T.stops.length/\ -1000000<x.time/\pre.length+dZ x left<=2*r+1/\H2 OL=some (.lst OV)/\Paired (λv r=>TupAt H2 v (r.map W1.int)) OV (ek T M ⟨s,t,0⟩ pre)/\Tl H H2
  refine⟨Pn,(i1 _ ([]) ⟨s,t,0⟩ r ([]) none ⟨by simp[chg,L2.start],O,PU,PZ,by show -1000000<t;lia,by simp[dZ],KE,.nil,Tl.new OY⟩),?_⟩;rintro m ZB H2 ⟨pre,x,left,OQ,Pk,rfl,rfl,J,L,QO,PL,OR,O0,OH⟩;have Pc:=Pb.same OH;have Pe:left<=r:=by have:=J.rides;lia
  refine B rfl (B rfl (b' g CG Pt _ _ O (OH _ _ PH) O9.eH O9.goal O O (B rfl ?_)));by_cases ON:x.halt=b
  ·rw[show(!decide (Rs x.halt=Rs b))=false by rw[ON];simp];refine v6 (B rfl ?_);have P0:x.time<=a:=by
    refine m7 J.fin λD Qu QU Qn=>?_;obtain⟨PF,OO,_⟩:=Qn;have:=kR hT.bd.right D PF;exact xr this OO
   exact k H2 OL OQ pre x left OH OY OR O0 J ON P0
  ·rw[show(!decide (Rs x.halt=Rs b))=true by
    rw[sn (λz=>ON (by unfold Rs at z;injection z with z;lia))];rfl]
   refine wn ⟨λQp I=>∃D,D<dZ x left/\_,λQp I q=>q,?_⟩;refine B rfl (B rfl ?_);have OZ:∀ {O8:Hp}{OV:List W1}{U:WF}{l:List W1},O8 OL=some (.lst OV)->O8 U=some (.tup l)->U≠OL:=λOU OM z=>by rw[z,OU]at OM;cases OM
   have QP:OQ.length=pre.length:=by rw[Paired.length O0,(pk pre J.at_).2]
   apply Mo (A:=∀q O5,xf T M x (.walk q)=some O5->¬Fin T M b a left O5)
   ·intro Pd;by_cases OP:x.way=2
    ·rw[sK OP];refine v6 (zn _ O O (B rfl (B rfl ?_)));refine v6 (Pd λq O5 hg=>?_);obtain⟨_,_,_,z,_⟩:=aM.mp hg;exact absurd OP z
    ·rw[sn OP];refine wn (B rfl (B rfl (B rfl (B rfl (B rfl ⟨n,g,N,b,a,TW,S,r,x.halt,left,x.time,O,O4.same OH,hz,Pc,Pe,by rw[OS];exact L,by rw[(OX left).ab,Pf,OS],λQr Qs g' q D O7 p OO O1 O2 OI C=>?_,λPN=>?_⟩)))))
     ·obtain⟨Qg,Qh,Qi,QV,Qj,Qk⟩:=Nc hT.bd o Y (OJ left) L (by unfold FS;lia) OP OO O1 O2;have OK:=OI _ _ OR;refine zn _ O O (B rfl (B rfl ?_));refine wn (B rfl (Db p _ _ _ O O (pm.of C) O (B rfl (Db p _ _ _ O O (pm.of C) O (B rfl (Db p _ _ _ O O (pm.of C) O ?_))))));refine zn _ O (.inl ⟨O,⟨_,TD.of OK⟩⟩) (B rfl (bb OL OQ _ O O OK (small (by lia)) ?_));have O3:x.time+D=x.time+D+chg T ⟨g',x.time+D,2⟩:=by simp[chg]
      have st:=J.step Pg (λz=>ON z.1) Qg (by simp[eC,b8]) Qj Qk;refine Ix (dZ ⟨g',x.time+D,2⟩ left) (by simp[dZ,OP]) (bZ (pre++[.walk q]) ⟨g',x.time+D,2⟩ left (OQ++[W1.ref p]) _ ⟨by rw[<- O3];rfl,O,st,Qi,by show -1000000<x.time+D;lia,?_,KE,?_,λU u OT=>?_⟩)
      ·rw[ls,bK];simp only[dZ,OP,aK,a9]at PL⊢;lia
      ·rw[uq pre _ J.at_,Qh];refine Paired.snoc (aj (λv r ⟨U,O6,OW⟩=>Ix U O6 ?_) O0) (Ix p O ?_)
       ·rw[UF (OZ OK C)];exact C
       ·rw[UF (OZ OR OW)];exact OI _ _ OW
      ·rw[UF (v0 OT OY)];exact OI _ _ (OH _ _ OT)
     ·refine zn _ O O (B rfl (B rfl ?_));exact v6 (Pd (Nb hT.bd o Y (OJ left) L (by unfold FS;lia) PN))
   ·intro hw;obtain⟨d,rfl,Pw,PK,PJ⟩:=Lz hT.bd o Y OJ L J.fin ON hw;refine B rfl (IN _ _ O O ?_);have Pa:W1.int (((d+1:Nat):Int)-1)=Rs d:=by unfold Rs;congr 1;lia
    have PM:∀y,y<N.runs.length->TW.len y=N.len y/\(S (d+1)).aa.getD y 0<N.len y:=λy P1=>by
     obtain⟨OU,OM,_⟩:=yn hT.bd o Y P1;exact⟨OM,by rw[<- OM];exact(OX (d+1)).dD y OU⟩
    have PQ:∀e,e∈N.af.getD x.halt []->bE N (S (d+1)) (x.time+chg T x) e=true->∃j,e.2.2<j/\j<N.len e.2.1/\e2 N (S d) e.2.1 j=true:=λe OU OM=>(Jf hT.bd o Y (OJ (d+1)) (OJ d) L OU OM).2;refine B rfl (B rfl (B rfl (B rfl (B rfl ⟨n,g,N,b,a,TW,S,r,x.halt,d,x.time+chg T x,by rw[<- Pa];rfl,O4.same OH,hz,Pc,Pe,by rw[OS];exact L,by rw[(OX d).ready,Pf,OS],(OX (d+1)).aa,PX,PR,PM,(Ix Pw PK PJ),PQ,λe j O7 p q OO O1 O2 Py O_ Pz PB OI C PV=>?_⟩))));refine iS (Ly hT.bd o Y (OJ (d+1)) (OJ d) L OO O1 O2 Py O_ Pz PB hw) λQe P5 Qo=>?_;obtain⟨P9,P_,Qa,Qb,Qc,Qd⟩:=Qo;have OK:=OI _ _ OR;have PY:e.2.1<N.runs.length:=hz.mB x.halt _ (by rw[OS];exact L) OO;have Pj:Tl H O7:=OH.tr OI;have P6:N.stop e.2.1 j<N.chg.length:=by
     have:N.chg.length=T.stops.length:=by rw[o.chg];simp[up]
     lia
    refine he q _ O (pm.of PV) O (io _ _ O (IN _ _ O O ?_));refine B rfl (Db p _ _ _ O O (pm.of C) O (B rfl (wv n CN Pu _ _ O (Pj _ _ h1) X.aS X.pF O (B rfl (Db c _ _ _ O O (TD.of (Pj _ _ h2)) (lv (int_at P6)) (IN _ _ O O ?_))))));refine B rfl (Db p _ _ _ O O (pm.of C) O ?_);refine zn _ O (.inl ⟨O,⟨_,TD.of OK⟩⟩) (B rfl (bb OL OQ _ O O OK (small (by lia)) ?_));have O3:N.comes e.2.1 j+N.chg.getD (N.stop e.2.1 j) 0=N.comes e.2.1 j+chg T ⟨N.stop e.2.1 j,N.comes e.2.1 j,1⟩:=by
     rw[o.chg,yN];simp[chg]
    have st:=J.step Pg (λz=>ON z.1) P_ (by simp[eC,b8];lia) Qc Qd;refine Ix (dZ ⟨N.stop e.2.1 j,N.comes e.2.1 j,1⟩ d) ?_ (bZ (pre++[.ride Qe P5 e.2.2 j]) ⟨N.stop e.2.1 j,N.comes e.2.1 j,1⟩ d (OQ++[W1.ref p]) _ ⟨by rw[<- Pa,<-O3];rfl,O,st,Qb,?_,?_,KE,?_,λU u OT=>?_⟩)
    ·have PD:dZ ⟨N.stop e.2.1 j,N.comes e.2.1 j,1⟩ d=2*d+1:=by simp[dZ]
     have Px:2*(d+1)<=dZ x (d+1):=by unfold dZ;lia
     lia
    ·have:=FF hT.bd o PY O_;show -1000000<N.comes e.2.1 j;lia
    ·rw[ls,bK];have PD:dZ ⟨N.stop e.2.1 j,N.comes e.2.1 j,1⟩ d=2*d+1:=by simp[dZ]
     have Px:2*(d+1)<=dZ x (d+1):=by unfold dZ;lia
     lia
    ·rw[uq pre _ J.at_,Qa];refine Paired.snoc (aj (λv r ⟨U,O6,OW⟩=>Ix U O6 ?_) O0) (Ix p O ?_)
     ·rw[UF (OZ OK C),C,P9];rfl
     ·rw[UF (OZ OR OW)];exact OI _ _ OW
    ·rw[UF (v0 OT OY)];exact OI _ _ (OH _ _ OT)
theorem A0 (T:t1) (M:Nat) (bf:List (Nat×Int×bu)):∀(n:Nat) (q:kl),(ec T M bf n q).length<=n+1
 |0,q=>by simp[ec]
 |n+1,q=>by
  unfold ec;split
  ·simp
  ·have:=A0 T M bf n (nY T M bf q);rw[bt];lia
theorem LA(hT:eY T) (h:ja T M a b t=some (x,r)):r<=400000:=by(
have hm:aJ T M<=300001:=by
 have:=p8 hT M;unfold wT at this;rw[ax]at this;unfold aJ;have e:((v4 T M).map ((λx:aQ=>x.1.length)∘λy=>aO M y.2.1 y.2.2))=(v4 T M).map λx=>x.2.2.calls.length:=eE λy _=>by simp[aO]
 rw[e]at this;lia
have d:(aE T M a t (aJ T M)).length<=aJ T M+1:=by
 unfold aE;rw[FM];exact A0 ..
unfold ja at h;simp only[Option.bind_eq_some_iff,DN]at h;obtain⟨z,_,f,h2,c⟩:=h;injection c with _ c;subst c;unfold gw at h2;have:=(Ey.mp h2).1;lia)
theorem Ja (T:t1) (M:Nat) (x:lW) (c:nX):(bS T M x c).length<=9:=by(
unfold bS;split
·split<;>simp
·split<;>simp)
theorem zW:∀(l:List nX) (x:lW) (r:List Int),r∈ek T M x l->r.length<=9
 |[],x,r,h=>by simp[ek]at h
 |c::l,x,r,h=>by
  unfold ek at h;rcases rs.mp h with rfl|h
  ·exact Ja T M x c
  ·cases q:xf T M x c with
   |none=>rw[q]at h;simp at h
   |some y=>rw[q]at h;exact zW l y r h
def iC:List Int->Option c9
 |[a,b,d,t,m]=>some (.journey a b d t m)
 |_=>none
theorem nu:pu ["plan","start","goal","day","minute","most","network","search","rides","guide"] zan (s1 qC):=nb rfl rfl rfl (by decide +kernel)
theorem JL(F:sB K "journey" "journey" qC f fd) (T:bU K mg CP) (U:eG mg) (X:bg K mg CS CN) (Qp:mg "Guide"=some (.ref CG)) (Pq:Mk K CG PQ) (Pl:AC P w K mg base xL 5 PQ PR zar (vu CL CG CN)) (Pu:Binds K PR zar [])
  (PF:Gf P w K mg base 2 "can_ask" zac (hW CP CN)) (PL:Gf P w K mg base 1 "is_most" zai j6) (PH:Gm P w K mg base 4 CP "forward" zab (fM CP CN hx)) (PD:Gm P w K mg base 5 CP "mirrored" zab (fM CP CN me))
  (PM:Gf P w K mg base 6 "searched" zah (lC CS CN)) (PJ:Gf P w K mg base 4 "first_journey" zaN (vq CL CG CN)) (PK:Gf P w K mg base 1 "counted" zam j5):AC P w K mg base xL 7 f fd zan (cI CP CN iC 5):=by
 refine gl PF λQW Q3 Pj Pr Qo Qg=>?_;refine gl PL λQ0 Q7 GM Py Qs Qj=>?_;refine Do PH λQX Q4 Pk Pt Qn=>?_;refine Do PD λQV Q2 Ph bB Qm=>?_;refine gl PM λQ1 Q8 Pn Pz Qt Qk=>?_;refine gl PJ λQY Q5 GJ Pw Qq Qh=>?_;refine gl PK λQZ Q6 Pm Px Qr Qi=>?_;refine F.ar nu (λvs H Q E h=>?_) (λQT QP outer s0 H vs Q E s h=>?_)
 ·refine gR h λA g m l c QH OX _=>?_;subst QH;simp[OX]
 ·intro QR;refine gS h λA g m l c QI OX P5 OM hT hm k=>?_;subst QI;obtain⟨a,b,d,t,o,rfl⟩:=jN OX;cases P5;refine B (On (jp (PW.pt (ew (bQ (cz (ge Pj (s.mono) rfl Qo Qg Pr .nil ws (UV (V 0) (UV (V 1) (UV (V 2) (UV (V 3) (UV (V 4) PP)))))))) (gU (bQ (cz (ge GM (s.mono) rfl Qs Qj Py .nil ws (UV (V 5) PP))))))) (Fa (tt (db (UV (nl T.c2 rfl) PP)))) ii)
   (On (zS 6 nu (aA (V 0) T.cl Qn Pk (s.mono) Pt .nil ws (UV (V 3) PP)))
   (On (zS 7 nu (ge Pn s rfl Qt Qk Pz .nil ws (UV (V 6) (UV (V 1) (UV (V 4) PP)))))
   (On (jp (ga c0 (xz wE (wS (V 7) rfl) (V 2)) (nl U.nv rfl) (li _)) (Fa (tt (db (UV (nl U.c1 rfl) PP)))) ii)
   (On (zS 8 nu (xz wE (wS (V 7) rfl) (V 2)))
   (On (zS 9 nu (hN Pq Pl s rfl Qp Pu .nil ws (UV (aA (V 0) T.cl Qm Ph (s.mono) bB .nil ws (UV (V 3) PP)) (UV (V 2) (UV (xz wE (wS (V 7) rfl) (V 2)) (UV (V 8) PP))))))
   (Fa (tt (ge Pm (s.mono) rfl Qr Qi Px .nil ws (UV (ge GJ (s.mono) rfl Qq Qh Pw .nil ws (UV (V 6) (UV (V 9) (UV (V 1) (UV (V 4) (UV (V 8) PP)))))) (UV (V 5) PP))))))))))) ?_
  have O1:(b1 g a b d t&&u8 o 0 4096)=false->∀p,H p=none->Q (.ref p) (Uf H p (.lst [W1.int (-2)])):=λe p D=>by
   have OS:Ev g (.journey a b d t o)=(bM (-2),g):=by simp only[Ev,e,a9]
   rw[OS]at k;exact k _ p ((OM.same (Tl.new D)).more (by lia)) ((Tl.new D).but _) D KE
  refine B rfl (B rfl (B rfl (B rfl (B rfl (g8 A g m a b d t ⟨O,OM,B rfl ?_⟩)))));rw[jS];cases OK:b1 g a b d t with
  |false=>exact wn (wn ⟨by show 1<=Gc;decide,O1 (by rw[OK];rfl)⟩)
  |true=>
   refine v6 (B rfl (Ix o O (B rfl ?_)));cases OT:(decide (0<=o)&&decide (o<=4096))with
   |false=>exact wn ⟨by show 1<=Gc;decide,O1 (by rw[OK,show u8 o 0 4096=false from OT];rfl)⟩
   |true=>
    have hw:(b1 g a b d t&&u8 o 0 4096)=true:=by rw[OK,show u8 o 0 4096=true from OT];rfl
    refine jW (jy OK) λx y e QJ QK QL L C O6 P_ Ra=>?_;subst QJ;subst QK;subst QL;refine v6 (B rfl (nw A.x A.dx _ O OM.ob O (B rfl (bi A g m e O OM hT O6 (by lia) (λH1 v P1 hv PU Q9=>?_)))));refine Do hv λn N QM O4 OJ=>?_;subst QM;have hz:=jJ hT e OJ;obtain⟨ok,same,Y⟩:=dF hT.bd OJ;refine B rfl (B rfl (B rfl (Db n N x t O O4 hz (by rw[Y];exact L) (λH2 S j J i OZ=>?_))));have ON:=P1.same OZ;have OU:Ch [A.n] H H2:=PU.tr (OZ.but []) λb i=>by simp at i
    have OP:=j1 ok (kL ok (s0:=x) (t0:=t) (by rw[Y];exact L) (by unfold FS;lia)) j;rw[<- iU]at OP;have OQ:=fJ (((fw hz).av (stop:=x) (by rw[Y];exact L) t t).bI (by rw[Y];exact L) t) j;generalize P4:aN N (cp N x t) j=SS at J i OP;have OQ:pp N SS:=by rw[<- P4];exact OQ
    obtain⟨Qy,Pe⟩:=y4 hT.bd OJ L C OP i (by unfold FS;lia);have O9:y<SS.arr.length:=by rw[OQ.arr,Y];exact C
    have Qb:y<SS.rides.length:=by rw[OQ.rides,Y];exact C
    have Pa:A.n∈A.own:=by simp[PA.own]
    refine B rfl (wv S.x CS S.dx _ _ O J.ob X.aq X.dJ O (B rfl (bi S.a1 _ _ _ O O (TD.of J.arr) (lv (int_at O9)) O (B rfl ?_))));by_cases c:SS.arr.getD y 0=FS
    ·rw[sK (by rw[c];rfl)];have OS:Ev g (.journey x y e t o)=(bM (-1),g):=by simp only[Ev,hw,c',aK,ee,Qy c]
     rw[OS]at k;refine wn ⟨by show 1<=Gc;decide,λp D=>?_⟩;exact k _ p ((ON.same (Tl.new D)).more (by lia)) (OU.new D) (gF OU D λb i=>ON.there (by rw[sc.mp i];exact Pa)) KE
    ·rw[sn (by intro z;injection z with z;exact c z)];obtain⟨Pc,Pd,_⟩:=Kg hT.bd OJ L C OP i (by unfold FS;lia) c;have O8:=LA hT (Pe c);have P6:=Pe c;refine v6 (B rfl (wv S.x CS S.dx _ _ O J.ob X.aq X.nr O (B rfl (Db S.a2 _ _ _ O O (TD.of J.rides) (lv (k7 Qb)) ?_))));refine B rfl (nw A.x A.dx _ O ON.ob O (B rfl (bi A g (m+1) e O ON hT O6 (by lia) (λOI Rc O5 Qa PV OV=>?_))));refine Do Qa λQu TW QN PZ OW=>?_;subst QN;have P0:f2 CN OI n N:=(O4.same OZ).jP OV;have O_:=yC hT e OW;obtain⟨Pb,Rb,OO⟩:=jB hT.bd OW;have O3:Ch [A.n] H OI:=OU.tr PV λb i=>.inl i;refine B rfl (B rfl (wv S.x CS S.dx _ _ O (OV _ _ J.ob (λ_ z=>by cases z)) X.aq X.dJ O (B rfl (Db S.a1 _ _ _ O O (TD.of (OV _ _ J.arr (λ_ z=>by cases z))) (lv (int_at O9)) (B rfl (λOL OR OY Qv neg=>?_))))));have sx:Tl OI (Uf (Uf OI OR (.own OL)) OL (.ins CG OR [])):=(Tl.new Qv).tr (Tl.new (by rw[UF (Ne.symm neg)];exact OY));refine g8 OL OR Qu y (SS.arr.getD y 0) (SS.rides.getD y 0) TW ⟨O,KE,PZ.same λPB u q=>wl.mpr ⟨by simpa using v0 q OY,sx _ _ q⟩,O_,by rw[OO];exact C,O8,λPo PY PX=>⟨O,?_⟩⟩;have O0:Tl OI Po:=λPB u q=>PX _ _ (sx _ _ q) (by simpa using v0 q OY);have Qe:∀OH,SInv TW (f0 ((wT g e).map ut)) y (-(SS.arr.getD y 0)) OH (a8 TW (cp TW y (-(SS.arr.getD y 0))) OH):=by
      have Q_: -1440<=SS.arr.getD y 0:=by
       refine m7 Pd.fin λQl QS Rf QO=>?_;obtain⟨PN,QU,_⟩:=QO;have:=kR hT.bd.right Ql PN;simp only at this;lia
      exact j1 Pb (kL Pb (by rw[OO];exact C) (by unfold FS;lia))
     have QB:∀OH,pp TW (a8 TW (cp TW y (-(SS.arr.getD y 0))) OH):=λOH=>by
      rw[<- iU];exact fJ (((fw O_).av (by rw[OO];exact C) _ _).bI (by rw[OO];exact C) _) OH
     refine B rfl (B rfl (B rfl (B rfl (B rfl ⟨n,OL,N,TW,g,e,y,SS.arr.getD y 0,_,SS.rides.getD y 0,x,t,O,P0.same O0,PY,hT,OJ,OW,Qe,QB,L,P_,Pc,Pd,O8,λQQ p Qz pre z left Pg D P7 Qx O7 Qc Qd=>?_⟩))));obtain⟨l',QC,QD,QE⟩:=Hy hT.bd.right Pc O7 Qc Qd;obtain⟨QF,QG⟩:=pk pre O7.at_;refine B rfl (bi p o Qz _ O P7 Qx (ph OT) (λr P9=>zW _ _ r P9) (λPp q QA Qw P8=>?_));have Pf:=(O0.tr Pg).tr QA;have P2:=O5.same Pf;refine k Pp q (P2.more (by lia)) (O3.tr (Pf.but []) λb i=>by simp at i) ?_ ?_
     ·exact gF O3 ((O0.tr Pg).free Qw) λb i=>O5.there (by rw[sc.mp i];exact Pa)
     ·rw[P8];have eq:gq o (ek g e ⟨x,t,0⟩ pre)=am (Ev g (.journey x y e t o)).1:=by
       simp only[Ev,hw,c',aK,ee,P6,QC];unfold gq;rw[QG,QF,QE,QD];by_cases O2:o<(pre.length:Int)
       ·rw[No O2,Ps (by lia)];rfl
       ·rw[Ps O2,No (by lia)];unfold am;rw[Ps (by simp only;lia)]
      rw[eq]
abbrev hS:v2:=na 61
abbrev qd:v2:=na 62
abbrev qc:v2:=na 63
structure oO (mg:Str->Option Tk):Prop where
 n1:a_ mg "STOP" 1
 n2:a_ mg "TRIP" 2
 n3:a_ mg "WALK" 3
 n4:a_ mg "LATE" 4
 n5:a_ mg "EARLIEST" 5
 n6:a_ mg "LATEST" 6
 n7:a_ mg "FRONT" 7
 n8:a_ mg "PROFILE" 8
 n9:a_ mg "REACH" 9
 IL:a_ mg "JOURNEY" 10
noncomputable def jx (p:Int) (l:List Int):Option c9:=if p=5 then iA l else if p=6 then iD l else if p=7 then iB l else if p=8 then iE l else if p=9 then iF l else if p=10 then iC l else iz l
noncomputable def tp (p:Int):Nat:=if p=5 then 4 else if p=6 then 4 else if p=7 then 5 else if p=8 then 6 else if p=9 then 4 else if p=10 then 5 else 4
def vk (CP CN:WF):Sp:=λvs H Q _=>∃(A:PA) (T:t1) (m:Nat) (p:Int) (ns:WF) (l:List Int) (c:c9),vs=[.ref A.x,.int p,.ref ns]/\H ns=some (.lst (l.map W1.int))/\l.length=tp p/\jx p l=some c/\cd CP CN H A T m/\eY T/\m+2<=1000/\
 ∀(I:Hp) (a:WF),cd CP CN I A T (m+2)->Ch [A.n] H I->H a=none->I a=some (.lst ((am (Ev T c).1).map W1.int))->Q (.ref a) I
theorem LY:pu zaC zaC (s1 qc):=nb rfl rfl rfl (by decide +kernel)
theorem Jp(F:sB K "answer_asked" "answer_asked" qc f fd) (W1:oO mg)
  (OQ:Gf P w K mg base 7 "earliest" zac (cI CP CN iA 4)) (OR:Gf P w K mg base 7 "latest" zac (cI CP CN iD 4)) (OS:Gf P w K mg base 7 "front" zan (cI CP CN iB 5))
  (c8:Gf P w K mg base 7 "profile" zaA (cI CP CN iE 6)) (OT:Gf P w K mg base 7 "reach" zaF (cI CP CN iF 4)) (OO:Gf P w K mg base 7 "journey" zan (cI CP CN iC 5))
  (OP:Gf P w K mg base 7 "board" zaG (cI CP CN iz 4)):AC P w K mg base xL 8 f fd zaC (vk CP CN):=by
 refine gl OQ λPk Pc L OJ g5 O1=>?_;refine gl OR λPl Pd N OK g6 O2=>?_;refine gl OS λPm Pe T OL OW O3=>?_;refine gl c8 λPn Pf U OM OX O4=>?_;refine gl OT λPo Pg Y ON OY O5=>?_;refine gl OO λPh Pa D OH OU OZ=>?_;refine gl OP λPj Pb J OI OV O0=>?_;refine F.ar LY (λvs H Q E h=>?_) (λO_ O8 outer s0 H vs Q E i h=>?_)
 ·refine pT h λA e m p ns l c O6 _=>?_;subst O6;rfl
 ·intro O9;refine pS h λA e m p ns l c O7=>?_;obtain⟨rfl,a,b,d,g,hT,hm,k⟩:=O7;refine B (On (jp (ga c0 (V 1) (nl W1.n5 rfl) (li _)) (Fa (tt (ge L i rfl g5 O1 OJ .nil ws (UV (V 0) (UV (xz wE (V 2) EQ) (UV (xz wE (V 2) EQ) (UV (xz wE (V 2) EQ) (UV (xz wE (V 2) EQ) PP)))))))) ii)
   (On (jp (ga c0 (V 1) (nl W1.n6 rfl) (li _)) (Fa (tt (ge N i rfl g6 O2 OK .nil ws (UV (V 0) (UV (xz wE (V 2) EQ) (UV (xz wE (V 2) EQ) (UV (xz wE (V 2) EQ) (UV (xz wE (V 2) EQ) PP)))))))) ii)
   (On (jp (ga c0 (V 1) (nl W1.n7 rfl) (li _)) (Fa (tt (ge T i rfl OW O3 OL .nil ws (UV (V 0) (UV (xz wE (V 2) EQ) (UV (xz wE (V 2) EQ) (UV (xz wE (V 2) EQ) (UV (xz wE (V 2) EQ) (UV (xz wE (V 2) EQ) PP))))))))) ii)
   (On (jp (ga c0 (V 1) (nl W1.n8 rfl) (li _)) (Fa (tt (ge U i rfl OX O4 OM .nil ws (UV (V 0) (UV (xz wE (V 2) EQ) (UV (xz wE (V 2) EQ) (UV (xz wE (V 2) EQ) (UV (xz wE (V 2) EQ) (UV (xz wE (V 2) EQ) (UV (xz wE (V 2) EQ) PP)))))))))) ii)
   (On (jp (ga c0 (V 1) (nl W1.n9 rfl) (li _)) (Fa (tt (ge Y i rfl OY O5 ON .nil ws (UV (V 0) (UV (xz wE (V 2) EQ) (UV (xz wE (V 2) EQ) (UV (xz wE (V 2) EQ) (UV (xz wE (V 2) EQ) PP)))))))) ii)
   (On (jp (ga c0 (V 1) (nl W1.IL rfl) (li _)) (Fa (tt (ge D i rfl OU OZ OH .nil ws (UV (V 0) (UV (xz wE (V 2) EQ) (UV (xz wE (V 2) EQ) (UV (xz wE (V 2) EQ) (UV (xz wE (V 2) EQ) (UV (xz wE (V 2) EQ) PP))))))))) ii)
   (Fa (tt (ge J i rfl OV O0 OI .nil ws (UV (V 0) (UV (xz wE (V 2) EQ) (UV (xz wE (V 2) EQ) (UV (xz wE (V 2) EQ) (UV (xz wE (V 2) EQ) PP)))))))))))))) ?_
  unfold jx at d;unfold tp at b;refine zn _ O O (B rfl ?_);by_cases s:p=5
  ·rw[sK (by rw[s])];rw[No s]at d b;obtain⟨j,n,o,q,rfl⟩:=d0 b;exact wn (B rfl (B rfl (Db ns _ _ _ O O (TD.of a) O (B rfl (Db ns _ _ _ O O (TD.of a) O (B rfl (Db ns _ _ _ O O (TD.of a) O (B rfl (Db ns _ _ _ O O (TD.of a) O (b' A e m _ c O b d g hT hm k))))))))))
  rw[sn (by intro z;injection z with z;exact s z)];rw[Ps s]at d b;refine v6 (zn _ O O (B rfl ?_));by_cases t:p=6
  ·rw[sK (by rw[t])];rw[No t]at d b;obtain⟨j,n,o,q,rfl⟩:=d0 b;exact wn (B rfl (B rfl (Db ns _ _ _ O O (TD.of a) O (B rfl (Db ns _ _ _ O O (TD.of a) O (B rfl (Db ns _ _ _ O O (TD.of a) O (B rfl (Db ns _ _ _ O O (TD.of a) O (b' A e m _ c O b d g hT hm k))))))))))
  rw[sn (by intro z;injection z with z;exact t z)];rw[Ps t]at d b;refine v6 (zn _ O O (B rfl ?_));by_cases u:p=7
  ·rw[sK (by rw[u])];rw[No u]at d b;obtain⟨j,n,o,q,C,rfl⟩:=jN b;exact wn (B rfl (B rfl (Db ns _ _ _ O O (TD.of a) O (B rfl (Db ns _ _ _ O O (TD.of a) O (B rfl (Db ns _ _ _ O O (TD.of a) O (B rfl (Db ns _ _ _ O O (TD.of a) O (B rfl (Db ns _ _ _ O O (TD.of a) O (b' A e m _ c O b d g hT hm k))))))))))))
  rw[sn (by intro z;injection z with z;exact u z)];rw[Ps u]at d b;refine v6 (zn _ O O (B rfl ?_));by_cases x:p=8
  ·rw[sK (by rw[x])];rw[No x]at d b;obtain⟨j,n,o,q,C,Pp,rfl⟩:=uw b;exact wn (B rfl (B rfl (Db ns _ _ _ O O (TD.of a) O (B rfl (Db ns _ _ _ O O (TD.of a) O (B rfl (Db ns _ _ _ O O (TD.of a) O (B rfl (Db ns _ _ _ O O (TD.of a) O (B rfl (Db ns _ _ _ O O (TD.of a) O (B rfl (Db ns _ _ _ O O (TD.of a) O (b' A e m _ c O b d g hT hm k))))))))))))))
  rw[sn (by intro z;injection z with z;exact x z)];rw[Ps x]at d b;refine v6 (zn _ O O (B rfl ?_));by_cases y:p=9
  ·rw[sK (by rw[y])];rw[No y]at d b;obtain⟨j,n,o,q,rfl⟩:=d0 b;exact wn (B rfl (B rfl (Db ns _ _ _ O O (TD.of a) O (B rfl (Db ns _ _ _ O O (TD.of a) O (B rfl (Db ns _ _ _ O O (TD.of a) O (B rfl (Db ns _ _ _ O O (TD.of a) O (b' A e m _ c O b d g hT hm k))))))))))
  rw[sn (by intro z;injection z with z;exact y z)];rw[Ps y]at d b;refine v6 (zn _ O O (B rfl ?_));by_cases r:p=10
  ·rw[sK (by rw[r])];rw[No r]at d b;obtain⟨j,n,o,q,C,rfl⟩:=jN b;exact wn (B rfl (B rfl (Db ns _ _ _ O O (TD.of a) O (B rfl (Db ns _ _ _ O O (TD.of a) O (B rfl (Db ns _ _ _ O O (TD.of a) O (B rfl (Db ns _ _ _ O O (TD.of a) O (B rfl (Db ns _ _ _ O O (TD.of a) O (b' A e m _ c O b d g hT hm k))))))))))))
  rw[sn (by intro z;injection z with z;exact r z)];rw[Ps r]at d b;obtain⟨j,n,o,q,rfl⟩:=d0 b;exact v6 (B rfl (B rfl (Db ns _ _ _ O O (TD.of a) O (B rfl (Db ns _ _ _ O O (TD.of a) O (B rfl (Db ns _ _ _ O O (TD.of a) O (B rfl (Db ns _ _ _ O O (TD.of a) O (b' A e m _ c O b d g hT hm k))))))))))
noncomputable def oQ (l row:List Int):Option c9:=match l with
 |[d]=>some (.trip d (cL row) ((row.length:Int)/3))
 |_=>none
noncomputable def j9 (p:Int) (l row:List Int):Option c9:=if p=1 then kJ l else if p=2 then oQ l row else if p=3 then kK l else if p=4 then kI l else jx p l
noncomputable def vR (p:Int):Nat:=if p=1 then 1 else if p=2 then 1 else if p=3 then 3 else if p=4 then 4 else tp p
def mq (d:Int) (row:List Int):Prop:=(∀z,z∈row->0<=z)/\((1<=d/\d<=127)/\(2<=(row.length:Int)/3/\(row.length:Int)/3<=64)->(row.length:Int)=3*((row.length:Int)/3))
theorem yd(h:a.out=[]):am a=[a.code]:=by unfold am;rw[h];split<;>rfl
section
variable {T:t1}
theorem Ap:(Ev T (.halt c)).1.out=[]:=by(
simp only[Ev];split
·rfl
·split<;>rfl)
theorem Ar:(Ev T (.trip d l n)).1.out=[]:=by(
simp only[Ev];split
·rfl
·split
 ·rfl
 ·split<;>rfl)
theorem As:(Ev T (.walk a b m)).1.out=[]:=by(
simp only[Ev];split
·rfl
·split<;>rfl)
theorem Aq:(Ev T (.late p d i m)).1.out=[]:=by
 simp only[Ev];split<;>rfl
theorem yj(h:jx p l=some c):(Ev T c).2=T:=by(
unfold jx at h;have a:∀ {l c},iA l=some c->(Ev T c).2=T:=λ{l c} h=>by
 unfold iA at h;split at h
 ·cases h;simp only[Ev];split
  ·rfl
  ·split<;>rfl
 ·cases h
have b:∀ {l c},iD l=some c->(Ev T c).2=T:=λ{l c} h=>by
 unfold iD at h;split at h
 ·cases h;simp only[Ev];split
  ·rfl
  ·split<;>rfl
 ·cases h
have d:∀ {l c},iB l=some c->(Ev T c).2=T:=λ{l c} h=>by
 unfold iB at h;split at h
 ·cases h;simp only[Ev];split<;>rfl
 ·cases h
have e:∀ {l c},iE l=some c->(Ev T c).2=T:=λ{l c} h=>by
 unfold iE at h;split at h
 ·cases h;simp only[Ev];split<;>rfl
 ·cases h
have f:∀ {l c},iF l=some c->(Ev T c).2=T:=λ{l c} h=>by
 unfold iF at h;split at h
 ·cases h;simp only[Ev];split
  ·rfl
  ·split<;>rfl
 ·cases h
have g:∀ {l c},iC l=some c->(Ev T c).2=T:=λ{l c} h=>by
 unfold iC at h;split at h
 ·cases h;simp only[Ev];split
  ·rfl
  ·split
   ·rfl
   ·split
    ·split<;>rfl
    ·rfl
 ·cases h
have i:∀ {l c},iz l=some c->(Ev T c).2=T:=λ{l c} h=>by
 unfold iz at h;split at h
 ·cases h;simp only[Ev];split<;>rfl
 ·cases h
split at h
·exact a h
·split at h
 ·exact b h
 ·split at h
  ·exact d h
  ·split at h
   ·exact e h
   ·split at h
    ·exact f h
    ·split at h
     ·exact g h
     ·exact i h)
theorem eY.does(hT:eY T) (h:j9 p l row=some c) (s:p=2->∀d,l=[d]->mq d row):eY (Ev T c).2:=by(
unfold j9 at h;split at h
·unfold kJ at h;split at h
 ·cases h;simp only[Ev];split
  ·exact hT
  ·next h1=>
   split
   ·exact hT
   ·next h2=>
    have:=hT.sz.stops;refine⟨Mv hT.bd (by simpa using h1),⟨by show(T.stops++_).length<=256;rw[ls,bK];lia,hT.sz.trips,hT.sz.walks,hT.sz.late⟩,hT.jC⟩
 ·cases h
·split at h
 ·next r=>
  unfold oQ at h;split at h
  ·next d=>
   cases h;obtain⟨u,x⟩:=s r d rfl;simp only[Ev];split
   ·exact hT
   ·next h1=>
    split
    ·exact hT
    ·next h2=>
     split
     ·exact hT
     ·next t=>
      have h1:(u8 d 1 127&&u8 ((row.length:Int)/3) 2 64)=true:=by simpa using h1
      unfold u8 at h1;simp only[ev,dL]at h1;have f:=yJ (cL row);have o:(cL row).length=row.length:=by unfold cL;rw[FM]
      rw[o]at f;have:=hT.sz.trips;refine⟨MS hT.bd (by rw[f];lia) (by simpa using h2),⟨hT.sz.stops,by show(T.trips++_).length<=1024;rw[ls,bK];lia,hT.sz.walks,λq e=>?_⟩,λq e=>?_⟩
      ·rcases cs.mp e with e|e
       ·exact hT.sz.late q e
       ·rw[sc.mp e];simp
      ·rcases cs.mp e with e|e
       ·exact hT.jC q e
       ·rw[sc.mp e];show(fV (cL row)).length<=64;rw[f];lia
  ·cases h
 ·split at h
  ·unfold kK at h;split at h
   ·cases h;simp only[Ev];split
    ·exact hT
    ·next h1=>
     split
     ·exact hT
     ·next h2=>
      rename_i a b m;have h1:(eV T a&&(eV T b&&u8 m 0 240))=true:=by simpa using h1
      unfold eV u8 at h1;simp only[ev,dL]at h1;have:=hT.sz.walks;refine⟨Na hT.bd (by lia) (by lia) (by lia),⟨hT.sz.stops,hT.sz.trips,by show(T.walks++_).length<=4096;rw[ls,bK];lia,hT.sz.late⟩,hT.jC⟩
   ·cases h
  ·split at h
   ·unfold kI at h;split at h
    ·cases h;simp only[Ev];split
     ·exact hT
     ·next h1=>
      rename_i g d i m;have h1:(u8 g 0 ((T.trips.length:Int)-1)&&(u8 d 0 6&&(u8 i 0 63&&u8 m 0 240)))=true:=by simpa using h1
      unfold u8 at h1;simp only[ev,dL]at h1;have bd:=Ie hT.bd (n:=g.toNat) (d:=d.toNat) (i:=i.toNat) (m:=m.toNat) (by lia) (by lia);refine⟨bd,⟨hT.sz.stops,by rw[wh];exact hT.sz.trips,hT.sz.walks,λq e=>(bd.late q e).1⟩,λq e=>?_⟩;rw[Cz]at e;obtain⟨k,j,rfl⟩:=e;have:=hT.jC _ (eX j);split<;>exact this
    ·cases h
   ·rw[yj h];exact hT)
end
def vj (CP CN:WF):Sp:=λvs H Q _=>∃(A:PA) (T:t1) (m:Nat) (p:Int) (ns b:WF) (l row:List Int) (c:c9),vs=[.ref A.x,.int p,.ref ns,.ref b]/\H ns=some (.lst (l.map W1.int))/\H b=some (.lst (row.map W1.int))/\l.length=vR p/\j9 p l row=some c/\(p=2->∀d,l=[d]->mq d row)/\cd CP CN H A T m/\eY T/\m+2<=1000/\
 ∀(I:Hp) (a:WF),cd CP CN I A (Ev T c).2 (m+2)->Ch A.own H I->H a=none->I a=some (.lst ((am (Ev T c).1).map W1.int))->Q (.ref a) I
theorem LW:pu zaD zaD (s1 qd):=nb rfl rfl rfl (by decide +kernel)
theorem Jl(F:sB K "answer_of" "answer_of" qd f fd) (T:bU K mg CP) (Y:oO mg)
  (c1:Gm P w K mg base 1 CP "add_stop" zau (hX CP CN kJ 1)) (c2:Gm P w K mg base 2 CP "add_trip" zaE (vE CP CN)) (c3:Gm P w K mg base 2 CP "add_walk" zav (hX CP CN kK 3)) (c4:Gm P w K mg base 2 CP "tell_late" zaw (hX CP CN kI 4))
  (OS:Gf P w K mg base 8 "answer_asked" zaC (vk CP CN)):AC P w K mg base xL 9 f fd zaD (vj CP CN):=by(
refine Do c1 λPf Pa OI ON m1=>?_;refine Do c2 λPg Pb OJ OO m2=>?_;refine Do c3 λPh Pc OK OP m3=>?_;refine Do c4 λPj Pd OL OQ O0=>?_;refine gl OS λPk Pe OM OR g5 OZ=>?_;refine F.ar LW (λvs H Q E h=>?_) (λO_ O8 outer s0 H vs Q E y h=>?_)
·refine pW h λA i m p ns OH l row c O6 _=>?_;subst O6;rfl
·intro O9;refine pV h λA i m p ns OH l row c O7=>?_;obtain⟨rfl,r,OX,g,d,OY,t,hT,hm,k⟩:=O7;refine B (On (jp (ga c0 (V 1) (nl Y.n1 rfl) (li _)) (Fa (tt (db (UV (aA (V 0) T.cl m1 OI (y.mono) ON .nil ws (UV (xz wE (V 2) EQ) PP)) PP)))) ii)
  (On (jp (ga c0 (V 1) (nl Y.n2 rfl) (li _)) (Fa (tt (db (UV (aA (V 0) T.cl m2 OJ (y.mono) OO .nil ws (UV (xz wE (V 2) EQ) (UV (V 3) PP))) PP)))) ii)
  (On (jp (ga c0 (V 1) (nl Y.n3 rfl) (li _)) (Fa (tt (db (UV (aA (V 0) T.cl m3 OK (y.mono) OP .nil ws (UV (xz wE (V 2) EQ) (UV (xz wE (V 2) EQ) (UV (xz wE (V 2) EQ) PP)))) PP)))) ii)
  (On (jp (ga c0 (V 1) (nl Y.n4 rfl) (li _)) (Fa (tt (db (UV (aA (V 0) T.cl O0 OL (y.mono) OQ .nil ws (UV (xz wE (V 2) EQ) (UV (xz wE (V 2) EQ) (UV (xz wE (V 2) EQ) (UV (xz wE (V 2) EQ) PP))))) PP)))) ii)
  (Fa (tt (ge OM y rfl g5 OZ OR .nil ws (UV (V 0) (UV (V 1) (UV (V 2) PP)))))))))) ?_
 have fin:(Ev i c).1.out=[]->∀H1,cd CP CN H1 A (Ev i c).2 (m+1)->Ch A.own H H1->∀q,H1 q=none->Q (.ref q) (Uf H1 q (.lst [W1.int (Ev i c).1.code])):=λs H1 n j q U=>by
  refine k _ q ((n.same (Tl.new U)).more (by lia)) (j.new U) (gF j U λb N=>n.there N) ?_;rw[KE,yd s];rfl
 unfold j9 at d;unfold vR at g;refine zn _ O O (B rfl ?_);by_cases D:p=1
 ·rw[sK (by rw[D])];rw[No D]at d g;obtain⟨u,rfl⟩:=k3 g;have s:(Ev i c).1.out=[]:=by cases d;exact Ap
  exact wn (B rfl (nw A.x A.dx _ O t.ob O (B rfl (Db ns _ _ _ O O (TD.of r) O (b' A i m _ c O g d t hT.sz (by lia) (λH1 n j=>⟨by show 1<=Gc;decide,fin s H1 n j⟩))))))
 rw[sn (by intro z;injection z with z;exact D z)];rw[Ps D]at d g;refine v6 (zn _ O O (B rfl ?_));by_cases C:p=2
 ·rw[sK (by rw[C])];rw[No C]at d g;obtain⟨u,rfl⟩:=k3 g;have s:(Ev i c).1.out=[]:=by cases d;exact Ar
  obtain⟨O2,O3⟩:=OY C u rfl;have OT:c=.trip u (cL row) ((row.length:Int)/3):=by unfold oQ at d;cases d;rfl
  rw[OT]at fin s;exact wn (B rfl (nw A.x A.dx _ O t.ob O (B rfl (Db ns _ _ _ O O (TD.of r) O (B rfl (i1 A i m u OH row ⟨O,OX,O2,O3,t,hT.sz,by lia,λH1 n j=>⟨by show 1<=Gc;decide,fin s H1 n j⟩⟩))))))
 rw[sn (by intro z;injection z with z;exact C z)];rw[Ps C]at d g;refine v6 (zn _ O O (B rfl ?_));by_cases J:p=3
 ·rw[sK (by rw[J])];rw[No J]at d g;obtain⟨u,O4,O5,rfl⟩:=pz g;have s:(Ev i c).1.out=[]:=by cases d;exact As
  exact wn (B rfl (nw A.x A.dx _ O t.ob O (B rfl (Db ns _ _ _ O O (TD.of r) O (B rfl (Db ns _ _ _ O O (TD.of r) O (B rfl (Db ns _ _ _ O O (TD.of r) O (b' A i m _ c O g d t hT.sz (by lia) (λH1 n j=>⟨by show 1<=Gc;decide,fin s H1 n j⟩))))))))))
 rw[sn (by intro z;injection z with z;exact J z)];rw[Ps J]at d g;refine v6 (zn _ O O (B rfl ?_));by_cases L:p=4
 ·rw[sK (by rw[L])];rw[No L]at d g;obtain⟨u,O4,O5,Pl,rfl⟩:=d0 g;have s:(Ev i c).1.out=[]:=by cases d;exact Aq
  exact wn (B rfl (nw A.x A.dx _ O t.ob O (B rfl (Db ns _ _ _ O O (TD.of r) O (B rfl (Db ns _ _ _ O O (TD.of r) O (B rfl (Db ns _ _ _ O O (TD.of r) O (B rfl (Db ns _ _ _ O O (TD.of r) O (b' A i m _ c O g d t hT.sz (by lia) (λH1 n j=>⟨by show 1<=Gc;decide,fin s H1 n j⟩))))))))))))
 rw[sn (by intro z;injection z with z;exact L z)];rw[Ps L]at d g;refine v6 (B rfl (B rfl (B rfl (g8 A i m p ns l c ⟨O,r,g,d,t,hT,hm,λI a OV OU O1 OW=>k I a (by rw[yj d];exact OV) (λb o e N=>OU b o e λz=>N (by rw[sc.mp z];simp[PA.own])) O1 OW⟩)))))
end Dv
namespace L2
open PySem PySem.Spec PyProof.Rows
noncomputable def mE (e:g_):Option (Int×Int×Int):=match e.key,e.val with
 |.int k _,.int v _=>some (e.hash,k,v)
 |_,_=>none
theorem F7(q:mE e=some (h,k,v)):e.hash=h/\∃t u,e.key=.int k t/\e.val=.int v u:=by(
unfold mE at q;split at q
·next t u h1 h2=>cases q;exact⟨O,io _ _ h1 h2⟩
·cases q)
def mc (K:wf) (wd:WF) (a:List (Int×Int)):Prop:=∃o es ep,K.lookup wd=some o/\o.ExactDict/\o.data=.dict es ep/\es.toList.map mE=a.map λx=>some (x.1,x.1,x.2)
theorem B4:∀ {es:List g_}{b:List (Int×Int)},es.map mE=(b.map λx=>some (x.1,x.1,x.2))->(∀x,x∈b->wX x.1=x.1)->
  ∃T0:List (sw×Tk),Pairs (cj P w) es T0/\T0.map (·.1)=(b.map λx=>(im x.1:sw))/\(∀e,e∈es->∃k,(cj P w).is k e.key=true/\e.hash=(cj P w).hash k)/\∀p n,b.lookup p=some n->∃t,h9 T0 (im p:sw)=some (.int n t)
 |[],[],_,_=>⟨[],.nil,O,λe r=>by simp at r,λp n h=>by cases h⟩
 |[],_::_,h,_=>by cases h
 |_::_,[],h,_=>by cases h
 |e::es,(k,v)::b,h,f=>by
  rw[m0,m0]at h;injection h with h1 h2;obtain⟨T0,y,p2,A,C⟩:=B4 (P:=P) (w:=w) h2 λx s=>f x (o0 _ s);obtain⟨m,t,u,o,q⟩:=F7 h1;have g:(cj P w).is (im k:sw) e.key=true:=by rw[o];exact iO (k:=im k) ⟨t,O⟩
  refine⟨(im k,e.val)::T0,.cons g rfl y,by rw[m0,m0,p2],λl d=>?_,λp n a=>?_⟩
  ·rcases rs.mp d with rfl|d
   ·exact B g (by rw[m];exact(f (k,v) (kw ..)).symm)
   ·exact A l d
  ·unfold h9;rw[kz];rw[jk]at a;by_cases c:p=k
   ·subst c;simp only[beq_self_eq_true]at a;cases a;simp only[decide_true,ih];exact⟨u,by rw[q]⟩
   ·have i:(p==k)=false:=by simpa using c
    rw[i]at a;have j:decide ((im k:sw)=im p)=false:=sn λz=>c (by injection z with z;exact z.symm);simp only[j];exact C p n a
def MN (a:List (Int×Int)) (ty:TE):TE:=λZB H Q=>ty ZB H λy H1=>∃p n,y=.int p/\a.lookup p=some n/\Q (.int n) H1
theorem KN {X:Cx}{x:Str}{i:s5}{ty:TE}{p pos:Pos}{wd:WF}{a:List (Int×Int)}(hm:X.mg x=some (.ref wd)) (hg:Gl X x) (hd:mc X.K wd a) (m:∀x,x∈a->wX x.1=x.1) (r:(a.map λx=>(im x.1:sw)).Nodup) (hi:PE X i ty) (z:s7 i) (j:(x==("__debug__":Str))=false:=by decide):PE X (.Subscript (.Name x p) i pos) (MN a ty):=by
 intro WP s ZB H Q XV h;refine Bw DG.lookup z (mQ XV hg hm ?_ j);refine wP (hi WP s ZB H _ XV h) λU N T=>?_;obtain⟨y,H2,b,L,k,n,d,q,J⟩:=T;subst d;refine k9 hd λo es ep h1 h2 f g=>?_;obtain⟨T0,C,p2,D,E⟩:=B4 (P:=X.prog) (w:=X.w) g m;have u:=b.dY wd o h1;have c:N.heap.DictOf (cj X.prog X.w) wd T0:=b_ o es ep ⟨u,h2,f,λe l=>D e (by simpa using l),C,by rw[p2];exact r⟩;obtain⟨t,A⟩:=E k n q;exact⟨c.mapOf.typeIs,C1 (iO (k:=im k) L) c.mapOf A (IN (.int n) H2 (b.tok _) ⟨t,O⟩ J)⟩
end L2
namespace Dv
open PySem L2 Tw
variable {P:fr}{w:g2}{K:wf}{mg:Str->Option Tk}{base:s2}{CP CN CS CL CG:WF}
theorem ze(L:List (List Int)) (h:∀r,r∈L->r.length<=k):L.flatten.length<=k*L.length:=by
 rw[Cq];exact nF cC k L h
theorem mD:∀(l:List (Nat×Option Int)) (m:Option Int) (r:List Int),r∈gv m l->r.length<=5
 |[],m,r,h=>by simp[gv]at h
 |(k,x)::l,m,r,h=>by
  unfold gv at h;split at h
  ·split at h
   ·rcases rs.mp h with rfl|h
    ·simp
    ·exact mD l _ r h
   ·exact mD l _ r h
  ·rcases rs.mp h with rfl|h
   ·simp
   ·exact mD l _ r h
  ·exact mD l _ r h
theorem BN:∀(l:List nX) (x:lW),(bn T M x l).length<=5*l.length
 |[],x=>by simp[bn]
 |c::l,x=>by
  unfold bn;rw[ls,bt];have h1:(bS T M x c).length<=5:=by
   unfold bS;split
   ·split<;>simp
   ·split<;>simp
  cases q:xf T M x c with
  |none=>simp only[ky];lia
  |some y=>
   have:=BN (T:=T) (M:=M) l y;simp only;lia
theorem G8:∀r,r∈sl T h M t->r.length<=5:=λr a=>by
 unfold sl at a;rw[Cr]at a;obtain⟨x,_,a⟩:=fk.mp a;obtain⟨k,_,a⟩:=fk.mp a;split at a
 ·simp at a
 ·obtain⟨i,_,hi⟩:=oB.mp a;split at hi
  ·cases hi;simp
  ·cases hi
theorem AY(a:room<=4096) (h:∀r,r∈L->r.length<=5):(am (lV room L)).length<=20481:=by(
unfold am lV;split
·next c=>
 have:=ze L h;simp only[bt];split
 ·simp
 ·lia
·simp[bM])
theorem e_ (n:Int):(am (bM n)).length<=20481:=by
 unfold am bM;simp
theorem rF(h:u8 a b c=true):b<=a/\a<=c:=by unfold u8 at h;simpa using h
theorem Fe(hT:eY T) (h:jx p l=some c):(am (Ev T c).1).length<=20481:=by(
have two:∀(x y:Int),(am ⟨0,[x,y]⟩).length<=20481:=λx y=>by simp[am]
have b:∀ {l c},iA l=some c->(am (Ev T c).1).length<=20481:=λ{l c} h=>by
 unfold iA at h;split at h
 ·cases h;simp only[Ev];split
  ·exact e_ _
  ·split
   ·exact two _ _
   ·exact e_ _
 ·cases h
have d:∀ {l c},iD l=some c->(am (Ev T c).1).length<=20481:=λ{l c} h=>by
 unfold iD at h;split at h
 ·cases h;simp only[Ev];split
  ·exact e_ _
  ·split
   ·exact two _ _
   ·exact e_ _
 ·cases h
have e:∀ {l c},iB l=some c->(am (Ev T c).1).length<=20481:=λ{l c} h=>by
 unfold iB at h;split at h
 ·cases h;simp only[Ev];split
  ·exact e_ _
  ·next hw=>
   have hw:=su _ |>.resolve_right hw;rw[ev]at hw;exact AY (rF hw.2).2 λr a=>mD _ _ r a
 ·cases h
have f:∀ {l c},iE l=some c->(am (Ev T c).1).length<=20481:=λ{l c} h=>by
 unfold iE at h;split at h
 ·cases h;simp only[Ev];split
  ·exact e_ _
  ·next hw=>
   have hw:=su _ |>.resolve_right hw;rw[ev,ev]at hw;refine AY (rF hw.2.2).2 λr a=>?_;obtain⟨i,_,hi⟩:=oB.mp a;split at hi
   ·split at hi
    ·cases hi;simp
    ·cases hi
   ·cases hi;simp
   ·cases hi
 ·cases h
have g:∀ {l c},iF l=some c->(am (Ev T c).1).length<=20481:=λ{l c} h=>by
 unfold iF at h;split at h
 ·cases h;simp only[Ev];split
  ·exact e_ _
  ·split
   ·exact e_ _
   ·have:=hT.sz.stops;unfold am;simp only[bt];split
    ·simp
    ·rw[FM,fZ];lia
 ·cases h
have j:∀ {l c},iC l=some c->(am (Ev T c).1).length<=20481:=λ{l c} h=>by
 unfold iC at h;split at h
 ·cases h;simp only[Ev];split
  ·exact e_ _
  ·next hw=>
   have hw:=su _ |>.resolve_right hw;rw[ev]at hw;have n:=(rF hw.2).2;split
   ·exact e_ _
   ·split
    ·next l' _=>
     split
     ·exact e_ _
     ·next o=>
      unfold am;simp only[bt];split
      ·simp
      ·refine dz (DD (BN l' _)) ?_;lia
    ·exact e_ _
 ·cases h
have m:∀ {l c},iz l=some c->(am (Ev T c).1).length<=20481:=λ{l c} h=>by
 unfold iz at h;split at h
 ·cases h;simp only[Ev];split
  ·exact e_ _
  ·next hw=>
   have hw:=su _ |>.resolve_right hw;rw[ev]at hw;have n:=rF hw.2;unfold am;simp only[bt];split
   ·simp
   ·refine dz (DD (ze (k:=5) _ λr a=>G8 r (ox a))) ?_;rw[aP];lia
 ·cases h
unfold jx at h;split at h
·exact b h
·split at h
 ·exact d h
 ·split at h
  ·exact e h
  ·split at h
   ·exact f h
   ·split at h
    ·exact g h
    ·split at h
     ·exact j h
     ·exact m h)
theorem ye(hT:eY T) (h:j9 p l row=some c):(am (Ev T c).1).length<=20481:=by(
have one:∀ {a:DA},a.out=[]->(am a).length<=20481:=λb=>by rw[yd b];simp
unfold j9 at h;split at h
·unfold kJ at h;split at h
 ·cases h;exact one Ap
 ·cases h
·split at h
 ·unfold oQ at h;split at h
  ·cases h;exact one Ar
  ·cases h
 ·split at h
  ·unfold kK at h;split at h
   ·cases h;exact one As
   ·cases h
  ·split at h
   ·unfold kI at h;split at h
    ·cases h;exact one Aq
    ·cases h
   ·exact Fe hT h)
noncomputable def rE:List (Int×Int):=[(1,1),(2,1),(3,3),(4,4),(5,4),(6,4),(7,5),(8,6),(9,4),(10,5),(11,4)]
theorem MR(h:f3 p=some (n,k)) (g:l.length=n) (h0:k=0->xs=[]) (h1:k=1->xs=[row]):
  ∃x,j9 p l row=some x/\DZ (l3 ((p::l)::xs))=some x/\vR p=n/\rE.lookup p=some (n:Int)/\(k=1↔p=2):=by(
rcases Bk h with⟨rfl,rfl,rfl⟩|⟨rfl,rfl,rfl⟩|⟨rfl,rfl,rfl⟩|⟨rfl,rfl,rfl⟩|⟨rfl,rfl,rfl⟩|⟨rfl,rfl,rfl⟩|⟨rfl,rfl,rfl⟩|⟨rfl,rfl,rfl⟩|⟨rfl,rfl,rfl⟩|⟨rfl,rfl,rfl⟩|⟨rfl,rfl,rfl⟩
·rw[h0 rfl];obtain⟨a,rfl⟩:=k3 g;exact⟨_,O,O,O,O,by decide⟩
·rw[h1 rfl];obtain⟨a,rfl⟩:=k3 g;exact⟨_,O,O,O,O,by decide⟩
·rw[h0 rfl];obtain⟨a,b,c,rfl⟩:=pz g;exact⟨_,O,O,O,O,by decide⟩
·rw[h0 rfl];obtain⟨a,b,c,d,rfl⟩:=d0 g;exact⟨_,O,O,O,O,by decide⟩
·rw[h0 rfl];obtain⟨a,b,c,d,rfl⟩:=d0 g;exact⟨_,O,O,O,O,by decide⟩
·rw[h0 rfl];obtain⟨a,b,c,d,rfl⟩:=d0 g;exact⟨_,O,O,O,O,by decide⟩
·rw[h0 rfl];obtain⟨a,b,c,d,e,rfl⟩:=jN g;exact⟨_,O,O,O,O,by decide⟩
·rw[h0 rfl];obtain⟨a,b,c,d,e,f,rfl⟩:=uw g;exact⟨_,O,O,O,O,by decide⟩
·rw[h0 rfl];obtain⟨a,b,c,d,rfl⟩:=d0 g;exact⟨_,O,O,O,O,by decide⟩
·rw[h0 rfl];obtain⟨a,b,c,d,e,rfl⟩:=jN g;exact⟨_,O,O,O,O,by decide⟩
·rw[h0 rfl];obtain⟨a,b,c,d,rfl⟩:=d0 g;exact⟨_,O,O,O,O,by decide⟩)
theorem Bs{T:t1}{c:List (List Int)}(h:DZ c=some x):l0 T c=((Ev T x).2,am (Ev T x).1):=by
 unfold l0;rw[h];rfl
theorem LF(h:xq (l3 [[2,d],row])=true):mq d row:=by(
have h:(DX d&&(DX ((row.length:Int)/3)&&(row.all (λ(z:Int)=>DY z 16)&&decide ((row.length:Int)=if(1<=d/\d<=127)/\(2<=(row.length:Int)/3/\(row.length:Int)/3<=64)then 3*((row.length:Int)/3)else 0))))=true:=h;simp only[ev,hq,dL]at h;obtain⟨_,_,b,a⟩:=h;refine⟨λz hz=>?_,λc=>?_⟩
·have:=b z hz;unfold DY at this;simp only[ev,dL]at this;exact this.1
·rw[No c]at a;exact a)
theorem yT(xs:List W1) (h:j<=xs.length) (a:i<=j):eI xs (some (i:Int)) (some (j:Int))=(xs.drop i).take (j-i):=by
 unfold eI;rw[HT.qB,HT.qB,km h,km (by lia)]
def q9 (K:wf):Sp:=λvs H Q _=>∃(a:WF) (ns:List Int),vs=[.ref a]/\TD K H a (ns.map W1.int)/\ns.length<=30000/\xC ns=true/\∀(I:Hp) (l:WF),I l=some (.lst ((sO ns).map W1.int))->Q (.ref l) I
theorem fK:pu ["calls","plan","told","place","number","behind","numbers","row","answer"] ["calls"] (s1 hS):=nb rfl rfl rfl (by decide +kernel)
theorem y2{ns:List Int}(h:ns.drop pl=p::r):ns[pl]?=some p/\ns.drop (pl+1)=r/\pl<ns.length:=by(
have a:pl<ns.length:=by
 apply Ep;intro c;rw[wa (by lia)]at h;cases h
rw[xY a]at h;injection h with h1 h2;exact⟨by rw[g1 a,h1],h2,a⟩)
def eZ (H I:Hp):Prop:=∀b o,H b=some o->(∀x u,o≠HO.aw x u)->I b=some o
theorem eZ.hide {l:List WF}{H I:Hp}(h:eZ H I):eZ (hide l H) (hide l I):=λb o e m=>by obtain⟨a,c⟩:=wl.mp e;exact wl.mpr ⟨a,h b o c m⟩
theorem eZ.drop(h:H q=some (.aw o u)):eZ H (L2.hide [q] H):=λb o' e m=>wl.mpr ⟨(λz=>by rw[sc.mp z,h]at e;exact m _ _ (b2 e).symm),e⟩
section
variable {G G':Hp}
theorem eZ.l(s:eZ G G') {l:List W1}(e:G b=some (.lst l)):G' b=some (.lst l):=s _ _ e λ_ _ z=>by cases z
theorem eZ.t(s:eZ G G') {l:List W1}(e:TupAt G v l):TupAt G' v l:=by obtain⟨a,b,c⟩:=e;exact(Ix a b (s _ _ c λ_ _ z=>by cases z))
theorem f2.mY(s:eZ G G') (h:f2 CN G n N):f2 CN G' n N:=by(
refine et h.ex λk c r o d f J os ds fs h1 h2 p u y A C D E m=>?_;have j:∀ {v:W1}{l:List W1},LstAt G v l->LstAt G' v l:=λL=>by obtain⟨a,e,q⟩:=L;exact Ix a e (s.l q)
exact⟨k,c,r,o,d,f,J,os,ds,fs,s _ _ h1 (λ_ _ z=>by cases z),s.l h2,s.l p,aj (λv x Q=>by obtain⟨a,b,g,i,H⟩:=Q;exact IN a b (s.t g) (s.l i) (s.l H)) u,s.l y,aj (λv x T=>by obtain⟨es,g,i⟩:=T;exact Ix es (j g) (aj (λ_ _ q=>s.t q) i)) A,s.l C,aj (λv x U=>by obtain⟨es,g,i⟩:=U;exact Ix es (j g) (aj (λ_ _ q=>s.t q) i)) D,s.l E,aj (λ_ _ q=>s.t q) m⟩)
theorem cd.mY(s:eZ G G') (h:cd CP CN G A T m):cd CP CN G' A T m:=by(
have f:=s.hide (l:=A.own);obtain⟨ts,E,H⟩:=h.trips;obtain⟨Q,J,L⟩:=h.walks;obtain⟨lk,h1,h2,n⟩:=h.late;obtain⟨C,x,y,o⟩:=h.bo;refine⟨h.nd,s _ _ h.ob (λ_ _ z=>by cases z),s.l h.chg,(Ix ts (s.l E) (aj (λ_ _ U=>by obtain⟨a,b,c,g,j,k,D⟩:=U;exact nw a b c (f.t g) (f.l j) (f.l k) (f.l D)) H)),(Ix Q (s.l J) (aj (λ_ _ q=>f.t q) L)),(zn lk (s _ _ h1 (λ_ _ z=>by cases z)) h2 ⟨λi d p r u=>?_,n.no⟩),(zn C (s _ _ x (λ_ _ z=>by cases z)) y (λd hd=>⟨λv e=>by obtain⟨a,N,g,j,k⟩:=(o d hd).1 v e;exact(IN a N g (j.mY s) k),λv e=>by obtain⟨a,N,g,j,k⟩:=(o d hd).2 v e;exact(IN a N g (j.mY s) k)⟩))⟩;have:=n.at_ i d p r u;unfold jr at this⊢;cases q:it lk (el i d)with
|none=>rw[q]at this;exact this
|some v=>rw[q]at this;exact f.t this)
end
theorem Jm(F:sB K "answers" "answers" hS f fd) (T:bU K mg CP) (Y:oO mg) (QC:mg "Plan"=some (.ref CP)) (TW:Mk K CP Qh) (P5:AC P w K mg base xL 1 Qh Qi zaa (vB CP CN)) (P9:Binds K Qi zaa [])
  (QD:mg "WIDTHS"=some (.ref wd)) (Ql:mc K wd rE) (P_:Gf P w K mg base 9 "answer_of" zaD (vj CP CN)):AC P w K mg base xL 10 f fd ["calls"] (q9 K):=by
 refine gl P_ λQO QP P4 P8 QB Qy=>?_;refine F.ar fK (λvs H Q E h=>?_) (λQM QK outer s0 H vs Q E PK h=>?_)
 ·refine iS h λa ns QH=>?_;obtain⟨rfl,_⟩:=QH;rfl
 ·intro QL;refine iS h λa ns QI=>?_;obtain⟨rfl,Qm,QS,Qo,k⟩:=QI;refine B (On (zS 1 fK (KI TW P5 (PK.mono) rfl QC P9 .nil ws))
   (On (zS 2 fK (db PP))
   (On (zS 3 fK EQ)
   (On (ll bN (ga d1 (V 3) (a0 b6 (by rfl) T.len b0 (UV (V 0) PP)) (li _))
    (On (zS 4 fK (xz wE (V 0) (V 3)))
    (On (zS 5 fK (kt bG (kt bG (V 3) EQ) (KN QD rfl Ql (by decide) (by decide) (V 4) (λ_ _=>rfl))))
    (On (zS 6 fK (nc nB (V 0) (d2 (kt bG (V 3) EQ)) (d2 (V 5))))
    (On (zS 7 fK (db PP))
    (On (jp (ga c0 (V 4) (nl Y.n2 rfl) (li _))
     (On (zS 7 fK (nc nB (V 0) (d2 (kt bG (V 5) EQ)) (d2 (kt bG (kt bG (V 5) EQ) (xz wE (V 0) (V 5))))))
     (Fa (zS 5 fK (kt bG (kt bG (V 5) EQ) (a0 b6 (by rfl) T.len b0 (UV (V 7) PP)))))) ii)
    (On (uV (zS 8 fK (ge P4 PK rfl QB Qy P8 .nil ws (UV (V 1) (UV (V 4) (UV (V 6) (UV (V 7) PP)))))))
    (On (ca (cG cm da dc cZ (V 2) (UV (a0 b6 (by rfl) T.len b0 (UV (V 8) PP)) PP)))
    (On (ca (cG cm DH DI IH (V 2) (UV (V 8) PP)))
    (Fa (zS 3 fK (V 5))))))))))))
   (Fa (tt (V 2))))))) ?_
  refine gl (E' Qo) λQg Qa Qs Qn Qp QQ=>?_;refine λx dx nx QF ne=>?_;have sx:Tl H (Uf (Uf H dx (.own x)) x (.ins CP dx [])):=(Tl.new QF).tr (Tl.new (by rw[UF (Ne.symm ne)];exact nx));refine IN x dx O KE (λH1 A ex PB Qk Qj=>⟨O,?_⟩);subst ex;have PU:Tl H H1:=λc u q=>Qk _ _ (sx _ _ q) (by simpa using v0 q nx);have PR:∀b,b∈A.own->H b=none:=λb Qq=>by
   rcases Qj b Qq with z|z
   ·rw[z];exact nx
   ·exact sx.free z
  refine⟨f4 _,λtl O6=>?_⟩;have PV:Tl H1 (Uf H1 tl (.lst [])):=Tl.new O6;have O5:H tl=none:=PU.free O6;have QG:Tl H1 (hide [tl] (Uf H1 tl (.lst []))):=λc u q=>wl.mpr ⟨by simpa using v0 q O6,PV _ _ q⟩;have PX:tl∉A.own:=λz=>PB.there z O6
  let P7:Nat->St->Hp->Prop:=λm ZB H2=>∃(pl:Nat) (Py:Nat) (C:List (List (List Int))) (o:t1) (N:Nat) (out:List Int) (PY PZ P0 P1 P2:Option W1),ZB=[some (.ref a),some (.ref A.x),some (.ref tl),some (Rs pl),PY,PZ,P0,P1,P2]/\m=C.length/\jg f3 Py (ns.drop pl)=some C/\out++lF o (C.map l3)=sO ns/\cd CP CN (hide [tl] H2) A o N/\eY o/\N+2*C.length<=600/\(∀c,c∈C->xq (l3 c)=true)/\out.length+20500*C.length<=6150000/\H2 tl=some (.lst (out.map W1.int))/\Tl H H2
  refine⟨P7,⟨_,0,Qg,Qa,eb,0,[],none,none,none,none,none,O,O,by rw[CF];exact Qs,by rw[l_];exact Qn.symm,PB.same QG,⟨F6,⟨by simp[eb],by simp[eb],by simp[eb],λp Pk=>by simp[eb]at Pk⟩,λp Pk=>by simp[eb]at Pk⟩,by lia,Qp,by simp;lia,KE,PU.tr PV⟩,?_⟩;rintro m ZB H2 ⟨pl,Py,C,o,N,out,PY,PZ,P0,P1,P2,rfl,rfl,Qr,O4,PD,OR,QV,Pf,QY,OM,Pu⟩;have O1:=Qm.same Pu;refine B rfl (B rfl (IN a _ O (.inl O1) (IN _ _ O O (B rfl ?_))));rcases FA Qr with⟨Pa,J⟩|⟨p,n,ON,r,xs,t,OQ,Pz,Pa,PN,QX,OL,J,PH⟩
  ·have QR:ns.length<=pl:=by
    have:=cM cC Pa;rw[jj]at this;simp at this;lia
   rw[sn (by rw[FM];lia)];refine v6 (B rfl (k H2 tl ?_));rw[J,hr,MQ,fm]at O4;rw[<- O4];exact OM
  ·obtain⟨Qx,O2,QT⟩:=y2 Pa;rw[sK (by rw[FM];lia)];refine wn ⟨λQJ I=>∃PQ,PQ<C.length/\_,λQJ I q=>q,?_⟩;have Q0:r.length+pl+1=ns.length:=by rw[<- O2,jj];lia
   have Qt:(ns.map W1.int)[pl]?=some (W1.int p):=by rw[pr,Qx];rfl
   refine B rfl (B rfl (Db a _ _ _ O O O1 (lv Qt) ?_));have Pj:ON=0->xs=[]:=λz=>by rw[z]at OL;exact(A4 OL).1
   have O3:ON=1->xs=[if ON=1 then(xs.getD 0 [])else []]:=λz=>by
    have PM:=OL;rw[z]at PM;refine gl (A3 PM) λPQ l _ _ e _=>?_;rw[No z,e];rfl
   obtain⟨x,c1,c2,c3,c4,Pw⟩:=MR (row:=if ON=1 then(xs.getD 0 [])else []) (xs:=xs) PN (show(r.take n).length=n by rw[aP];lia) Pj O3;have Qb:W1.int ((pl:Int)+1+(n:Int))=Rs (pl+1+n):=by unfold Rs;congr 1
   refine B rfl (IN _ _ O O (B rfl (IN p _ O c4 (IN _ _ O O ?_))));show bh 5 (W1.int ((pl:Int)+1+(n:Int))) _ _ _;rw[Qb];have Px:eI (ns.map W1.int) (some ((pl:Int)+1)) (some ((pl+1+n:Nat):Int))=(r.take n).map W1.int:=by
    rw[show((pl:Int)+1)=((pl+1:Nat):Int) by lia,yT _ (by rw[FM];lia) (by lia),<-wx,O2,<-nH,show pl+1+n-(pl+1)=n by lia]
   refine B rfl (B rfl (IN _ _ O O (B rfl (B rfl (B rfl (IN a _ O O1 (λOI OY=>?_)))))));have QN:eI (ns.map W1.int) (some ((λi j=>i+j) (pl:Int) 1)) (some ((pl+1+n:Nat):Int))=(r.take n).map W1.int:=Px;rw[Px];have Pq:Tl H2 (Uf H2 OI (.lst ((r.take n).map W1.int))):=Tl.new OY;have PJ:(Uf H2 OI (.lst ((r.take n).map W1.int))) OI=some (.lst ((r.take n).map W1.int)):=KE;generalize Uf H2 OI (.lst ((r.take n).map W1.int))=OZ at Pq PJ⊢;refine⟨f4 _,λU Po=>?_⟩;have Pr:Tl OZ (Uf OZ U (.lst [])):=Tl.new Po;have PL:(Uf OZ U (.lst [])) U=some (.lst []):=KE;generalize Uf OZ U (.lst [])=D at Pr PL⊢;have y:Tl H2 D:=Pq.tr Pr;have OX:=Pr _ _ PJ;refine zn _ O O (B rfl ?_);by_cases OS:p=2
   ·have O3:ON=1:=Pw.mpr OS;rw[sK (by rw[OS])];rw[O3]at OL;refine gl (A3 OL) λg l Qe QW Pc Pb=>?_;rw[No O3]at c1;have O0:xs.getD 0 []=l.take g:=by rw[Pc];rfl
    rw[O0]at c1;obtain⟨Qu,Ph,QU⟩:=y2 (ns:=ns) (pl:=pl+1+n) (p:=(g:Int)) (r:=l) (by rw[<- Qe,<-O2,wu]);have QZ:l.length+(pl+1+n)+1=ns.length:=by rw[<- Ph,jj];lia
    have Qv:(ns.map W1.int)[pl+1+n]?=some (W1.int (g:Int)):=by rw[pr,Qu];rfl
    have PF:=O1.same y;have Qd:eI (ns.map W1.int) (some (((pl+1+n:Nat):Int)+1)) (some (((pl+1+n:Nat):Int)+1+(g:Int)))=(l.take g).map W1.int:=by
     rw[show(((pl+1+n:Nat):Int)+1)=((pl+1+n+1:Nat):Int) by lia,show(((pl+1+n+1:Nat):Int)+(g:Int))=((pl+1+n+1+g:Nat):Int) by lia,yT _ (by rw[FM];lia) (by lia),<-wx,Ph,<-nH,show pl+1+n+1+g-(pl+1+n+1)=g by lia]
    refine wn (B rfl (B rfl (IN _ _ O O (B rfl (B rfl (IN _ _ O O (B rfl (B rfl (Db a _ _ _ O O PF (lv Qv) (IN _ _ O O (B rfl (IN a _ O PF (λOO Pp=>?_)))))))))))));rw[Qd];have Pt:Tl D (Uf D OO (.lst ((l.take g).map W1.int))):=Tl.new Pp;have Pl:(Uf D OO (.lst ((l.take g).map W1.int))) OO=some (.lst ((l.take g).map W1.int)):=KE;generalize Uf D OO (.lst ((l.take g).map W1.int))=P6 at Pt Pl⊢;refine B rfl (IN _ _ O O (B rfl (IN OO _ O (.inl (TD.of Pl)) (IN _ _ O O ?_))));have Q1:(((l.take g).map W1.int).length:Int)=(g:Int):=by rw[FM,aP];lia
    have Qc:W1.int (((pl+1+n:Nat):Int)+1+(((l.take g).map W1.int).length:Int))=Rs (pl+1+n+1+g):=by unfold Rs;congr 1;lia
    show bh 5 (W1.int (((pl+1+n:Nat):Int)+1+(((l.take g).map W1.int).length:Int))) _ _ _;rw[Qc];have OU:p=2->∀d,r.take n=[d]->mq d (l.take g):=λ_ d hd=>by
     refine LF ?_;have:=Pf ((p::r.take n)::xs) (by rw[J];exact kw ..);rw[OS,hd,Pc]at this;exact this
    have O7:OO≠tl:=λz=>by rw[z,y _ _ OM]at Pp;cases Pp
    have OW:ns.drop (pl+1+n+1+g)=t:=by rw[Pb,<-Ph,wu]
    have OX:=Pt _ _ OX;have y:=y.tr Pt;have OT:=Pl;generalize pl+1+n+1+g=O9 at OW⊢;generalize l.take g=row at c1 OU OT;generalize P6=D at y OX OT⊢;generalize OO=U at OT O7⊢;have Pd:∀s,cd CP CN (Uf D tl (.aw s (.lst (out.map W1.int)))) A o N:=λs=>PD.same λc u q=>by
     obtain⟨OH,OP⟩:=wl.mp q;rw[UF (by simpa using OH)];exact y _ _ OP
    have QA:C.length=OQ.length+1:=by rw[J];rfl
    have Pm:=y _ _ OM;have Pn:OI≠tl:=λz=>by rw[z,OM]at OY;cases OY
    refine IN tl _ Pm True.intro (λs=>?_);refine B rfl (B rfl (B rfl (B rfl ⟨A,o,N,p,OI,U,r.take n,row,x,O,(UF Pn).trans OX,(UF O7).trans OT,by rw[c3,aP];lia,c1,OU,Pd s,OR,by lia,λO8 OJ Pe OV QE L=>?_⟩)));have OK:O8 tl=some (.aw s (.lst (out.map W1.int))):=OV _ _ KE PX;refine⟨OK,?_⟩;have at_:OJ≠tl:=λz=>by rw[z,OK]at L;cases L
    have Qz:=ye OR c1;have big:∀ {k:Nat},k<=16000000->k<=Gc:=λh=>by rw[h7];lia
    have O_:∀ {k:Nat},k<=16000000->k<Gc:=λh=>by rw[h7];lia
    refine zn _ O (.inl ⟨O,⟨_,TD.of KE⟩⟩) (B rfl (IN OJ _ O (.inl (TD.of ((UF at_).trans L))) (bb tl _ _ O O KE (O_ (by rw[FM];lia)) ?_)));refine zn _ O (.inl ⟨O,⟨_,TD.of KE⟩⟩) (B rfl (bi tl OJ _ _ O O KE (by rw[UF at_,UF at_];exact L) (big (by rw[ls,FM,FM,bK];lia)) ?_));rw[gZ,gZ];refine B rfl (Ix OQ.length (by lia) ⟨O9,Pz,OQ,_,N+2,out++(((am (Ev o x).1).length:Int)::am (Ev o x).1),_,_,_,_,_,O,O,by rw[OW];exact PH,?_,?_,OR.does c1 OU,by lia,λc Pg=>Pf c (by rw[J];exact o0 _ Pg),?_,?_,λc u q=>?_⟩)
    ·rw[<- O4,J,m0,BH,Bs c2];simp only[dv,l9]
    ·refine(Pe.mY (eZ.drop OK)).same λc u q=>?_;obtain⟨OH,OP⟩:=wl.mp q;exact wl.mpr ⟨OH,by rw[UF (by simpa using OH)];exact OP⟩
    ·rw[ls,bt];lia
    ·rw[KE,bL,m0,dv];simp
    ·rw[UF (v0 q O5)];exact OV _ _ ((UF (v0 q O5)).trans (y _ _ (Pu _ _ q))) λz=>by rw[PR c z]at q;cases q
   ·have Pj:¬ON=1:=λz=>OS (Pw.mp z);rw[sn (by intro z;injection z with z;exact OS z)];rw[Ps Pj]at c1;have Qw:ON=0:=by
     rcases Bk PN with q|q|q|q|q|q|q|q|q|q|q<;>lia
    rw[Qw]at OL;obtain⟨Pc,Pb⟩:=A4 OL;refine v6 ?_;obtain⟨row,O0⟩:∃row:List Int,row=[]:=⟨_,O⟩;have OU:p=2->∀d,r.take n=[d]->mq d row:=λz=>absurd z OS;rw[<- O0]at c1;have O7:U≠tl:=λz=>by rw[z,Pq _ _ OM]at Po;cases Po
    have OW:ns.drop (pl+1+n)=t:=by rw[Pb,<-O2,wu]
    have OT:D U=some (.lst (row.map W1.int)):=by rw[O0];exact PL
    generalize pl+1+n=O9 at OW⊢;have Pd:∀s,cd CP CN (Uf D tl (.aw s (.lst (out.map W1.int)))) A o N:=λs=>PD.same λc u q=>by
     obtain⟨OH,OP⟩:=wl.mp q;rw[UF (by simpa using OH)];exact y _ _ OP
    have QA:C.length=OQ.length+1:=by rw[J];rfl
    have Pm:=y _ _ OM;have Pn:OI≠tl:=λz=>by rw[z,OM]at OY;cases OY
    refine IN tl _ Pm True.intro (λs=>?_);refine B rfl (B rfl (B rfl (B rfl ⟨A,o,N,p,OI,U,r.take n,row,x,O,(UF Pn).trans OX,(UF O7).trans OT,by rw[c3,aP];lia,c1,OU,Pd s,OR,by lia,λO8 OJ Pe OV QE L=>?_⟩)));have OK:O8 tl=some (.aw s (.lst (out.map W1.int))):=OV _ _ KE PX;refine⟨OK,?_⟩;have at_:OJ≠tl:=λz=>by rw[z,OK]at L;cases L
    have Qz:=ye OR c1;have big:∀ {k:Nat},k<=16000000->k<=Gc:=λh=>by rw[h7];lia
    have O_:∀ {k:Nat},k<=16000000->k<Gc:=λh=>by rw[h7];lia
    refine zn _ O (.inl ⟨O,⟨_,TD.of KE⟩⟩) (B rfl (IN OJ _ O (.inl (TD.of ((UF at_).trans L))) (bb tl _ _ O O KE (O_ (by rw[FM];lia)) ?_)));refine zn _ O (.inl ⟨O,⟨_,TD.of KE⟩⟩) (B rfl (bi tl OJ _ _ O O KE (by rw[UF at_,UF at_];exact L) (big (by rw[ls,FM,FM,bK];lia)) ?_));rw[gZ,gZ];refine B rfl (Ix OQ.length (by lia) ⟨O9,Pz,OQ,_,N+2,out++(((am (Ev o x).1).length:Int)::am (Ev o x).1),_,_,_,_,_,O,O,by rw[OW];exact PH,?_,?_,OR.does c1 OU,by lia,λc Pg=>Pf c (by rw[J];exact o0 _ Pg),?_,?_,λc u q=>?_⟩)
    ·rw[<- O4,J,m0,BH,Bs c2];simp only[dv,l9]
    ·refine(Pe.mY (eZ.drop OK)).same λc u q=>?_;obtain⟨OH,OP⟩:=wl.mp q;exact wl.mpr ⟨OH,by rw[UF (by simpa using OH)];exact OP⟩
    ·rw[ls,bt];lia
    ·rw[KE,bL,m0,dv];simp
    ·rw[UF (v0 q O5)];exact OV _ _ ((UF (v0 q O5)).trans (y _ _ (Pu _ _ q))) λz=>by rw[PR c z]at q;cases q
def x5 (K:wf) (x q:Str) (st:v2) (f:WF):Prop:=∃(d:Tk) (e:Option WF) (kV c h:Tk) (b:Option WF) (a ct:Tk) (g:Array (Option Tk)),
 K.lookup f=some ⟨d,e,.func (fT x q (gG st) (fA st) (s1 st) .none kV c h b a ct),g⟩/\lU K a q=true/\cV K (.ref f)=true
def a' (K:wf) (x:Str) (st:v2):Prop:=∃f,i' K cS x=some (some (.ref f))/\x5 K x x st f
def aB (K:wf) (C:WF) (x q:Str) (st:v2):Prop:=∃f,fS K (.ref C) x=some (some (.ref f))/\nV K (.ref f)=true/\x5 K x q st f
structure ht (K:wf) (x:Str) (C:WF):Prop where
 ns:i' K cS x=some (some (.ref C))
 pg:nU K C D0=true
 hd:sj K C=true
 po:w9 K C=true
 sa:fS K (.ref C) "__setattr__"=some (some (.builtin "object.__setattr__"))
 IG:w' K C=true
 kp:cV K (.ref C)=true
theorem ht.cls(h:ht K x C):cE K C:=⟨h.pg,h.hd,h.po,h.sa⟩
def aW (K:wf) (x:Str) (i:Int):Prop:=∃t,i' K cS x=some (some (.int i t))
def jt (K:wf) (x:Str):Prop:=i' K cS x=some none
section
variable {P:fr}{w:g2}{K:wf}{mg:Str->Option Tk}{base h:s2}{x q:Str}{st:v2}{C:WF}{k:Nat}{ps:List Str}{sp:Sp}
def yc:Nat->(List Tk->Prop)->Prop
 |0,P=>P []
 |n+1,P=>∀a,yc n λl=>P (a::l)
theorem mv:∀ {n:Nat}{P:List Tk->Prop},yc n P->∀us:List Tk,us.length=n->P us
 |0,_,h,[],_=>h
 |_+1,_,h,a::l,e=>mv (h a) l (Nat.succ.inj e)
abbrev sX (x q:Str) (st:v2) (ps:List Str):Prop:=∀(kV c d:Tk) (a:Option WF) (b ct:Tk) (us:List Tk),us.length=ps.length->wV (fT x q (gG st) (fA st) (s1 st) .none kV c d a b ct) ⟨us,[]⟩=pure (ps.zip us)
theorem a'.gf (H:a' K x st) (X:K.In h) (G:h.Ns cS mg) (a:∀f fd,sB K x x st f fd->AC P w K mg base xL k f fd ps sp) (b:sX x x st ps:=by exact λ_ _ _ _ _ _=>mv (by(repeat intro);rfl)):Gf P w K mg base k x ps sp:=by
 obtain⟨f,e,j,m,kV,i,o,d,g,ct,n,l,c,kp⟩:=H;have F:=mJ (st:=st) l c kp;exact he f _ (a f _ F) (F.binds b) (ic X G e) kp
theorem aB.gm (H:aB K C x q st) (a:∀f fd,sB K x q st f fd->AC P w K mg base xL k f fd ps sp) (b:sX x q st ps:=by exact λ_ _ _ _ _ _=>mv (by(repeat intro);rfl)):Gm P w K mg base k C x ps sp:=by
 obtain⟨f,e,i,m,n,kV,j,p,d,g,ct,o,l,c,kp⟩:=H;have F:=mJ (st:=st) l c kp;exact IN f _ (a f _ F) (F.binds b) ⟨e,i,kp⟩
theorem aB.makes (H:aB K C "__init__" q st) {y:Str}(cl:ht K y C) (a:∀f fd,sB K "__init__" q st f fd->AC P w K mg base xL k f fd ps sp) (b:sX "__init__" q st ps:=by exact λ_ _ _ _ _ _=>mv (by(repeat intro);rfl)):∃f fd,Mk K C f/\AC P w K mg base xL k f fd ps sp/\Binds K fd ps []:=by
 obtain⟨f,e,i,m,n,kV,j,p,d,g,ct,o,l,c,kp⟩:=H;have F:=mJ (st:=st) l c kp;exact IN f _ ⟨cl.IG,e,i,cl.kp⟩ (a f _ F) (F.binds b)
theorem aW.con(H:aW K x i) (X:K.In h) (G:h.Ns cS mg):a_ mg x i:=by obtain⟨t,e⟩:=H;exact⟨t,ic X G e⟩
end
theorem aB.m{st:v2}{kV:Tk}(a:fS K (.ref C) x=some (some (.ref f))) (b:nV K (.ref f)=true) (l:K.lookup f=some ⟨h,i,.func (fT x q (gG st) (fA st) (s1 st) .none kV g n e d ct),j⟩) (c:lU K d q=true) (k:cV K (.ref f)=true):aB K C x q st:=zn f a b ⟨h,i,kV,g,n,e,d,ct,j,l,c,k⟩
theorem a'.m{st:v2}{kV:Tk}(a:i' K cS x=some (some (.ref f))) (l:K.lookup f=some ⟨g,h,.func (fT x x (gG st) (fA st) (s1 st) .none kV e j d b ct),i⟩) (c:lU K b x=true) (k:cV K (.ref f)=true):a' K x st:=Ix f a ⟨g,h,kV,e,j,d,b,ct,i,l,c,k⟩
theorem aW.m(e:i' K cS x=some (some (.int i t))):aW K x i:=⟨t,e⟩
theorem F0(l:K.lookup wd=some o) (x:o.ExactDict) (d:o.data=.dict es ep) (e:es.toList.map mE=a.map λx=>some (x.1,x.1,x.2)):mc K wd a:=nw o es ep l x d e
structure x4 (K:wf) (CN CP CS CL CG:WF):Prop where
 tL:ht K "Network" CN
 EK:ao K CN "changes"
 EO:ao K CN "runs"
 EN:ao K CN "origins"
 EL:ao K CN "departures"
 EM:ao K CN "footpaths"
 tM:ht K "Plan" CP
 ER:ao K CP "changes"
 EU:ao K CP "trips"
 EV:ao K CP "walks"
 ES:ao K CP "lateness"
 ET:ao K CP "networks"
 tN:ht K "Search" CS
 EZ:ao K CS "network"
 E4:ao K CS "taken"
 EW:ao K CS "arrivals"
 E3:ao K CS "rides"
 E2:ao K CS "ridden"
 E1:ao K CS "ready"
 E5:ao K CS "unboarded"
 EY:ao K CS "first_calls"
 EX:ao K CS "boardings"
 tK:ht K "Limits" CL
 EH:ao K CL "network"
 EJ:ao K CL "ridden"
 EI:ao K CL "ready"
 EG:ao K CL "first_calls"
 tJ:ht K "Guide" CG
 EE:ao K CG "goal"
 ED:ao K CG "arrival"
 EF:ao K CG "limits"
 IP:aB K CN "__init__" "Network.__init__" qI
 IM:aB K CN "add_run" "Network.add_run" p_
 Ko:aB K CP "__init__" "Plan.__init__" qL
 Kt:aB K CP "add_stop" "Plan.add_stop" p'
 Ku:aB K CP "add_trip" "Plan.add_trip" qa
 Kv:aB K CP "add_walk" "Plan.add_walk" qb
 Kp:aB K CP "tell_late" "Plan.tell_late" qW
 Kn:aB K CP "has_stop" "Plan.has_stop" qx
 Km:aB K CP "forward" "Plan.forward" qt
 Kq:aB K CP "mirrored" "Plan.mirrored" qH
 Ks:aB K CP "runs_around" "Plan.runs_around" qR
 Kr:aB K CP "run_of" "Plan.run_of" qQ
 LQ:aB K CS "__init__" "Search.__init__" qS
 LL:aB K CS "begin" "Search.begin" qf
 dJ:aB K CS "arrive" "Search.arrive" qe
 LP:aB K CS "get_on" "Search.get_on" j3
 LS:aB K CS "walk_on" "Search.walk_on" qY
 nt:aB K CS "take_ride" "Search.take_ride" qV
 LR:aB K CS "get_off" "Search.get_off" qw
 LN:aB K CS "ride_to_the_end" "Search.ride_to_the_end" qX
 H':aB K CL "__init__" "Limits.__init__" qD
 H_:aB K CL "can_board_at" "Limits.can_board_at" qh
 Ib:aB K CL "can_get_off_at" "Limits.can_get_off_at" qJ
 Ia:aB K CL "last_call_off" "Limits.last_call_off" qE
 GZ:aB K CG "__init__" "Guide.__init__" qv
 G2:aB K CG "can_walk_to" "Guide.can_walk_to" qZ
 GY:aB K CG "can_board" "Guide.can_board" qj
 G1:aB K CG "can_get_off" "Guide.can_get_off" qk
 Gv:a' K "mirrored_network" qG
 Gi:a' K "is_day" qy
 GA:a' K "can_run" ql
 GC:a' K "shifted" qU
 Gq:a' K "first_journey" qq
 GD:a' K "first_walk" qs
 Gy:a' K "first_ride" qr
 GF:a' K "worthwhile" q0
 Gn:a' K "minutes_on_foot" qK
 Gg:a' K "first_boardings" qp
 Gj:a' K "earliest" qn
 Gs:a' K "latest" qF
 Gp:a' K "front" qu
 Gx:a' K "profile" qM
 Gz:a' K "reach" qN
 Gr:a' K "journey" qC
 Ge:a' K "board" qg
 Gd:a' K "can_ask" qi
 Gu:a' K "is_minute" qz
 Gw:a' K "is_most" qA
 GB:a' K "searched" qT
 Gh:a' K "counted" qm
 Ga:a' K "answers" hS
 Gb:a' K "answer_of" qd
 F':a' K "answer_asked" qc
 HQ:aW K "OUT_OF_RANGE" (-2)
 Hz:aW K "CANNOT_RUN" (-4)
 HD:aW K "FULL" (-8)
 HP:aW K "NO_WAY" (-1)
 HV:aW K "TOO_MANY" (-3)
 HL:aW K "MOST_STOPS" 256
 HM:aW K "MOST_TRIPS" 1024
 HN:aW K "MOST_WALKS" 4096
 HH:aW K "MINUTES_OF_A_DAY" 1440
 HI:aW K "MINUTES_TOLD" 2880
 HA:aW K "DAYS_OF_A_WEEK" 7
 zM:aW K "NEVER" 1000000
 HZ:aW K "WALKED" (-1)
 HJ:aW K "MOST_RIDES_OF_FRONT" 8
 HK:aW K "MOST_ROWS" 4096
 HX:aW K "UNREACHED" (-1)
 HU:aW K "STOP" 1
 HW:aW K "TRIP" 2
 HY:aW K "WALK" 3
 HF:aW K "LATE" 4
 HB:aW K "EARLIEST" 5
 HG:aW K "LATEST" 6
 HC:aW K "FRONT" 7
 HR:aW K "PROFILE" 8
 HS:aW K "REACH" 9
 HE:aW K "JOURNEY" 10
 B7:jt K "len"
 B9:jt K "range"
 Nm:jt K "zip"
 B8:jt K "list"
 B_:jt K "sorted"
 Nl:jt K "min"
section
variable {P:fr}{w:g2}{K:wf}{mg:Str->Option Tk}{base h:s2}{CN CP CS CL CG wd fa:WF}
theorem E9(D:x4 K CN CP CS CL CG) (X:K.In h) (G:h.Ns cS mg) (Qb:i' K cS "WIDTHS"=some (some (.ref wd))) (Qh:mc K wd rE) (F:sB K "answers" "answers" hS f fd):AC P w K mg base xL 10 f fd ["calls"] (q9 K):=by
 have TS:bg K mg CS CN:=⟨D.tN.cls,D.EZ,D.E4,D.EW,D.E3,D.E2,D.E1,D.E5,D.EY,D.EX,D.tL.cls,D.EK,D.EO,D.EN,D.EL,D.EM,hc X G D.B9,hc X G D.B7⟩;have TP:bU K mg CP:=⟨D.tM.cls,D.ER,D.EU,D.EV,D.ES,D.ET,hc X G D.B7,hc X G D.B9,hc X G D.Nm,D.HQ.con X G,D.Hz.con X G,D.HD.con X G,D.HL.con X G,D.HM.con X G,D.HN.con X G,D.HH.con X G,D.HI.con X G,D.HA.con X G⟩;have a:eG mg:=⟨D.HP.con X G,D.HV.con X G,D.HX.con X G,D.HZ.con X G,D.zM.con X G,D.HJ.con X G,hc X G D.Nl,hc X G D.B8,hc X G D.B_⟩;have TA:oO mg:=⟨D.HU.con X G,D.HW.con X G,D.HY.con X G,D.HF.con X G,D.HB.con X G,D.HG.con X G,D.HC.con X G,D.HR.con X G,D.HS.con X G,D.HE.con X G⟩;have TL:fu K CL CG:=⟨D.tK.cls,D.EH,D.EJ,D.EI,D.EG,D.tJ.cls,D.EE,D.ED,D.EF⟩;have OU:=ic X G D.tL.ns;have Qx:=ic X G D.tM.ns;have o:=ic X G D.tN.ns;have Qw:=ic X G D.tK.ns;have Qv:=ic X G D.tJ.ns;have Qa:=D.zM.con X G;have zL:=hc X G D.B8;have zS:=hc X G D.B_;obtain⟨Q_,QK,Qy,P0,Qq,O5⟩:∃f fd,AC P w K mg base xL 1 f fd zaq (q_ CS CN)/\Binds K fd zaq []/\cf K CS "get_on" f/\sB K "get_on" "Search.get_on" j3 f fd:=by
  obtain⟨f,e,i,Rt,Ru,kV,Q0,Rw,Qz,QA,ct,Rv,l,c,kp⟩:=D.LP;have F:=mJ (st:=j3) l c kp;exact he f _ (Ai F TS) (F.binds (λ_ _ _ _ _ _=>mv (by(repeat intro);rfl))) ⟨e,i,kp⟩ F
 have OY:Gm P w K mg base 2 CS "arrive" zaf (nC CS CN):=D.dJ.gm λf fd F=>Jo F TS O5 P0 Qq;refine Do (id OY) λQ2 QC q t u=>?_;have PM:Gm P w K mg base 3 CS "walk_on" zad (rh CS CN):=D.LS.gm λf fd F=>J5 F TS q t u;refine Do (id PM) λRr QZ J OK OT=>?_;have Py:Gm P w K mg base 1 CS "get_off" zaa (vv CS CN):=D.LR.gm λf fd F=>JG F TS;refine Do (id Py) λRi QR Ph P6 Qs=>?_;have s:Gm P w K mg base 4 CS "take_ride" zaa (nE CS CN):=D.nt.gm λf fd F=>J2 F TS q t u J OK OT Ph P6 Qs;refine Do (id s) λRq QY Pm P_ Qu=>?_;have x:Gm P w K mg base 5 CS "ride_to_the_end" zaa (rg CS CN):=D.LN.gm λf fd F=>J4 F TS Pm P_ Qu;refine Do (id x) λQ7 QH Pb PX Qo=>?_;have p:Gm P w K mg base 4 CS "begin" zaj (nD CS CN):=D.LL.gm λf fd F=>Jq F TS q t u J OK OT;refine Do (id p) λQ3 QD O_ PU Qn=>?_;obtain⟨Rp,QX,m,k,n⟩:∃f fd,Mk K CS f/\AC P w K mg base xL 1 f fd zae (iW CS CN)/\Binds K fd zae []:=D.LQ.makes D.tN λf fd F=>JZ F TS Qa;have r:Gf P w K mg base 6 "searched" zah (lC CS CN):=D.GB.gf X G λf fd F=>J0 F TS o m k n O_ PU Qn Pb PX Qo;refine gl (id r) λRn QV H OJ ON OQ=>?_;have OW:Gm P w K mg base 1 CN "add_run" zas (vi CN):=D.IM.gm λf fd F=>Jh F TS;refine Do (id OW) λQ1 QB O9 PR Qm=>?_;obtain⟨Rh,QQ,N,C,OH⟩:∃f fd,Mk K CN f/\AC P w K mg base xL 2 f fd zak (rd CN)/\Binds K fd zak []:=D.IP.makes D.tL λf fd F=>JR F TS zL zS O9 PR Qm;have Pu:Gf P w K mg base 4 "mirrored_network" zat (vy CN):=D.Gv.gf X G λf fd F=>JP F TS OU N C OH;refine gl (id Pu) λRf QO Pf P4 Qe Qk=>?_;have O3:Gf P w K mg base 1 "is_day" ["day"] (ra):=D.Gi.gf X G λf fd F=>JI F TP;refine gl (id O3) λQ6 QG z U OM OP=>?_;have L:Gf P w K mg base 1 "is_minute" zao (rb):=D.Gu.gf X G λf fd F=>JJ F TP;refine gl (id L) λRc QN GMI P2 Qd Qj=>?_;have j:Gf P w K mg base 1 "is_most" zai (j6):=D.Gw.gf X G λf fd F=>JK F (D.HK.con X G);have Pn:Gm P w K mg base 1 CP "has_stop" zal (q' CP CN):=D.Kn.gm λf fd F=>JH F TP;refine Do (id Pn) λRa QL A Y OR=>?_;have b:Gf P w K mg base 2 "can_ask" zac (hW CP CN):=D.Gd.gf X G λf fd F=>Jt F TP A Y OR z U OM OP GMI P2 Qd Qj;refine gl (id b) λQ4 QE y T OL OO=>?_;obtain⟨Rj,QS,Pw,Pj,P7⟩:∃f fd,Mk K CP f/\AC P w K mg base xL 1 f fd zaa (vB CP CN)/\Binds K fd zaa []:=D.Ko.makes D.tM λf fd F=>JU F TP;have ST:Gm P w K mg base 1 CP "add_stop" zau (hX CP CN kJ 1):=D.Kt.gm λf fd F=>Ji F TP;have CR:Gf P w K mg base 1 "can_run" zax (vo):=D.GA.gf X G λf fd F=>Jw F TP;refine gl (id CR) λQ5 QF Pa PV Qc Qi=>?_;have PK:Gm P w K mg base 2 CP "add_trip" zaE (vE CP CN):=D.Ku.gm λf fd F=>Jj F TP Pa PV Qc Qi;have PL:Gm P w K mg base 2 CP "add_walk" zav (hX CP CN kK 3):=D.Kv.gm λf fd F=>Jk F TP A Y OR;have LT:Gm P w K mg base 2 CP "tell_late" zaw (hX CP CN kI 4):=D.Kp.gm λf fd F=>J3 F TP z U OM OP;have PJ:Gf P w K mg base 1 "shifted" zay (vD):=D.GC.gf X G λf fd F=>J1 F;refine gl (id PJ) λRo QW Pl P9 Qg Ql=>?_;have PH:Gm P w K mg base 2 CP "run_of" zaz (vC CP CN):=D.Kr.gm λf fd F=>JX F TP Pl P9 Qg Ql;refine Do (id PH) λRm QU Pk P8 Qt=>?_;have PD:Gm P w K mg base 3 CP "runs_around" zab (rf CP CN):=D.Ks.gm λf fd F=>JY F TP Pk P8 Qt;refine Do (id PD) λRl QT E OI OS=>?_;have d:Gm P w K mg base 4 CP "forward" zab (fM CP CN hx):=D.Km.gm λf fd F=>JD F TP E OI OS OU N C OH;refine Do (id d) λQ8 QI Pc PY Qp=>?_;have Q:Gm P w K mg base 5 CP "mirrored" zab (fM CP CN me):=D.Kq.gm λf fd F=>JQ F TP E OI OS Pf P4 Qe Qk;refine Do (id Q) λRg QP Pg P5 Qr=>?_;have g:Gf P w K mg base 1 "counted" zam (j5):=D.Gh.gf X G λf fd F=>Jx F TP a;have O4:Gf P w K mg base 7 "earliest" zac (cI CP CN iA 4):=D.Gj.gf X G λf fd F=>Jy F TP a TS y T OL OO Pc PY Qp H OJ ON OQ;have Pp:Gf P w K mg base 7 "latest" zac (cI CP CN iD 4):=D.Gs.gf X G λf fd F=>JO F TP a TS y T OL OO Pg P5 Qr H OJ ON OQ;have FR:Gf P w K mg base 7 "front" zan (cI CP CN iB 5):=D.Gp.gf X G λf fd F=>JE F TP a TS o m k n b j d p s g;have Pz:Gf P w K mg base 1 "minutes_on_foot" zaH (vA CN):=D.Gn.gf X G λf fd F=>JT F a TS;have FB:Gf P w K mg base 1 "first_boardings" zaI (vp CN):=D.Gg.gf X G λf fd F=>Jz F a TS;have PQ:Gf P w K mg base 6 "worthwhile" zaJ (vG CN):=D.GF.gf X G λf fd F=>J7 F a TS o m k n Pz FB x;have PB:Gf P w K mg base 7 "profile" zaA (cI CP CN iE 6):=D.Gx.gf X G λf fd F=>JV F TP b L j d PQ g;have PF:Gf P w K mg base 7 "reach" zaF (cI CP CN iF 4):=D.Gz.gf X G λf fd F=>JW F TP a TS b j d r g;have O0:Gf P w K mg base 7 "board" zaG (cI CP CN iz 4):=D.Ge.gf X G λf fd F=>Js F TP a TS b j d g;have OZ:Gm P w K mg base 1 CL "can_board_at" zad (vl CL):=D.H_.gm λf fd F=>Jr F TL;have Px:Gm P w K mg base 1 CL "can_get_off_at" zad (vz CL):=D.Ib.gm λf fd F=>JS F TL;have Pq:Gm P w K mg base 1 CL "last_call_off" zaK (vx CL CN):=D.Ia.gm λf fd F=>JN F TL TS;have PN:Gm P w K mg base 2 CG "can_walk_to" zag (vF CL CG CN):=D.G2.gm λf fd F=>J6 F TL OZ;have O1:Gm P w K mg base 2 CG "can_board" zaB (vm CL CG CN):=D.GY.gm λf fd F=>Ju F TL Pq;have O2:Gm P w K mg base 2 CG "can_get_off" zag (vn CL CG CN):=D.G1.gm λf fd F=>Jv F TL Px;obtain⟨Rb,QM,Pt,Pe,P1⟩:∃f fd,Mk K CL f/\AC P w K mg base xL 1 f fd zap (vw CL CS CN)/\Binds K fd zap []:=D.H'.makes D.tK λf fd F=>JM F TL TS a;obtain⟨Q9,QJ,Pr,Pd,PZ⟩:∃f fd,Mk K CG f/\AC P w K mg base xL 5 f fd zar (vu CL CG CN)/\Binds K fd zar []:=D.GZ.makes D.tJ λf fd F=>JF F TL TS o m k n Qw Pt Pe P1 p s;have O8:Gf P w K mg base 3 "first_walk" zaL (vt CL CG CN):=D.GD.gf X G λf fd F=>JC F TL TS a PN;have O7:Gf P w K mg base 3 "first_ride" zaM (vr CL CG CN):=D.Gy.gf X G λf fd F=>JB F TL TS a O1 O2;have O6:Gf P w K mg base 4 "first_journey" zaN (vq CL CG CN):=D.Gq.gf X G λf fd F=>JA F TL TS O8 O7;have Po:Gf P w K mg base 7 "journey" zan (cI CP CN iC 5):=D.Gr.gf X G λf fd F=>JL F TP a TS Qv Pr Pd PZ b j d Q r O6 g;have OV:Gf P w K mg base 8 "answer_asked" zaC (vk CP CN):=D.F'.gf X G λf fd F=>Jp F TA O4 Pp FR PB PF Po O0;have OX:Gf P w K mg base 9 "answer_of" zaD (vj CP CN):=D.Gb.gf X G λf fd F=>Jl F TP TA ST PK PL LT OV;exact Jm F TP TA Qx Pw Pj P7 (ic X G Qb) Qh OX
theorem all_mk (D:x4 K CN CP CS CL CG) (X:K.In h) (G:h.Ns cS mg) (j:mg "answers"=some (.ref fa)) (g:i' K cS "WIDTHS"=some (some (.ref wd))) (i:mc K wd rE):
  ∃fd:lP,(∀(s:Go) (v:Tk),nQ s fd ⟨[v],[]⟩ [("calls",v)])/\∀base:s2,K.In base->base.Ns cS mg->AC P w K mg base xL 10 fa fd ["calls"] (q9 K):=by
 obtain⟨f,e,m,n,kV,d,k,a,b,ct,o,l,c,kp⟩:=D.Ga;have q:=j.symm.trans (ic X G e);cases q;exact Ix (fT "answers" "answers" (gG hS) (fA hS) (s1 hS) .none kV d k a b ct) (λs v=>.of_eq rfl) (λbase _ _=>E9 D X G g i (mJ (st:=hS) l c kp))
end
noncomputable def zE (P:nR) (k:String) (t:Nat) (v:Tk):g_:=⟨PyData.keyHash P (b3 k),.str (b3 k) t,v⟩
noncomputable def rH:Tk:=.str (b3 "timeways.network") 187
noncomputable def eR:Tk:=.str (b3 "timeways.plan") 253
noncomputable def h5:Tk:=.str (b3 "timeways.search") 424
noncomputable def fe:Tk:=.str (b3 "timeways.legs") 539
noncomputable def v9:Tk:=.str (b3 "timeways.profiles") 723
noncomputable def fQ:Tk:=.str (b3 "timeways.questions") 766
noncomputable def rJ:Tk:=.str (b3 "timeways.timetable") 901
noncomputable def zF (n q:String) (st:v2) (m:Tk) (c:Nat):Obj:=⟨.type "function",none,.func (fT (b3 n) (b3 q) (gG st) (fA st) (s1 st) .none .none .none m none (.ref c) .none),#[]⟩
noncomputable def zC (n q:String) (a l k:Nat) (r s x y z u:Tk) (i:Nat):Obj:=⟨.type "code",none,.fields #[.str (b3 n) a,.str (b3 q) (a+1),.str (b3 "/claim/cut.py") (a+2),.int l 0,.int k 0,.int 0 0,.int 0 0,.int 3 0,r,.bool true,.int 181 0,s,x,y,z,u,.int i 0,.int l 0,.str (b3 "/claim/cut.py") (i+1)],#[]⟩
noncomputable def zc (n q:String) (b a l k i:Nat):Obj:=zC n q a l k (.ref (b-5)) (.ref (b-4)) .none (.ref (b-3)) (.ref (b-2)) (.ref (b-1)) i
noncomputable def zd (n q:String) (b a l k i:Nat):Obj:=zC n q a l k (.ref (b-3)) (.ref (b-2)) .none .none .none (.ref (b-1)) i
noncomputable def zR (P:nR) (k:String) (t a:Nat):g_:=zE P k t (.ref a)
noncomputable def zI (P:nR) (k:String) (t:Nat) (i:Int):g_:=zE P k t (.int i (t-1))
noncomputable def zL (n:String) (a d s t:Nat):Obj:=⟨.type "type",none,.cls ⟨b3 n,[.type "object"],[.ref a,.type "object"],d,b3 n,true,[],[],false,none,false⟩,#[none,none,some (.str (b3 n) s),some (.str (b3 n) t),some (.builtin "object.__new__"),some (.bool true)]⟩
noncomputable def zK (P:nR):wf:=
(nat_lit 3,⟨.type "dict",none,.dict #[zE P "__name__" 165 rJ,zE P "__doc__" 166 .none,zE P "__package__" 167 .none,zE P "__loader__" 168 (.builtin "__main__.__loader__#opaque"),zE P "__spec__" 169 .none,zR P "__annotations__" 170 6,zR P "__builtins__" 171 4,zE P "__file__" 173 (.str (b3 "/claim/cut.py") 172),zE P "__cached__" 174 .none,zR P "Network" 231 36,zR P "mirrored_network" 237 45,zI P "OUT_OF_RANGE" 240 (-2),zI P "CANNOT_RUN" 243 (-4),zI P "FULL" 246 (-8),zI P "NO_WAY" 249 (-1),zI P "TOO_MANY" 252 (-3),zI P "MOST_STOPS" 256 256,zI P "MOST_TRIPS" 258 1024,zI P "MOST_WALKS" 260 4096,zI P "MINUTES_OF_A_DAY" 262 1440,zI P "MINUTES_TOLD" 264 2880,zI P "DAYS_OF_A_WEEK" 266 7,zR P "Plan" 396 125,zR P "is_day" 403 136,zR P "can_run" 417 143,zR P "shifted" 423 148,zI P "NEVER" 427 1000000,zR P "Search" 538 212,zI P "WALKED" 543 (-1),zR P "Limits" 603 254,zR P "Guide" 669 296,zR P "first_journey" 687 307,zR P "first_walk" 701 314,zR P "first_ride" 722 321,zR P "worthwhile" 742 328,zR P "minutes_on_foot" 754 335,zR P "first_boardings" 765 342,zI P "MOST_RIDES_OF_FRONT" 769 8,zI P "MOST_ROWS" 771 4096,zI P "UNREACHED" 774 (-1),zR P "earliest" 786 349,zR P "latest" 798 356,zR P "front" 814 363,zR P "profile" 827 370,zR P "reach" 833 375,zR P "journey" 849 382,zR P "board" 855 387,zR P "can_ask" 866 394,zR P "is_minute" 873 401,zR P "is_most" 880 408,zR P "searched" 890 415,zR P "counted" 900 422,zI P "STOP" 904 1,zI P "TRIP" 906 2,zI P "WALK" 908 3,zI P "LATE" 910 4,zI P "EARLIEST" 912 5,zI P "LATEST" 914 6,zI P "FRONT" 916 7,zI P "PROFILE" 918 8,zI P "REACH" 920 9,zI P "JOURNEY" 922 10,zR P "WIDTHS" 956 423,zR P "answers" 971 430,zR P "answer_of" 981 437,zR P "answer_asked" 990 444] 66,#[]⟩)::
(nat_lit 25,zd "__init__" "Network.__init__" 25 201 4 4 204)::
(nat_lit 26,zF "__init__" "Network.__init__" qI rH 25)::
(nat_lit 32,zc "add_run" "Network.add_run" 32 207 18 4 216)::
(nat_lit 33,zF "add_run" "Network.add_run" p_ rH 32)::
(nat_lit 35,⟨.type "dict",none,.dict #[zE P "__module__" 196 rH,zI P "__firstlineno__" 200 2,zR P "__init__" 206 26,zR P "add_run" 218 33,zR P "__static_attributes__" 224 34,zR P "__dict__" 226 37,zR P "__weakref__" 228 38,zE P "__doc__" 229 .none] 4,#[]⟩)::
(nat_lit 36,zL "Network" 36 35 189 197)::
(nat_lit 44,zd "mirrored_network" "mirrored_network" 44 232 23 3 235)::
(nat_lit 45,zF "mirrored_network" "mirrored_network" qG rH 44)::
(nat_lit 58,zc "__init__" "Plan.__init__" 58 279 45 1 283)::
(nat_lit 59,zF "__init__" "Plan.__init__" qL eR 58)::
(nat_lit 65,zc "add_stop" "Plan.add_stop" 65 286 52 2 291)::
(nat_lit 66,zF "add_stop" "Plan.add_stop" p' eR 65)::
(nat_lit 72,zc "add_trip" "Plan.add_trip" 72 294 61 3 303)::
(nat_lit 73,zF "add_trip" "Plan.add_trip" qa eR 72)::
(nat_lit 79,zc "add_walk" "Plan.add_walk" 79 306 75 4 313)::
(nat_lit 80,zF "add_walk" "Plan.add_walk" qb eR 79)::
(nat_lit 86,zc "tell_late" "Plan.tell_late" 86 316 84 5 324)::
(nat_lit 87,zF "tell_late" "Plan.tell_late" qW eR 86)::
(nat_lit 93,zc "has_stop" "Plan.has_stop" 93 327 93 2 332)::
(nat_lit 94,zF "has_stop" "Plan.has_stop" qx eR 93)::
(nat_lit 100,zc "forward" "Plan.forward" 100 335 96 2 341)::
(nat_lit 101,zF "forward" "Plan.forward" qt eR 100)::
(nat_lit 107,zc "mirrored" "Plan.mirrored" 107 344 102 2 350)::
(nat_lit 108,zF "mirrored" "Plan.mirrored" qH eR 107)::
(nat_lit 114,zc "runs_around" "Plan.runs_around" 114 353 108 2 362)::
(nat_lit 115,zF "runs_around" "Plan.runs_around" qR eR 114)::
(nat_lit 121,zc "run_of" "Plan.run_of" 121 365 117 4 381)::
(nat_lit 122,zF "run_of" "Plan.run_of" qQ eR 121)::
(nat_lit 124,⟨.type "dict",none,.dict #[zE P "__module__" 274 eR,zI P "__firstlineno__" 278 43,zR P "__init__" 285 59,zR P "add_stop" 293 66,zR P "add_trip" 305 73,zR P "add_walk" 315 80,zR P "tell_late" 326 87,zR P "has_stop" 334 94,zR P "forward" 343 101,zR P "mirrored" 352 108,zR P "runs_around" 364 115,zR P "run_of" 383 122,zR P "__static_attributes__" 389 123,zR P "__dict__" 391 126,zR P "__weakref__" 393 127,zE P "__doc__" 394 .none] 4,#[]⟩)::
(nat_lit 125,zL "Plan" 125 124 267 275)::
(nat_lit 135,zc "is_day" "is_day" 135 397 124 1 401)::
(nat_lit 136,zF "is_day" "is_day" qy eR 135)::
(nat_lit 142,zc "can_run" "can_run" 142 404 126 4 415)::
(nat_lit 143,zF "can_run" "can_run" ql eR 142)::
(nat_lit 147,zd "shifted" "shifted" 147 418 133 4 421)::
(nat_lit 148,zF "shifted" "shifted" qU eR 147)::
(nat_lit 159,zd "__init__" "Search.__init__" 159 440 139 2 443)::
(nat_lit 160,zF "__init__" "Search.__init__" qS h5 159)::
(nat_lit 166,zc "begin" "Search.begin" 166 446 151 3 452)::
(nat_lit 167,zF "begin" "Search.begin" qf h5 166)::
(nat_lit 173,zc "arrive" "Search.arrive" 173 455 155 4 462)::
(nat_lit 174,zF "arrive" "Search.arrive" qe h5 173)::
(nat_lit 180,zc "get_on" "Search.get_on" 180 465 163 3 473)::
(nat_lit 181,zF "get_on" "Search.get_on" j3 h5 180)::
(nat_lit 187,zc "walk_on" "Search.walk_on" 187 476 171 3 485)::
(nat_lit 188,zF "walk_on" "Search.walk_on" qY h5 187)::
(nat_lit 194,zc "take_ride" "Search.take_ride" 194 488 175 1 495)::
(nat_lit 195,zF "take_ride" "Search.take_ride" qV h5 194)::
(nat_lit 201,zc "get_off" "Search.get_off" 201 498 184 1 512)::
(nat_lit 202,zF "get_off" "Search.get_off" qw h5 201)::
(nat_lit 208,zc "ride_to_the_end" "Search.ride_to_the_end" 208 515 199 1 519)::
(nat_lit 209,zF "ride_to_the_end" "Search.ride_to_the_end" qX h5 208)::
(nat_lit 211,⟨.type "dict",none,.dict #[zE P "__module__" 435 h5,zI P "__firstlineno__" 439 137,zR P "__init__" 445 160,zR P "begin" 454 167,zR P "arrive" 464 174,zR P "get_on" 475 181,zR P "walk_on" 487 188,zR P "take_ride" 497 195,zR P "get_off" 514 202,zR P "ride_to_the_end" 521 209,zR P "__static_attributes__" 531 210,zR P "__dict__" 533 213,zR P "__weakref__" 535 214,zE P "__doc__" 536 .none] 4,#[]⟩)::
(nat_lit 212,zL "Search" 212 211 428 436)::
(nat_lit 229,zc "__init__" "Limits.__init__" 229 556 206 2 561)::
(nat_lit 230,zF "__init__" "Limits.__init__" qD fe 229)::
(nat_lit 236,zc "can_board_at" "Limits.can_board_at" 236 564 212 3 570)::
(nat_lit 237,zF "can_board_at" "Limits.can_board_at" qh fe 236)::
(nat_lit 243,zc "can_get_off_at" "Limits.can_get_off_at" 243 573 215 3 579)::
(nat_lit 244,zF "can_get_off_at" "Limits.can_get_off_at" qJ fe 243)::
(nat_lit 250,zc "last_call_off" "Limits.last_call_off" 250 582 218 2 589)::
(nat_lit 251,zF "last_call_off" "Limits.last_call_off" qE fe 250)::
(nat_lit 253,⟨.type "dict",none,.dict #[zE P "__module__" 551 fe,zI P "__firstlineno__" 555 204,zR P "__init__" 563 230,zR P "can_board_at" 572 237,zR P "can_get_off_at" 581 244,zR P "last_call_off" 591 251,zR P "__static_attributes__" 596 252,zR P "__dict__" 598 255,zR P "__weakref__" 600 256,zE P "__doc__" 601 .none] 4,#[]⟩)::
(nat_lit 254,zL "Limits" 254 253 544 552)::
(nat_lit 271,zc "__init__" "Guide.__init__" 271 616 223 5 626)::
(nat_lit 272,zF "__init__" "Guide.__init__" qv fe 271)::
(nat_lit 278,zc "can_walk_to" "Guide.can_walk_to" 278 629 233 4 636)::
(nat_lit 279,zF "can_walk_to" "Guide.can_walk_to" qZ fe 278)::
(nat_lit 285,zc "can_board" "Guide.can_board" 285 639 238 4 646)::
(nat_lit 286,zF "can_board" "Guide.can_board" qj fe 285)::
(nat_lit 292,zc "can_get_off" "Guide.can_get_off" 292 649 241 4 656)::
(nat_lit 293,zF "can_get_off" "Guide.can_get_off" qk fe 292)::
(nat_lit 295,⟨.type "dict",none,.dict #[zE P "__module__" 611 fe,zI P "__firstlineno__" 615 221,zR P "__init__" 628 272,zR P "can_walk_to" 638 279,zR P "can_board" 648 286,zR P "can_get_off" 658 293,zR P "__static_attributes__" 662 294,zR P "__dict__" 664 297,zR P "__weakref__" 666 298,zE P "__doc__" 667 .none] 4,#[]⟩)::
(nat_lit 296,zL "Guide" 296 295 604 612)::
(nat_lit 306,zc "first_journey" "first_journey" 306 670 243 5 685)::
(nat_lit 307,zF "first_journey" "first_journey" qq fe 306)::
(nat_lit 313,zc "first_walk" "first_walk" 313 688 265 5 699)::
(nat_lit 314,zF "first_walk" "first_walk" qs fe 313)::
(nat_lit 320,zc "first_ride" "first_ride" 320 702 270 5 720)::
(nat_lit 321,zF "first_ride" "first_ride" qr fe 320)::
(nat_lit 327,zc "worthwhile" "worthwhile" 327 725 283 5 740)::
(nat_lit 328,zF "worthwhile" "worthwhile" q0 v9 327)::
(nat_lit 334,zc "minutes_on_foot" "minutes_on_foot" 334 743 299 2 752)::
(nat_lit 335,zF "minutes_on_foot" "minutes_on_foot" qK v9 334)::
(nat_lit 341,zc "first_boardings" "first_boardings" 341 755 304 2 763)::
(nat_lit 342,zF "first_boardings" "first_boardings" qp v9 341)::
(nat_lit 348,zc "earliest" "earliest" 348 775 314 5 784)::
(nat_lit 349,zF "earliest" "earliest" qn fQ 348)::
(nat_lit 355,zc "latest" "latest" 355 787 321 5 796)::
(nat_lit 356,zF "latest" "latest" qF fQ 355)::
(nat_lit 362,zc "front" "front" 362 799 328 6 812)::
(nat_lit 363,zF "front" "front" qu fQ 362)::
(nat_lit 369,zc "profile" "profile" 369 815 342 7 825)::
(nat_lit 370,zF "profile" "profile" qM fQ 369)::
(nat_lit 374,zd "reach" "reach" 374 828 346 5 831)::
(nat_lit 375,zF "reach" "reach" qN fQ 374)::
(nat_lit 381,zc "journey" "journey" 381 834 352 6 847)::
(nat_lit 382,zF "journey" "journey" qC fQ 381)::
(nat_lit 386,zd "board" "board" 386 850 362 5 853)::
(nat_lit 387,zF "board" "board" qg fQ 386)::
(nat_lit 393,zc "can_ask" "can_ask" 393 856 372 5 864)::
(nat_lit 394,zF "can_ask" "can_ask" qi fQ 393)::
(nat_lit 400,zc "is_minute" "is_minute" 400 867 374 1 871)::
(nat_lit 401,zF "is_minute" "is_minute" qz fQ 400)::
(nat_lit 407,zc "is_most" "is_most" 407 874 376 1 878)::
(nat_lit 408,zF "is_most" "is_most" qA fQ 407)::
(nat_lit 414,zc "searched" "searched" 414 881 378 3 888)::
(nat_lit 415,zF "searched" "searched" qT fQ 414)::
(nat_lit 421,zc "counted" "counted" 421 891 383 2 898)::
(nat_lit 422,zF "counted" "counted" qm fQ 421)::
(nat_lit 423,⟨.type "dict",none,.dict #[⟨1,.int 1 923,.int 1 924⟩,⟨2,.int 2 925,.int 1 926⟩,⟨3,.int 3 927,.int 3 928⟩,⟨4,.int 4 929,.int 4 930⟩,⟨5,.int 5 931,.int 4 932⟩,⟨6,.int 6 933,.int 4 934⟩,⟨7,.int 7 935,.int 5 936⟩,⟨8,.int 8 937,.int 6 938⟩,⟨9,.int 9 939,.int 4 940⟩,⟨10,.int 10 941,.int 5 942⟩,⟨11,.int 11 943,.int 4 944⟩] 11,#[]⟩)::
(nat_lit 429,zc "answers" "answers" 429 957 402 1 969)::
(nat_lit 430,zF "answers" "answers" hS rJ 429)::
(nat_lit 436,zc "answer_of" "answer_of" 436 972 419 4 979)::
(nat_lit 437,zF "answer_of" "answer_of" qd rJ 436)::
(nat_lit 443,zc "answer_asked" "answer_asked" 443 982 429 3 988)::
(nat_lit 444,zF "answer_asked" "answer_asked" qc rJ 443)::[]
def zA:List WF:=[3,25,26,32,33,35,36,44,45,58,59,65,66,72,73,79,80,86,87,93,94,100,101,107,108,114,115,121,122,124,125,135,136,142,143,147,148,159,160,166,167,173,174,180,181,187,188,194,195,201,202,208,209,211,212,229,230,236,237,243,244,250,251,253,254,271,272,278,279,285,286,292,293,295,296,306,307,313,314,320,321,327,328,334,335,341,342,348,349,355,356,362,363,369,370,374,375,381,382,386,387,393,394,400,401,407,408,414,415,421,422,423,429,430,436,437,443,444]
end Dv
open PySem PySem.W PyProof.Rows
noncomputable def Dv.zV:fr:= {oc with main:= {oc.main with body:=[49,33,29,22,19,8,0].foldl (·.eraseIdx ·) oc.main.body}}
theorem Dv.ka:∀P,Dv.zA=(Dv.zK P).map (·.1):=λ_=>by kernel_rfl
theorem Dv.zp:LeftO oc Dv.zV [b3 "WIDTHS"] (λs=>xlAt Dv.zV [] s&&recOk [] s) (Hook.obs (nW Dv.zK Dv.zA Dv.ka)) (Hook.val (nW Dv.zK Dv.zA Dv.ka)) 6600:=LeftO.of_split "special-get-raises" (λw=>by kernel_rfl)
theorem PySem.Challenge.cw_timeways_s01_answers_holds : PySem.Challenge.rw_timeways_s01_answers.Holds := by
 refine holds_os (q:=Dv.zV) (XP:=XL Dv.zV []) (YP:=Hook.says (nW Dv.zK Dv.zA Dv.ka)) Dv.zp (Hook.of (nW Dv.zK Dv.zA Dv.ka)) (Hook.keeps (nW Dv.zK Dv.zA Dv.ka)) (λs e=>xl_of s (DE.mp e).1) XL.keeps (by rfl) (by rfl) (by rfl) (λs e=>recFacts_of (DE.mp e).2) os_shapes (by decide +kernel) (by decide +kernel) ⟨rfl,rfl,rfl,rfl,rfl,by decide +kernel⟩ ?hw ?n
 case hw=>exact⟨[.list []],by decide +kernel,by decide +kernel⟩
 k_fillS
 refine L2.Nd (k:=10) (x:="calls") (sp:=λK=>Dv.q9 K) (by decide +kernel) (by decide) rfl ⟨rfl,by decide,by decide⟩ (λw h Y=>NY Y) ?F (λK H a ns f j d i c=>⟨a,ns,rfl,c,f,d,λI l e=>⟨l,rfl,e⟩⟩)
 intro w mg fa h b G g
 refine' Dv.all_mk (.mk ..) b G g ?_ (Dv.F0 ..)
 iterate 3 try any_goals first|k_is|(delta L2.ao;k_is)|(delta Dv.jt;k_is)|refine' .m .. |refine' Dv.ht.mk ..
 any_goals first|exact⟨rfl,rfl,rfl⟩|rfl