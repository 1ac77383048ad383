import PyProof.Rows.All
import Wide.All
import OpenK.AllK
import Wide.FinOn
import PyProof.EqAt
import PyProof.EqKinds
import PyProof.TupleCall
import KE.BitLaws
import PyProof.ZipIter
import KE.KSortTupG
import KE.OsGo
import Open.SpecLaws
import PyProof.Rows.SortG.SortRunsSt
import PyProof.Sound
import KE.KRevSl
import PyProof.AutoSeq1
import PySem.Challenge.RW_timeways_s01_answers
set_option Elab.async false
set_option linter.all false
set_option maxRecDepth 100000
set_option maxHeartbeats 0
open PySem.EqMixed renaming eq_bool_str->M',eq_str_bool->Na,ne_bool_str->Nb,ne_str_bool->Nc,eq_int_str->Nd,eq_str_int->Nf,ne_int_str->Ng,ne_str_int->Nh
open PySem.EqNone renaming eq_none_none->MW,eq_none_bool->MX,eq_bool_none->MY,ne_none_none->MZ,ne_none_bool->M0,ne_bool_none->M1,eq_none_int->M3,eq_none_str->M4,eq_int_none->M5,eq_str_none->M6,ne_none_int->M7,ne_none_str->M8,ne_int_none->M9,ne_str_none->M_
open StateT renaming run_pure->Dn,run_bind->Dp,run_lift->Dq,run_get->Ds
open Function renaming comp->w5
open Pure renaming pure->nr
open Sg45.Trip renaming lateOn->w2,comes->w3,goes->w4,stopAt->Dm,runs->MV
open PySem.Builtin.Dict renaming showsAll->Dl,dictSlotNone->MT,noArgs->MU
open Array.Perm renaming refl->w1
open List.Perm renaming of_eq->w0
open PySem.Str renaming ofString->qY,empty->Dk
open PySem.Heap.IsList renaming push->wZ
open Classical renaming byContradiction->Dj
open PySem.Sem renaming wp_pure'->nq,wp->gT,wp_bind'->wX,wp_mono->wY
open PySem.Around renaming under_plainId->wV,under->wW
open Prod.mk renaming injEq->nk
open List.Nodup renaming length_le_of_subset->Di
open PySem.Builtin renaming iter->bo,bitAnd->qX,globals->wU
open PySem.Calls renaming callWith_builtin->wQ,Name_function_global->Df,spliced_cons->wR,evalArgs_plain->Dg,spliced_nil->Dh
open PySem.Builtin.Range renaming rangeSize->wO,small->MS
open ForInStep renaming yield->nj
open PySem.NameKind renaming free->lx,cell->wN
open PySem.Heap.SameBut renaming update->qW
open PySem.Obj renaming mapSeq->gR,data_mapDictKeys->wM,isFreed_of_dict->C',data_mapFields->Dc,mapDictKeys->Dd,mapFields->De
open PyFlat renaming calls->iV,rows->ni,played->C7,call->C8,told->C9,row->C_
open PyProof.Rows.G renaming tupKindC->gc,tupKeyC->gQ,sortHeap6->lu,isTupObj->C6
open List.cons renaming injEq->jW
open Array renaming mem_toList_iff->lr,perm_iff_toList_perm->wK,getElem?_eq_getElem->wL,length_toList->qV,getElem_toList->C3,toList_map->C4,toList->C5
open PySg45 renaming shape->fI,whole->lq,answers_asked->wJ,answers->qU
open PyProof.Rows renaming SortSt->aL,callWith_type1->ng,IntsAre->cn,Keyed->aE,boot_list->qN,boot_min->wA,pairsOf->gb,sortedAll_old->CV,sortedAll_at->CW,subscriptTail->qO,boot_sorted->CY,SortedToK->lp,AllBare->iS,subscriptTail_builtinR->CZ,pairsOf_size->qP,envOfC->hO,pairsOf_toList->wB,tuples'->jV,listUpdate_at->wC,Subscript_->qQ,seqObj->iT,failedOf->nh,callWith_builtin1->MQ,seqEpoch_at->wD,iadd_int->C0,IsTup->iU,boot_range->wF,SortKind->qR,size_push'->wG,lt_int->C1,bitAnd_m1->MR,isTrue_and->C2,TupsOf->qS,itemOrd->wH,Call_->qT,keyLt'->wI
open False renaming elim->d3
open PySem.Builtin.SmallTypes renaming ownedTupleIsFree->qL,nextOf->qM,ownedTupleHandOut->CU
open PySem.Builtin.List renaming listTooLong->ll,listFitsIndex->MP
open Sum renaming inl->it,inr->iR
open Int renaming toNat_natCast->d2,toNat_of_nonneg->e1,neg_neg->dG,le_refl->e2,fdiv_eq_ediv_of_nonneg->CO,natCast_nonneg->CQ,le_trans->wz,add_zero->CT
open Sg45Neutral renaming nats->cA,step->lj,asked1->wy,whole32->CJ,natural->CK,callOf->CM,asked->MO
open PySem.Value renaming ref->f8,int->hN,isInt->qJ,bool->qK,isStrOf->CD,bytes->CF,float->CH,type->CI
open Option.some renaming inj->bT,injEq->gO
open Option renaming toList_some->cz,map_some->hM,bind_some->qI,isSome_iff_exists->Cu,getD_some->wx,map_eq_none_iff->Cv,map_eq_some_iff->Cw,isSome_some->Cy,isSome_map->Cz,getD_none->CA,any_none->CB,any_some->CC
open PySem.PassesOwn renaming never->bD
open PySem.F renaming plainAttrs_list->b8,slot_list_append->cV,type_list_append->cW,plainAttrs_dict->m',slot_dict_clear->nc,type_dict_clear->qH,slot_dict_get->wu,slot_dict_getitem->Cp,slot_list_extend->Cq,type_list_extend->Cr,args_dict_get_3->Cs,entry_dict_get->Ct,args_dict_clear_1->ME,slot_list_reverse->MF,type_list_reverse->MG,entry_dict_clear->MH,args_tuple_lt_2->MI,entry_tuple_lt->MJ,slot_tuple_lt->MK,type_dict_get->ML,slot_list_pop->MM,type_list_pop->MN
open Bool renaming and_eq_true->ga,false_ne_true->b2,true_eq_false->cU,false_eq_true->fF,or_eq_true->gN,eq_false_or_eq_true->qF,and_false->m9,true_and->m_,eq_iff_iff->qG,not_eq_true->wo,false_and->wq,and_true->wt,false_or->Co
open Or renaming inl->IN,inr->dE
open Nat renaming le_refl->t1,zero_le->g1,lt_of_lt_of_le->cT,ne_of_lt->b1,le_trans->dg,le_of_lt->d1,lt_irrefl->gM,min_eq_left->jT,lt_succ_of_lt->lh,le_succ->hL,lt_of_lt_of_eq->m7,le_of_eq->jU,le_of_succ_le->qB,lt_succ_self->qC,add_sub_cancel->wh,lt_of_le_of_lt->wi,zero_add->qD,ne_of_gt->qE,not_lt_zero->wj,lt_trichotomy->Ck,min_eq_right->Cm,succ_le_succ->Cn,le_zero->wm
open Sg45 renaming does->EQ,within->u8,Table->Go,instances->v2,before->fr,arrivals->az,says->bC,asked->bS,Call->b0,Trip->cr,follow->cd,numbers->bK,empty->dZ,stopOk->eF,rides->eg,weekday->fB,callsOf->fC,callsOk->eG,told->ci,many->aD,Right->bj,dropSame->f7,rounds->d0,earliest->iQ,search->eh,Place->jS,fewest->f9,roomy->la,Round->e0,latest->lb,Leg->m5,going->qA,next_->m6,leavings->wa,Ans->wb,At->wc,go->we,Walk->Cj,walked->wg,best->lg
open PySem.W renaming Frag->xz,keepIn->cL,mg_none_of->gL,findIn->fA,emptyDict->hI,fnOf->f6,instObj->iO,mg_of->hJ,nsIn->iP,codeIn->k',plainGet->mZ,hasDictIn->qy,inst->a_,plainGet_of->v3,isFn->m4,reach->dY,lookIn->qz,callWith_K->v5,methodObj->v7,plainOver->v8,cellsFrom_some->Ce,takerIn->v9,makesIn->v_,methodCall_KW->Cf,callWith_K0->Cg,handedIn->Ci,rangeSize_downNat->Ma,krv_sliceRange->Mb,hideAll_size->Mc,hideAll_none->Md,looks_findIn->Me,hideAll_get->Mf,findObj_own->Mg,looks_clsIn->Mh,of_hideAll->Mi,codeRec_of->Mj,ki_setBack->Ml,small_down->Mm,krv_bounds->Mn,get_value->Mo,method_fn->Mp,set_plain->Mq,make_core->Mr,WellAll->v',eq_bytes->Ms,ne_bytes->Mt,osa_open->Mu,any_some->Mv,InitBack->Mw,makes_of->Mx,ki_setAt->My,hideAll->Mz,bind_fn->MA,InstAt->MB,typeIn->MC,kIn_of->MD
open PySem.Heap renaming get?_push_of_some->ls,get?_push_size->a9,lt_size->f0,size_push->cK,get?_update_other->hH,get?_update_self->jR,SameBut->k_,size_update->vY,get?_push_ne->Cd,IsList->vZ
open PySem renaming Addr->B,wpAny_bind->IR,Value->Wp,Shared->Rs,sizeLine->Is,wpAny_pure->t3,FuncData->sc,model->Do,Program->pu,boot_len->bR,mem_of_lookup->ee,starEach->bi,World->rs,Expr->ws,Heap->wn,mainGlobals->cI,Around->cs,Stmt->v1,cellsFrom->cy,wpAny_truthy_bool->iF,sliceBounds->fz,compareOp->dD,sysModules->eA,wpAny_mono->eB,wpAny_call_entry->iG,wpAny_typeNameOfWhole_keyiter->p',wpAny_seqItems->hC,DictEntry->eC,NameKind->dW,wpAny_passesOwn->jM,wpAny_holding->iH,wpAny_typeNameOf_keyiter->qa,wpAny_callSpecial?_slot->qb,sizeLine_eq->hD,wpAny_Call_Name_kw->mN,wpAny_setField_rec->mO,compEnvC->eY,behindInMarks->jN,wpAny_pyIter_list->mP,wpAny_newObj_type->mQ,wpAny_field->iI,wpAny_letGo->iJ,Scope->b7,wpAny_updateSeq->mR,argBest->eZ,backTo->dX,tupleKind_room_in1->qc,bootBuiltins->k4,foldedSetIterable->qd,binaryOp->gJ,cLine->cJ,wpAny_dictEntries->qe,wpAny_nextOf_list_item->vy,pyNext->eD,call_meets->jO,pushCells->iK,attributeBase->mS,wpAny_execs_nil->qf,letOwnedTupleGo->qg,pushCells_keeps->qh,assignEach->k5,wpAny_tryCatch->qi,Builtin->hE,slot_list_getitem->vz,valueAt->hF,IsZip->ef,wpAny_getItem_list_slice->Bz,wpAny_attempt->qj,wpAny_onRaise->qk,plainId_quiet->ql,tupleKind->k6,Model->eE,rawInt->gK,wpAny_pyNext_range_end->BA,wpAny_pyIter_rangeiter->BB,codeAny_mono->qm,sliceRange->mT,wpAny_dictEpoch->vA,codeAny_builtin->vB,wpAny_isTrue_Compare1->BC,wpAny_notOrdered_dict->BD,wpAny_isOneOf_keyiter->BE,wpAny_loadName_local->BF,IsRangeIter->qn,keywordEach->qo,subscripted->qp,holding->jP,swapsWith->mU,wpAny_loadName_cell->BG,wpAny_standAt->vC,wpAny_pyIter_range->BH,runs_reach->qq,Within->vD,Operator->mV,wpAny_assign_Name->BI,getItem->k7,notedBy->k8,wpAny_pyIter_slot->BK,callerA->k9,wpAny_eqBool_int->BL,wpAny_execs_cons->BM,assign->jQ,getMethod->qr,slicePick->qs,wpAny_getItem_of->BN,wpAny_Dict_empty->BO,wpAny_isInstance->BP,wpAny_pyIter_zip->BQ,richCompare->vE,seqIndex_of->vF,atKey->hG,BindsTo->mW,builtinsNs->vG,wpAny_Name->vH,CmpOp->iL,recursionLimit->BR,backToKw->qt,bindL->iM,bindC->iN,typeIs_int->vI,newFunctionEnv->BS,wpAny_fieldsOf->BU,wpAny_setField->BV,firstArgMember->BW,isSubtype_stop->BX,wpAny_newTuple->BY,rule->vJ,intBits_le_64->BZ,evalPart_none->B0,call_list_seq->B1,comprehension->B2,intKind->B3,wpAny_newList->B4,storeName->vK,inplaceOp->vL,updateSeq->vM,seqItems?->vN,standAt->qu,Result->mX,Keyword->qv,call_meetsIn->B5,interactive->B6,bindArgs->vO,wpAny_Slice->B7,compPost->vP,wpAny_of_eq->B8,pyIter->qw,wpAny_load->B9,wpAny_call->B_,typeLookup->B',PlainAttrs->Ca,closureFor->Cb,wpAny_rule->Cc,hashInt->vQ,setItem->vR,getAttr->vS,operate->vT,Frame->mY,IsPart->vU,cellOf->vV,stored->vW,Params->vX,field->qx
open List renaming length_map->FS,getD_eq_getElem?_getD->nw,mem_of_getElem?->pi,mem_singleton->ss,mem_cons_of_mem->on,getElem?_eq_getElem->im,getElem?_map->pr,length_append->lv,getElem?_eq_some_iff->ay,mem_cons_self->lc,mem_cons->s1,range->s5,map_cons->na,mem_append->f1,mem_map->m0,replicate->g2,length_singleton->bz,size_toArray->aP,length_take->aK,length_cons->bh,map_map->be,map_append->bA,take_add_one->ck,mem_range->bJ,append_assoc->dd,map_congr_left->ei,take_length->de,mem_zipIdx_iff_getElem?->hK,mem_iff_getElem?->fD,mem_append_right->fE,foldl_cons->dF,length_reverse->fG,mem_append_left->f_,length->cm,getElem_mem->eH,getElem?_range->f',sum_cons->dH,mem_flatMap->e3,length_range->fH,getElem?_eq_none->hP,filterMap_cons->gP,append_nil->e4,flatMap_cons->gd,pairwise_iff_getElem->jX,mem_filter->fJ,all_eq_true->gS,replicate_succ->iW,nodup_append->hQ,not_mem_nil->hR,pairwise_map->iX,getElem?_append_right->nt,nodup_cons->hS,getElem?_append_left->nu,length_filter_le->ly,filter_append->jY,length_drop->iY,lookup_cons->iZ,getElem?_replicate->ny,getElem?_cons_zero->nz,flatten_cons->jZ,mem_map_of_mem->lz,map_nil->gU,zipIdx_cons->j0,getElem?_eq_none_iff->qZ,length_nil->j1,find?_cons->j2,mem_of_mem_take->nA,findSome?_cons->nB,flatMap_append->nC,cons_append->lA,pairwise_cons->nD,mem_filterMap->nE,zip_cons_cons->nF,nil_append->lB,pairwise_flatMap->q0,foldl_append->nG,getElem?_set_ne->q1,lookup->i0,filter_cons->nH,drop_eq_getElem_cons->w6,filterMap_map->q2,range'->j3,getElem?_cons_succ->w7,findIdx?_eq_some_iff_getElem->Dt,mem_range'_1->q3,getElem?_set_self->ve,reverse_cons->p3,forIn_nil->mL,take_of_length_le->vf,drop_of_length_le->vg,ext_getElem->p4,getElem_inj->p5,map_flatMap->p6,map_take->mM,pairwise_append->vh,forIn_cons->p7,length_flatMap->vi,getElem_range->vj,nodup_nil->p8,zipIdx_append->vk,length_mapIdx->vl,mem_of_find?_eq_some->A7,ext_getElem?->vm,getElem?_take_of_lt->A8,any_cons->p9,length_filterMap_le->A9,pairwise_mergeSort->A_,mem_reverse->vo,getElem_map->vp,length_eq_zero_iff->A',pairwise_lt_range->Ba,range_succ->vq,of_mem_zip->vr,findSome?_append->Bb,getElem?_reverse->Bc,take_append_drop->Be,mem_iff_getElem->Bf,map_id->p_,getElem?_mapIdx->Bg,drop_drop->vt,getElem_zipIdx->Bh,length_flatten->Bi,map_drop->vu,mem_mergeSort->Bj,find?_eq_none->Bk,length_zipIdx->Bl,getElem?_set->Bm,toArray->vw,any_eq_true->Bn,map_reverse->Bo,drop_length->Bq,mem_mapIdx->Br,length_set->Bs,zipIdx_nil->Bt,find?_some->Bu,foldl->vx,drop_zero->Bw,sum_nil->Bx
def sw:=@decide_eq_false
def Ps:=@if_neg
def s2:=@decide_eq_true
def No:=@if_pos
def f4:=@decide_eq_true_eq
def aF:=@if_false
def aX:=@if_true
def cB:=@congrArg
def hU:=@decide_eq_decide
def lC:=@beq_eq_false_iff_ne
def f5:=@beq_iff_eq
def vn:=@decide_eq_false_iff_not
def gI:=@or_false
def vv:=@of_decide_eq_true
def Bv:=@bne_self_eq_false
def O{a:Sort _}{x:a}:x=x:=rfl
namespace Tw
open Sg45
inductive Jn (T:Go) (M:Nat) (x0:Place):Nat->Place->Prop
 |nil:Jn T M x0 0 x0
 |walk {n:Nat}{y z:Place}{w:Nat}:Jn T M x0 n y->go T M y (.walk w)=some z->Jn T M x0 n z
 |ride {n:Nat}{y z:Place}{p:Nat}{k:Int}{i j:Nat}:Jn T M x0 n y->go T M y (.ride p k i j)=some z->Jn T M x0 (n+1) z
theorem ki {T:Go}{M:Nat}:∀(l m:List Leg) (x:Place),cd T M x (l++m)=(cd T M x l).bind λy=>cd T M y m
 |[],m,x=>rfl
 |a::l,m,x=>by
  show(match go T M x a with|some y=>cd T M y (l++m)|none=>none)=_;show _=(match go T M x a with|some y=>cd T M y l|none=>none).bind _;cases go T M x a with
  |none=>rfl
  |some y=>exact ki l m y
theorem kM (l m:List Leg):rides (l++m)=rides l+rides m:=by
 simp[rides,jY]
theorem iw (w:Nat) (l:List Leg):rides (.walk w::l)=rides l:=by simp[rides]
theorem fX (p:Nat) (k:Int) (i j:Nat) (l:List Leg):rides (.ride p k i j::l)=rides l+1:=by simp[rides]
theorem Kh:rides []=0:=rfl
theorem ij {T:Go}{M:Nat}(x:Place) (a:Leg):cd T M x [a]=go T M x a:=by
 show(match go T M x a with|some y=>cd T M y []|none=>none)=_;cases go T M x a<;>rfl
theorem c6 {T:Go}{M:Nat}{x z:Place}{a:Leg}{l:List Leg}(h:cd T M x (a::l)=some z):∃y,go T M x a=some y/\cd T M y l=some z:=by(
have h':(match go T M x a with|some y=>cd T M y l|none=>none)=some z:=h;cases e:go T M x a with
|none=>rw[e]at h';cases h'
|some y=>rw[e]at h';exact⟨y,O,h'⟩)
theorem gs {T:Go}{M:Nat}{x y:Place}{a:Leg}{l:List Leg}(h:go T M x a=some y):cd T M x (a::l)=cd T M y l:=by
 show(match go T M x a with|some y=>cd T M y l|none=>none)=_;rw[h]
theorem Gg {T:Go}{M:Nat}{x0:Place}{n:Nat}{y:Place}(h:Jn T M x0 n y):∃l,cd T M x0 l=some y/\rides l=n:=by(
induction h with
|nil=>exact⟨[],O,O⟩
|@walk n y z w _ g a=>
 obtain⟨l,h1,h2⟩:=a;refine⟨l++[.walk w],?_,?_⟩
 ·rw[ki,h1];show cd T M y [_]=_;rw[ij,g]
 ·rw[kM,h2];rfl
|@ride n y z p k i j _ g a=>
 obtain⟨l,h1,h2⟩:=a;refine⟨l++[.ride p k i j],?_,?_⟩
 ·rw[ki,h1];show cd T M y [_]=_;rw[ij,g]
 ·rw[kM,h2];rfl)
theorem sb {T:Go}{M:Nat}{x0:Place}:∀(l:List Leg) {x y:Place}{n:Nat},Jn T M x0 n x->cd T M x l=some y->Jn T M x0 (n+rides l) y
 |[],x,y,n,h,f=>by cases f;exact h
 |.walk w::l,x,y,n,h,f=>by
  obtain⟨z,g,a⟩:=c6 f;rw[iw];exact sb l (Jn.walk h g) a
 |.ride p k i j::l,x,y,n,h,f=>by
  obtain⟨z,g,a⟩:=c6 f;rw[fX,show n+(rides l+1)=(n+1)+rides l by omega];exact sb l (Jn.ride h g) a
theorem He {T:Go}{M:Nat}{x0 y:Place}{l:List Leg}(f:cd T M x0 l=some y):Jn T M x0 (rides l) y:=by(
have:=sb l (Jn.nil (T:=T) (M:=M) (x0:=x0)) f
rwa [qD]at this)
theorem aH {T:Go}{M:Nat}{x z:Place}{w:Nat}:go T M x (.walk w)=some z↔∃y,T.walks[w]?=some y/\y.from_=x.halt/\x.way≠2/\z=⟨y.to,x.time+(y.minutes:Int),2⟩:=by(
simp only[go];cases T.walks[w]? with
|none=>simp
|some y=>
 simp only[gO];constructor
 ·intro h;split at h
  ·rename_i c;exact⟨y,O,c.1,c.2,(bT h).symm⟩
  ·cases h
 ·rintro⟨a,rfl,h1,h2,rfl⟩;rw[No ⟨h1,h2⟩])
def chg (T:Go) (x:Place):Int:=if x.way=1 then((T.stops.getD x.halt 0:Nat):Int)else 0
theorem bH {T:Go}{M:Nat}{x z:Place}{n:Nat}{k:Int}{i j:Nat}:go T M x (.ride n k i j)=some z↔
  ∃p,T.trips[n]?=some p/\(-1<=k/\k<=1)/\p.runs M k=true/\i<j/\j<p.calls.length/\p.stopAt i=x.halt/\x.time+chg T x<=p.goes M k i/\z=⟨p.stopAt j,p.comes M k j,1⟩:=by(
simp only[go,chg];cases T.trips[n]? with
|none=>simp
|some p=>
 simp only[gO,within,ga,f4];constructor
 ·intro h;generalize e:(x.time+if x.way=1 then((T.stops.getD x.halt 0:Nat):Int)else 0)=d at h⊢;split at h
  ·rename_i c;obtain⟨⟨c1,c2,c3,c4,a⟩,b⟩:=c;exact⟨p,O,c1,c2,c3,c4,a,b,(bT h).symm⟩
  ·cases h
 ·rintro⟨f,rfl,c1,c2,c3,c4,a,b,rfl⟩;rw[No ⟨⟨c1,c2,c3,c4,a⟩,b⟩])
theorem c' {T:Go}{M n:Nat}{k:Int}{p:cr}:(n,k,p)∈v2 T M↔T.trips[n]?=some p/\(-1<=k/\k<=1)/\p.runs M k=true:=by(
simp only[v2,e3,m0,fJ];constructor
·rintro⟨⟨q,m⟩,g,h,⟨f,hr⟩,e⟩;have a:=cB Prod.fst e;have b:=cB (λz=>z.2.1) e;have c:=cB (λz=>z.2.2) e;simp only at a b c;subst a b c;have:=hK.mp g;refine⟨this,?_,hr⟩;simp at f;omega
·rintro⟨h1,h2,d⟩;refine⟨(p,n),hK.mpr h1,k,⟨?_,d⟩,O⟩;have:k= -1\/k=0\/k=1:=by omega
 rcases this with rfl|rfl|rfl<;>simp)
def ev (P:Int->Prop):Option Int->Prop
 |some x=>P x/\∀y,P y->x<=y
 |none=>∀y,¬P y
theorem ev.congr {P Q:Int->Prop}{o:Option Int}(h:ev P o) (e:∀x,P x↔Q x):ev Q o:=by(
have:P=Q:=funext λx=>propext (e x)
rwa [<- this])
theorem ev.uniq {P:Int->Prop}{o u:Option Int}(h:ev P o) (h':ev P u):o=u:=by(
cases o with
|none=>cases u with
 |none=>rfl
 |some y=>exact absurd h'.1 (h y)
|some x=>cases u with
 |none=>exact absurd h.1 (h' x)
 |some y=>
  have h1:=h.2 y h'.1;have h2:=h'.2 x h.1;rw[show x=y by omega])
theorem ev.mkNone {P:Int->Prop}(h:∀x,¬P x):ev P none:=h
theorem ev.less {P Q:Int->Prop}{o u:Option Int}(h:ev P o) (h':ev Q u):ev (λx=>P x\/Q x) (less o u):=by(
cases o with
|none=>cases u with
 |none=>exact λy a=>a.elim (h y) (h' y)
 |some y=>exact⟨.inr h'.1,λz hz=>hz.elim (λq=>absurd q (h z)) (h'.2 z)⟩
|some x=>cases u with
 |none=>exact⟨.inl h.1,λz hz=>hz.elim (h.2 z) (λq=>absurd q (h' z))⟩
 |some y=>
  show(P (min x y)\/Q (min x y))/\∀z,P z\/Q z->min x y<=z;refine⟨?_,λz hz=>?_⟩
  ·by_cases e:x<=y
   ·rw[Int.min_eq_left e];exact .inl h.1
   ·rw[Int.min_eq_right (by omega)];exact .inr h'.1
  ·rcases hz with q|q
   ·have:=h.2 z q;omega
   ·have:=h'.2 z q;omega)
theorem ev.add {P:Int->Prop}{x:Int}(m:Int) (h:ev P (some x)):ev (λz=>∃y,P y/\z=y+m) (some (x+m)):=
 ⟨⟨x,h.1,O⟩,λz ⟨y,a,e⟩=>by have:=h.2 y a;omega⟩
theorem ev.xn {P:Int->Prop}{o:Option Int}(h:ev P o) (c g:Int):(o.any λy=>decide (y+c<=g))=true↔∃y,P y/\y+c<=g:=by(
cases o with
|none=>simp only[CB,fF,false_iff];rintro⟨y,a,_⟩;exact h y a
|some x=>
 simp only[CC,f4];constructor
 ·intro e;exact⟨x,h.1,e⟩
 ·rintro⟨y,a,e⟩;have:=h.2 y a;omega)
theorem ev.D5 {P:Int->Prop}{o:Option Int}(h:ev P o) (g:Int):(o.any λy=>decide (y<=g))=true↔∃y,P y/\y<=g:=by
 have:=h.xn 0 g;simp only[CT]at this;exact this
def bv (N:Nat) (r:Row) (P:Nat->Int->Prop):Prop:=r.length=N/\∀s,s<N->ev (P s) (r.getD s none)
theorem bv.congr {N:Nat}{r:Row}{P Q:Nat->Int->Prop}(h:bv N r P) (e:∀s,s<N->∀x,P s x↔Q s x):bv N r Q:=
 ⟨h.1,λs a=>(h.2 s a).congr (e s a)⟩
theorem bv.mkNone {N:Nat}{P:Nat->Int->Prop}{b:Type}{l:List b}(a:l.length=N) (h:∀s x,¬P s x):bv N (l.map λ_=>none) P:=by(
refine⟨by rw[FS,a],λs c=>?_⟩;have:((l.map λ_=>(none:Option Int)).getD s none)=none:=by
 rw[nw,pr];cases l[s]?<;>rfl
rw[this];exact ev.mkNone (h s))
theorem JS (r:Row) (s:Nat) (x:Int):(put r s x).length=r.length:=by simp[put]
theorem JR {r:Row}{s:Nat}{x:Int}(a:s<r.length) (u:Nat):(put r s x).getD u none=if u=s then less (r.getD s none) (some x)else r.getD u none:=by(
simp only[put,nw,Bm];by_cases e:u=s
·subst e;simp[a]
·simp[e,Ne.symm e])
theorem bv.put {N:Nat}{r:Row}{P:Nat->Int->Prop}{s:Nat}{x:Int}{Q:Int->Prop}(h:bv N r P) (b:s<N) (a:ev Q (some x)):bv N (put r s x) (λu y=>P u y\/(u=s/\Q y)):=by(
refine⟨by rw[JS,h.1],λu hu=>?_⟩;rw[JR (by rw[h.1];exact b)];by_cases e:u=s
·rw[No e];subst e;exact((h.2 u hu).less a).congr λy=>by simp
·rw[Ps e];exact(h.2 u hu).congr λy=>by simp[e])
def lP (W:List Walk) (P:Nat->Int->Prop) (s:Nat) (x:Int):Prop:=∃w,w∈W/\w.to=s/\∃y,P w.from_ y/\x=y+(w.minutes:Int)
theorem va {N:Nat}{d:Row}{P:Nat->Int->Prop}(hf:bv N d P):∀(W:List Walk) (foot:Row) (Q:Nat->Int->Prop),(∀w,w∈W->w.from_<N/\w.to<N)->bv N foot Q->
  bv N (W.foldl (λ(r:Row) (w:Walk)=>match d.getD w.from_ none with
   |some x=>put r w.to (x+((w.minutes:Nat):Int))
   |none=>r) foot) (λs x=>Q s x\/lP W P s x)
 |[],foot,Q,_,h=>h.congr λs _ x=>by simp[lP]
 |w::W,foot,Q,hw,h=>by
  rw[dF];have f:=hw w (lc ..);have m:=hf.2 w.from_ f.1;cases e:d.getD w.from_ none with
  |none=>
   rw[e]at m;refine(va hf W foot Q (λu hu=>hw u (on _ hu)) h).congr λs _ x=>?_;constructor
   ·rintro(q|⟨u,hu,r⟩)
    ·exact .inl q
    ·exact .inr ⟨u,on _ hu,r⟩
   ·rintro(q|⟨u,hu,b,y,a,c⟩)
    ·exact .inl q
    ·rcases s1.mp hu with rfl|hu
     ·exact absurd a (m y)
     ·exact .inr ⟨u,hu,b,y,a,c⟩
  |some x0=>
   rw[e]at m;refine(va hf W _ _ (λu hu=>hw u (on _ hu)) (h.put f.2 (m.add (w.minutes:Int)))).congr λs _ x=>?_;constructor
   ·rintro((q|⟨b,y,a,c⟩)|⟨u,hu,r⟩)
    ·exact .inl q
    ·exact .inr ⟨w,lc ..,b.symm,y,a,c⟩
    ·exact .inr ⟨u,on _ hu,r⟩
   ·rintro(q|⟨u,hu,b,y,a,c⟩)
    ·exact .inl (.inl q)
    ·rcases s1.mp hu with rfl|hu
     ·exact .inl (.inr ⟨b.symm,y,a,c⟩)
     ·exact .inr ⟨u,hu,b,y,a,c⟩
def Bd (T:Go) (M:Nat) (F R:Nat->Int->Prop) (p:cr) (k:Int) (i:Nat):Prop:=
 (∃y,F (p.stopAt i) y/\y<=p.goes M k i)\/(∃y,R (p.stopAt i) y/\y+((T.stops.getD (p.stopAt i) 0:Nat):Int)<=p.goes M k i)
def xP (T:Go) (M:Nat) (q:e0) (x:Nat×Int×cr) (s:Bool×Row) (i:Nat):Bool×Row:=
 let p:=x.2.2
 let at_:=p.stopAt i
 let b:=if s.1=true then put s.2 at_ (p.comes M x.2.1 i)else s.2
 let g:=p.goes M x.2.1 i
 let a:=s.1||((q.foot.getD at_ none).any λy=>decide (y<=g))||((q.train.getD at_ none).any λy=>decide (y+(((T.stops.getD at_ 0):Nat):Int)<=g))
 (a,b)
def l3 (T:Go) (M:Nat) (q:e0) (r:Row) (x:Nat×Int×cr):Row:=
 ((s5 x.2.2.calls.length).foldl (xP T M q x) (false,r)).2
theorem HJ (T:Go) (M:Nat) (a_:List (Nat×Int×cr)) (q:e0):
  m6 T M a_ q=⟨a_.foldl (l3 T M q) (T.stops.map λ_=>none),wg T (a_.foldl (l3 T M q) (T.stops.map λ_=>none)) (T.stops.map λ_=>none)⟩:=rfl
def fN (T:Go) (M:Nat) (F R:Nat->Int->Prop) (x:Nat×Int×cr) (m:Nat) (s:Nat) (y:Int):Prop:=
 ∃i j,i<j/\j<m/\Bd T M F R x.2.2 x.2.1 i/\s=x.2.2.stopAt j/\y=x.2.2.comes M x.2.1 j
def ra (N:Nat) (p:cr):Prop:=∀i,i<p.calls.length->p.stopAt i<N
theorem xQ {T:Go}{M:Nat}{q:e0}{F R:Nat->Int->Prop}{x:Nat×Int×cr}(o:bv T.stops.length q.foot F) (p:bv T.stops.length q.train R) (t:ra T.stops.length x.2.2)
  {r:Row}{Q:Nat->Int->Prop}(hr:bv T.stops.length r Q):∀m,m<=x.2.2.calls.length->
  ∃f g,(s5 m).foldl (xP T M q x) (false,r)=(f,g)/\(f=true↔∃i,i<m/\Bd T M F R x.2.2 x.2.1 i)/\bv T.stops.length g (λs y=>Q s y\/fN T M F R x m s y)
 |0,_=>⟨false,r,O,by simp,hr.congr λs _ y=>by simp[fN]⟩
 |m+1,hm=>by
  obtain⟨f,g,e,h1,h2⟩:=xQ o p t hr m (by omega);rw[vq,nG,e,dF,List.foldl_nil];have n:=t m (by omega);refine⟨_,_,O,?_,?_⟩
  ·have a1:=(o.2 _ n).D5 (x.2.2.goes M x.2.1 m);have a2:=(p.2 _ n).xn ((T.stops.getD (x.2.2.stopAt m) 0:Nat):Int) (x.2.2.goes M x.2.1 m);show(f||_||_)=true↔_;rw[gN,gN,h1,a1,a2];constructor
   ·rintro((⟨i,hi,b⟩|b)|b)
    ·exact⟨i,by omega,b⟩
    ·exact⟨m,by omega,.inl b⟩
    ·exact⟨m,by omega,.inr b⟩
   ·rintro⟨i,hi,b⟩;by_cases u:i=m
    ·subst u;rcases b with b|b
     ·exact .inl (.inr b)
     ·exact .inr b
    ·exact .inl (.inl ⟨i,by omega,b⟩)
  ·show bv _ (if f=true then put g (x.2.2.stopAt m) (x.2.2.comes M x.2.1 m)else g) _;by_cases h:f=true
   ·rw[No h];have z:ev (λy=>y=x.2.2.comes M x.2.1 m) (some (x.2.2.comes M x.2.1 m)):=⟨O,λy A=>by omega⟩;refine(h2.put n z).congr λs _ y=>?_;constructor
    ·rintro((a|⟨i,j,a⟩)|⟨c,d⟩)
     ·exact .inl a
     ·exact .inr ⟨i,j,a.1,by omega,a.2.2⟩
     ·obtain⟨i,hi,b⟩:=h1.mp h;exact .inr ⟨i,m,hi,by omega,b,c,d⟩
    ·rintro(a|⟨i,j,k,w,b,c,d⟩)
     ·exact .inl (.inl a)
     ·by_cases l:j=m
      ·subst l;exact .inr ⟨c,d⟩
      ·exact .inl (.inr ⟨i,j,k,by omega,b,c,d⟩)
   ·rw[Ps h];refine h2.congr λs _ y=>?_;constructor
    ·rintro(a|⟨i,j,a⟩)
     ·exact .inl a
     ·exact .inr ⟨i,j,a.1,by omega,a.2.2⟩
    ·rintro(a|⟨i,j,k,w,b,c,d⟩)
     ·exact .inl a
     ·by_cases l:j=m
      ·subst l;exact absurd (h1.mpr ⟨i,k,b⟩) h
      ·exact .inr ⟨i,j,k,by omega,b,c,d⟩
theorem yy {T:Go}{M:Nat}{q:e0}{F R:Nat->Int->Prop}(b:bv T.stops.length q.foot F) (c:bv T.stops.length q.train R):∀(a_:List (Nat×Int×cr)) (r:Row) (Q:Nat->Int->Prop),(∀x,x∈a_->ra T.stops.length x.2.2)->bv T.stops.length r Q->
  bv T.stops.length (a_.foldl (l3 T M q) r) (λs y=>Q s y\/∃x,x∈a_/\fN T M F R x x.2.2.calls.length s y)
 |[],r,Q,_,h=>h.congr λs _ y=>by simp
 |x::a_,r,Q,d,h=>by
  rw[dF];obtain⟨i,f,e,_,h2⟩:=xQ b c (d x (lc ..)) h x.2.2.calls.length (t1 _);have g:l3 T M q r x=f:=by unfold l3;rw[e]
  rw[g];refine(yy b c a_ f _ (λz hz=>d z (on _ hz)) h2).congr λs _ y=>?_;constructor
  ·rintro((a|a)|⟨z,hz,a⟩)
   ·exact .inl a
   ·exact .inr ⟨x,lc ..,a⟩
   ·exact .inr ⟨z,on _ hz,a⟩
  ·rintro(a|⟨z,hz,a⟩)
   ·exact .inl (.inl a)
   ·rcases s1.mp hz with rfl|hz
    ·exact .inl (.inr a)
    ·exact .inr ⟨z,hz,a⟩
theorem AW {T:Go}{a foot:Row}{P Q:Nat->Int->Prop}(hT:bj T) (hf:bv T.stops.length a P) (h:bv T.stops.length foot Q):bv T.stops.length (wg T a foot) (λs x=>Q s x\/lP T.walks P s x):=
 va hf T.walks foot Q hT.2 h
theorem sV {T:Go}(hT:bj T) {p:cr}(a:p∈T.trips):ra T.stops.length p:=by
 intro i hi;have h:=hT.1 p a;simp only[eG,ga,gS,f4]at h;unfold Dm;rw[nw,im hi];exact(h.1 _ (eH hi)).1
theorem F7 {T:Go}{M:Nat}{x:Nat×Int×cr}(h:x∈v2 T M):x.2.2∈T.trips:=by
 obtain⟨n,k,p⟩:=x;exact pi (c'.mp h).1
theorem HN {T:Go}{M:Nat}{q:e0}{F R:Nat->Int->Prop}(hT:bj T) (a:bv T.stops.length q.foot F) (b:bv T.stops.length q.train R):
  bv T.stops.length (m6 T M (v2 T M) q).train (λs y=>∃x,x∈v2 T M/\fN T M F R x x.2.2.calls.length s y)/\
  bv T.stops.length (m6 T M (v2 T M) q).foot (lP T.walks λs y=>∃x,x∈v2 T M/\fN T M F R x x.2.2.calls.length s y):=by(
rw[HJ];have h0:bv T.stops.length (T.stops.map λ_=>none) (λ_ _=>False):=bv.mkNone rfl (λ_ _ h=>h);have h1:=(yy (M:=M) a b (v2 T M) _ _ (λx c=>sV hT (F7 c)) h0).congr (Q:=λs y=>∃x,x∈v2 T M/\fN T M F R x x.2.2.calls.length s y) λs _ y=>by simp
exact⟨h1,(AW hT h1 h0).congr λs _ x=>by simp⟩)
def gZ (T:Go) (M:Nat) (x0:Place) (n:Nat) (q:e0):Prop:=
 bv T.stops.length q.train (λs y=>Jn T M x0 n ⟨s,y,1⟩)/\bv T.stops.length q.foot (λs y=>Jn T M x0 n ⟨s,y,0⟩\/Jn T M x0 n ⟨s,y,2⟩)
theorem ow {T:Go}{M:Nat}{x0:Place}{n:Nat}{y:Place}(h:Jn T M x0 n y):(n=0/\y=x0)\/y.way=1\/y.way=2:=by(
cases h with
|nil=>exact .inl ⟨O,O⟩
|walk _ g=>obtain⟨_,_,_,_,rfl⟩:=aH.mp g;exact .inr (.inr rfl)
|ride _ g=>obtain⟨_,_,_,_,_,_,_,_,rfl⟩:=bH.mp g;exact .inr (.inl rfl))
section
variable {T:Go}{M a:Nat}{t:Int}
theorem yJ {s:Nat}{y:Int}:¬Jn T M ⟨a,t,0⟩ 0 ⟨s,y,1⟩:=by(
intro h;cases h with
|walk _ g=>obtain⟨_,_,_,_,e⟩:=aH.mp g;cases e)
theorem Gj {s:Nat}{y:Int}:Jn T M ⟨a,t,0⟩ 0 ⟨s,y,0⟩↔s=a/\y=t:=by(
constructor
·intro h;cases h with
 |nil=>exact⟨O,O⟩
 |walk _ g=>obtain⟨_,_,_,_,e⟩:=aH.mp g;cases e
·rintro⟨rfl,rfl⟩;exact .nil)
theorem yH {n s:Nat}{y:Int}:¬Jn T M ⟨a,t,0⟩ (n+1) ⟨s,y,0⟩:=by(
intro h;rcases ow h with⟨e,_⟩|e|e
·cases e
·cases e
·cases e)
theorem yI {n s:Nat}{y:Int}:Jn T M ⟨a,t,0⟩ n ⟨s,y,2⟩↔lP T.walks (λu z=>Jn T M ⟨a,t,0⟩ n ⟨u,z,0⟩\/Jn T M ⟨a,t,0⟩ n ⟨u,z,1⟩) s y:=by(
constructor
·intro h;cases h with
 |@walk _ z _ w h g=>
  obtain⟨wk,c,b,d,j⟩:=aH.mp g;injection j with k f _;refine⟨wk,pi c,k.symm,z.time,?_,f⟩;obtain⟨l,zt,m⟩:=z;simp only at b d f⊢;subst b;rcases ow h with⟨_,e⟩|e|e
  ·cases e;exact .inl h
  ·simp only at e;subst e;exact .inr h
  ·exact absurd e d
 |ride _ g=>obtain⟨_,_,_,_,_,_,_,_,e⟩:=bH.mp g;cases e
·rintro⟨w,hw,c,z,hz,b⟩;obtain⟨i,hi⟩:=fD.mp hw;rcases hz with hz|hz
 ·exact Jn.walk hz (aH.mpr ⟨w,hi,O,by simp,by rw[c,b]⟩)
 ·exact Jn.walk hz (aH.mpr ⟨w,hi,O,by simp,by rw[c,b]⟩))
theorem r8 {n s:Nat}{y:Int}:Jn T M ⟨a,t,0⟩ (n+1) ⟨s,y,1⟩↔∃x,x∈v2 T M/\fN T M (λs y=>Jn T M ⟨a,t,0⟩ n ⟨s,y,0⟩\/Jn T M ⟨a,t,0⟩ n ⟨s,y,2⟩) (λs y=>Jn T M ⟨a,t,0⟩ n ⟨s,y,1⟩) x x.2.2.calls.length s y:=by(
constructor
·intro h;cases h with
 |walk _ g=>obtain⟨_,_,_,_,e⟩:=aH.mp g;cases e
 |@ride _ z _ p k i j h g=>
  obtain⟨tr,c,d,u,w,A,q,f,C⟩:=bH.mp g;injection C with D r _;refine⟨(p,k,tr),c'.mpr ⟨c,d,u⟩,i,j,w,A,?_,D,r⟩;obtain⟨H,zt,J⟩:=z;simp only[chg]at q f;subst q;unfold Bd;simp only;rcases ow h with⟨_,e⟩|e|e
  ·cases e;exact .inl ⟨_,.inl h,by simpa using f⟩
  ·simp only at e;subst e;exact .inr ⟨_,h,by simpa using f⟩
  ·simp only at e;subst e;exact .inl ⟨_,.inr h,by simpa using f⟩
·rintro⟨⟨p,k,tr⟩,E,i,j,h1,h2,b,c,d⟩;obtain⟨m,o,g3⟩:=c'.mp E;simp only at h2 b c d;rcases b with⟨z,hz|hz,l⟩|⟨z,hz,l⟩
 ·exact Jn.ride hz (bH.mpr ⟨tr,m,o,g3,h1,h2,O,by simpa [chg]using l,by rw[c,d]⟩)
 ·exact Jn.ride hz (bH.mpr ⟨tr,m,o,g3,h1,h2,O,by simpa [chg]using l,by rw[c,d]⟩)
 ·exact Jn.ride hz (bH.mpr ⟨tr,m,o,g3,h1,h2,O,by simpa [chg]using l,by rw[c,d]⟩))
theorem Ld (hT:bj T) (b:a<T.stops.length):gZ T M ⟨a,t,0⟩ 0 (start T a t):=by(
have h0:∀P:Nat->Int->Prop,(∀s x,¬P s x)->bv T.stops.length (T.stops.map λ_=>none) P:=λP h=>bv.mkNone rfl h;have h1:bv T.stops.length (put (T.stops.map λ_=>none) a t) (λs y=>Jn T M ⟨a,t,0⟩ 0 ⟨s,y,0⟩):=
 ((h0 (λ_ _=>False) (λ_ _ h=>h)).put (Q:=λy=>y=t) b ⟨O,λy c=>by omega⟩).congr λs _ x=>by rw[Gj];simp
refine⟨h0 _ λs x=>yJ,?_⟩;show bv _ (wg T _ _) _;refine(AW hT h1 h1).congr λs _ x=>?_;rw[yI];have:(λu z=>Jn T M ⟨a,t,0⟩ 0 ⟨u,z,0⟩\/Jn T M ⟨a,t,0⟩ 0 ⟨u,z,1⟩)=(λu z=>Jn T M ⟨a,t,0⟩ 0 ⟨u,z,0⟩):=by
 funext u z;exact propext ⟨λh=>h.elim id (λh=>absurd h yJ),.inl⟩
rw[this])
theorem HM (hT:bj T) {n:Nat}{q:e0}(h:gZ T M ⟨a,t,0⟩ n q):gZ T M ⟨a,t,0⟩ (n+1) (m6 T M (v2 T M) q):=by(
obtain⟨h1,h2⟩:=HN (M:=M) hT h.2 h.1;refine⟨h1.congr λs _ y=>r8.symm,h2.congr λs _ y=>?_⟩;have:(λu z=>Jn T M ⟨a,t,0⟩ (n+1) ⟨u,z,0⟩\/Jn T M ⟨a,t,0⟩ (n+1) ⟨u,z,1⟩)=(λs y=>∃x,x∈v2 T M/\fN T M (λs y=>Jn T M ⟨a,t,0⟩ n ⟨s,y,0⟩\/Jn T M ⟨a,t,0⟩ n ⟨s,y,2⟩) (λs y=>Jn T M ⟨a,t,0⟩ n ⟨s,y,1⟩) x x.2.2.calls.length s y):=by
 funext u z;exact propext ⟨λh=>h.elim (λh=>absurd h yH) r8.mp,λh=>.inr (r8.mpr h)⟩
rw[yI,this];constructor
·exact .inr
·rintro(h|h)
 ·exact absurd h yH
 ·exact h)
theorem Ge (hT:bj T) (b:a<T.stops.length) {n:Nat}{y:Place}(h:Jn T M ⟨a,t,0⟩ n y):y.halt<T.stops.length:=by(
cases h with
|nil=>exact b
|walk _ g=>obtain⟨w,e,_,_,rfl⟩:=aH.mp g;exact(hT.2 w (pi e)).2
|ride _ g=>obtain⟨p,e,_,_,_,c,_,_,rfl⟩:=bH.mp g;exact sV hT (pi e) _ c)
theorem Gh {n:Nat}{y:Place}(h:Jn T M ⟨a,t,0⟩ n y):∀m,m<=n->∃z,Jn T M ⟨a,t,0⟩ m z:=by(
induction h with
|nil=>intro m hm;rw[show m=0 by omega];exact⟨_,.nil⟩
|walk _ _ b=>exact b
|@ride n _ _ _ _ _ _ h g b=>
 intro m hm;by_cases e:m=n+1
 ·subst e;exact⟨_,Jn.ride h g⟩
 ·exact b m (by omega))
def ca (T:Go) (M a:Nat) (t:Int) (n s:Nat) (y:Int):Prop:=∃w,Jn T M ⟨a,t,0⟩ n ⟨s,y,w⟩
theorem AB {n s:Nat}{y:Int}:ca T M a t n s y↔Jn T M ⟨a,t,0⟩ n ⟨s,y,1⟩\/(Jn T M ⟨a,t,0⟩ n ⟨s,y,0⟩\/Jn T M ⟨a,t,0⟩ n ⟨s,y,2⟩):=by(
constructor
·rintro⟨w,h⟩;rcases ow h with⟨e,b⟩|e|e
 ·injection b with d f c;subst c;exact .inr (.inl h)
 ·simp only at e;subst e;exact .inl h
 ·simp only at e;subst e;exact .inr (.inr h)
·rintro(h|h|h)<;>exact⟨_,h⟩)
def rowOf (q:e0):Row:=(q.train.zip q.foot).map λx=>less x.1 x.2
theorem gZ.row {n:Nat}{q:e0}(h:gZ T M ⟨a,t,0⟩ n q):bv T.stops.length (rowOf q) (ca T M a t n):=by(
refine⟨by simp[rowOf,h.1.1,h.2.1],λs b=>?_⟩;have e:(rowOf q).getD s none=less (q.train.getD s none) (q.foot.getD s none):=by
 have c:s<q.train.length:=by rw[h.1.1];exact b
 have d:s<q.foot.length:=by rw[h.2.1];exact b
 simp[rowOf,nw,pr,List.getElem?_zip_eq_some,im c,im d,List.getElem?_zipWith,List.zip]
rw[e];exact((h.1.2 s b).less (h.2.2 s b)).congr λy=>AB.symm)
theorem gZ.empty {n:Nat}{q:e0}(hT:bj T) (i:a<T.stops.length) (h:gZ T M ⟨a,t,0⟩ n q) (e:(q.train++q.foot).all (λx=>x.isNone)=true):∀m y,n<=m->¬Jn T M ⟨a,t,0⟩ m y:=by(
have h0:∀y,¬Jn T M ⟨a,t,0⟩ n y:=by
 rintro⟨s,y,w⟩ b;have c:=Ge hT i b;simp only at c;rw[gS]at e;have nn:∀r:Row,r.length=T.stops.length->(∀x,x∈r->x∈q.train++q.foot)->r.getD s none=none:=by
  intro r hr hm;have g:s<r.length:=by rw[hr];exact c
  rw[nw,im g];have:=e _ (hm _ (eH g));simpa using this
 have m1:=h.1.2 s c;have m2:=h.2.2 s c;rw[nn q.train h.1.1 λx f=>f_ _ f]at m1;rw[nn q.foot h.2.1 λx f=>fE _ f]at m2;rcases AB.mp ⟨w,b⟩with d|d
 ·exact m1 y d
 ·exact m2 y d
intro m y hm b;obtain⟨z,hz⟩:=Gh b n hm;exact h0 z hz)
theorem zU (hT:bj T) (b:a<T.stops.length):∀(most n:Nat) (q:e0),gZ T M ⟨a,t,0⟩ n q->0<(d0 T M (v2 T M) most q).length/\(d0 T M (v2 T M) most q).length<=most+1/\
  (∀i r,(d0 T M (v2 T M) most q)[i]?=some r->gZ T M ⟨a,t,0⟩ (n+i) r)/\
  ((d0 T M (v2 T M) most q).length<=most->∀m y,n+(d0 T M (v2 T M) most q).length<=m->¬Jn T M ⟨a,t,0⟩ m y)
 |0,n,q,h=>by
  refine⟨by simp[d0],by simp[d0],?_,by simp[d0]⟩;intro i r hi;cases i with
  |zero=>simp[d0]at hi;subst hi;exact h
  |succ i=>simp[d0]at hi
 |most+1,n,q,h=>by
  unfold d0;split
  ·rename_i e;refine⟨by simp,by simp,?_,?_⟩
   ·intro i r hi;cases i with
    |zero=>simp at hi;subst hi;exact h
    |succ i=>simp at hi
   ·intro _ m y hm;exact h.empty hT b e m y (by omega)
  ·obtain⟨h1,h2,c,d⟩:=zU hT b most (n+1) _ (HM hT h);refine⟨by simp,by simp only[bh];omega,?_,?_⟩
   ·intro i r hi;cases i with
    |zero=>simp at hi;subst hi;exact h
    |succ i=>
     have:=c i r (by simpa using hi)
     rwa [show n+1+i=n+(i+1) by omega]at this
   ·simp only[bh];intro f m y hm;exact d (by omega) m y (by omega)
theorem nV (hT:bj T) (b:a<T.stops.length) (most:Nat):
  (az T M a t most).length<=most+1/\
  (∀n r,(az T M a t most)[n]?=some r->bv T.stops.length r (ca T M a t n))/\
  (∀n s y,n<=most->(az T M a t most).length<=n->¬ca T M a t n s y):=by(
obtain⟨_,h2,c,d⟩:=zU (T:=T) (M:=M) (a:=a) (t:=t) hT b most 0 _ (Ld hT b);have g:(az T M a t most).length=(d0 T M (v2 T M) most (start T a t)).length:=by simp[az]
refine⟨by omega,?_,?_⟩
·intro n r hr;unfold az at hr;rw[pr]at hr;cases e:(d0 T M (v2 T M) most (start T a t))[n]? with
 |none=>rw[e]at hr;cases hr
 |some q=>
  rw[e]at hr;have:=c n q e;rw[qD]at this;cases hr;exact this.row
·rintro n s y hn h ⟨w,f⟩;exact d (by omega) n _ (by omega) f)
end
theorem zz {c:Type}(D:c->Nat->Prop) (b:∀z i j,D z i->D z j->i=j):∀(n:Nat) (A:List c),(∀i,1<=i->i<=n->∃z,z∈A/\D z i)->n<=A.length
 |0,_,_=>g1 _
 |n+1,A,h=>by
  classical
  obtain⟨z,hz,d⟩:=h (n+1) (by omega) (t1 _);have h1:(A.filter λy=>decide (¬D y (n+1))).length<A.length:=
   List.length_filter_lt_length_iff_exists.mpr ⟨z,hz,by simpa using d⟩
  have h2:=zz D b n (A.filter λy=>decide (¬D y (n+1))) λi hi hn=>by
   obtain⟨y,e,a⟩:=h i hi (by omega);refine⟨y,fJ.mpr ⟨e,?_⟩,a⟩;simp only[f4];intro q;have:=b y _ _ a q;omega
  omega
def mj (T:Go) (M:Nat):List Place:=(v2 T M).flatMap λx=>(s5 x.2.2.calls.length).map λj=>⟨x.2.2.stopAt j,x.2.2.comes M x.2.1 j,1⟩
theorem H5 (T:Go) (M:Nat):(mj T M).length+1=aD T M:=by
 unfold mj aD;rw[vi];simp
theorem Fv {P:Nat->Prop}:∀n,P n->∃m,m<=n/\P m/\∀i,i<m->¬P i:=by(
intro n
induction n using Nat.strongRecOn with
|_ n b=>
 intro h;by_cases e:∃i,i<n/\P i
 ·obtain⟨i,hi,a⟩:=e;obtain⟨m,hm,h1,h2⟩:=b i hi a;exact⟨m,by omega,h1,h2⟩
 ·exact⟨n,t1 _,h,λi hi a=>e ⟨i,hi,a⟩⟩)
section
variable {T:Go}{M:Nat}{x0:Place}
theorem Kd {y z:Place}{p:Nat}{k:Int}{i j:Nat}(g:go T M y (.ride p k i j)=some z):z∈mj T M:=by
 obtain⟨tr,a,b,c,e,d,f,h,rfl⟩:=bH.mp g;exact e3.mpr ⟨(p,k,tr),c'.mpr ⟨a,b,c⟩,m0.mpr ⟨j,bJ.mpr d,O⟩⟩
theorem Gd {n:Nat}{y:Place}(h:Jn T M x0 n y):(∀m,m<n->¬Jn T M x0 m y)->∀i,1<=i->i<=n->∃z,z∈mj T M/\Jn T M x0 i z/\∀m,m<i->¬Jn T M x0 m z:=by(
induction h with
|nil=>intro _ i h1 h2;omega
|@walk n y z w h g c=>intro hm i h1 h2;exact c (λm d q=>hm m d (Jn.walk q g)) i h1 h2
|@ride n y z p k a b h g c=>
 intro hm i h1 h2;by_cases e:i=n+1
 ·subst e;exact⟨z,Kd g,Jn.ride h g,hm⟩
 ·exact c (λm d q=>hm (m+1) (by omega) (Jn.ride q g)) i h1 (by omega))
theorem Gi {n:Nat}{y:Place}(h:Jn T M x0 n y):∃m,m<=n/\m<aD T M/\Jn T M x0 m y:=by(
obtain⟨m,hm,h1,h2⟩:=Fv (P:=λm=>Jn T M x0 m y) n h;refine⟨m,hm,?_,h1⟩;have:=zz (λ(z:Place) i=>Jn T M x0 i z/\∀m,m<i->¬Jn T M x0 m z) (λz i j hi a=>by
 rcases Ck i j with q|q|q
 ·exact absurd hi.1 (a.2 i q)
 ·exact q
 ·exact absurd a.1 (hi.2 j q)) m (mj T M) (Gd h1 h2)
have:=H5 T M;omega)
end
section
variable {T:Go}{M a:Nat}{t:Int}
theorem AD {n s:Nat}{y:Int}(h:ca T M a t n s y):∃m,m<=n/\m<aD T M/\ca T M a t m s y:=by
 obtain⟨w,h⟩:=h;obtain⟨m,h1,h2,b⟩:=Gi h;exact⟨m,h1,h2,w,b⟩
def arr (l:List Row) (s n:Nat):Option Int:=(l[n]?.getD []).getD s none
theorem xp (hT:bj T) (c:a<T.stops.length) {most n s:Nat}(hn:n<=most) (d:s<T.stops.length):ev (ca T M a t n s) (arr (az T M a t most) s n):=by(
obtain⟨h1,h2,b⟩:=nV (T:=T) (M:=M) (a:=a) (t:=t) hT c most;unfold arr;cases e:(az T M a t most)[n]? with
|none=>exact ev.mkNone λy=>b n s y hn (qZ.mp e)
|some r=>exact(h2 n r e).2 s d)
theorem xC {s:Nat}:∀(l:List Row) (m:Option Int) (P:Int->Prop) (Q:Nat->Int->Prop),ev P m->(∀n,n<l.length->ev (Q n) (arr l s n))->ev (λx=>P x\/∃n,n<l.length/\Q n x) (l.foldl (λm r=>less m (r.getD s none)) m)
 |[],m,P,Q,h,_=>h.congr λx=>by simp
 |r::l,m,P,Q,h,b=>by
  rw[dF];have h0:ev (Q 0) (r.getD s none):=b 0 (by simp);refine(xC l _ _ (λn=>Q (n+1)) (h.less h0) (λn hn=>b (n+1) (by simp;omega))).congr λx=>?_;constructor
  ·rintro((q|q)|⟨n,hn,q⟩)
   ·exact .inl q
   ·exact .inr ⟨0,by simp,q⟩
   ·exact .inr ⟨n+1,by simp;omega,q⟩
  ·rintro(q|⟨n,hn,q⟩)
   ·exact .inl (.inl q)
   ·cases n with
    |zero=>exact .inl (.inr q)
    |succ n=>exact .inr ⟨n,by simp at hn;omega,q⟩
theorem nZ (hT:bj T) (b:a<T.stops.length) {s:Nat}(f:s<T.stops.length):ev (λx=>∃n,ca T M a t n s x) (lg (az T M a t (aD T M)) s):=by(
obtain⟨h1,h2,d⟩:=nV (T:=T) (M:=M) (a:=a) (t:=t) hT b (aD T M);refine(xC (s:=s) (az T M a t (aD T M)) none (λ_=>False) (λn=>ca T M a t n s) (λy h=>h) (λn hn=>xp hT b (by omega) f)).congr λx=>?_;constructor
·rintro(q|⟨n,_,q⟩)
 ·exact q.elim
 ·exact⟨n,q⟩
·rintro⟨n,q⟩;obtain⟨m,_,hm,c⟩:=AD q;refine .inr ⟨m,?_,c⟩;by_cases e:m<(az T M a t (aD T M)).length
 ·exact e
 ·exact absurd c (d m s x (by omega) (by omega)))
def d4 (P:Nat->Prop):Option Nat->Prop
 |some n=>P n/\∀i,i<n->¬P i
 |none=>∀n,¬P n
theorem d4.uniq {P:Nat->Prop}{o u:Option Nat}(h:d4 P o) (h':d4 P u):o=u:=by(
cases o with
|none=>cases u with
 |none=>rfl
 |some y=>exact absurd h'.1 (h y)
|some x=>cases u with
 |none=>exact absurd h.1 (h' x)
 |some y=>
  rcases Ck x y with q|q|q
  ·exact absurd h.1 (h'.2 x q)
  ·rw[q]
  ·exact absurd h'.1 (h.2 y q))
theorem d4.congr {P Q:Nat->Prop}{o:Option Nat}(h:d4 P o) (e:∀x,P x↔Q x):d4 Q o:=by(
have:P=Q:=funext λx=>propext (e x)
rwa [<- this])
theorem Fq (l:List Row) (s:Nat) (ok:Int->Bool):d4 (λn=>(arr l s n).any ok=true) (f9 l s ok):=by(
unfold f9;cases e:l.findIdx? (λr=>(r.getD s none).any ok)with
|none=>
 rw[List.findIdx?_eq_none_iff]at e;intro n hn;unfold arr at hn;cases b:l[n]? with
 |none=>rw[b]at hn;simp at hn
 |some r=>
  rw[b]at hn;have:=e r (pi b);rw[show(Option.getD (some r) [])=r from rfl]at hn;rw[hn]at this;cases this
|some n=>
 rw[Dt]at e;obtain⟨hn,h1,h2⟩:=e;refine⟨?_,?_⟩
 ·show((l[n]?.getD []).getD s none).any ok=true;rw[im hn];exact h1
 ·intro i hi h;have c:=h2 i hi;unfold arr at h;rw[im (by omega)]at h;exact c h)
theorem yg (hT:bj T) (d:a<T.stops.length) {s:Nat}(j:s<T.stops.length) {ok:Int->Bool}(ag:∀n x y,ca T M a t n s x->ca T M a t n s y->y<=x->ok x=true->ok y=true):
  d4 (λn=>∃x,ca T M a t n s x/\ok x=true) (f9 (az T M a t (aD T M)) s ok):=by(
obtain⟨h1,h2,l⟩:=nV (T:=T) (M:=M) (a:=a) (t:=t) hT d (aD T M);have key:∀n,n<=aD T M->((arr (az T M a t (aD T M)) s n).any ok=true↔∃x,ca T M a t n s x/\ok x=true):=by
 intro n hn;have m:=xp (M:=M) (t:=t) hT d hn j;cases e:arr (az T M a t (aD T M)) s n with
 |none=>rw[e]at m;simp only[CB,fF,false_iff];rintro⟨x,b,_⟩;exact m x b
 |some x=>
  rw[e]at m;simp only[CC];exact⟨λo=>⟨x,m.1,o⟩,λ⟨y,g,o⟩=>ag n y x g m.1 (m.2 y g) o⟩
have lt:∀n,(arr (az T M a t (aD T M)) s n).any ok=true->n<=aD T M:=by
 intro n h;unfold arr at h;cases c:(az T M a t (aD T M))[n]? with
 |none=>rw[c]at h;simp at h
 |some r=>
  have:=(ay.mp c).1;omega
have f:=Fq (az T M a t (aD T M)) s ok;cases e:f9 (az T M a t (aD T M)) s ok with
|none=>
 rw[e]at f;rintro n ⟨x,b,o⟩;obtain⟨m,_,hm,k⟩:=AD b;exact f m ((key m (by omega)).mpr ⟨x,k,o⟩)
|some n=>
 rw[e]at f;refine⟨(key n (lt n f.1)).mp f.1,λi hi q=>f.2 i hi ((key i ?_).mpr q)⟩;have:=lt n f.1;omega)
theorem EU (hT:bj T) {b:Nat}(c:a<T.stops.length) (d:b<T.stops.length) {x:Int}{r:Nat}(h1:ev (λx=>∃n,ca T M a t n b x) (some x)) (h2:d4 (λn=>ca T M a t n b x) (some r)):iQ T M a b t=some (x,r):=by(
have e:=(nZ (M:=M) (t:=t) hT c d).uniq h1;have f:f9 (az T M a t (aD T M)) b (λy=>y==x)=some r:=by
 refine d4.uniq ((yg (M:=M) (t:=t) hT c d ?_).congr λn=>?_) h2
 ·intro n y z _ hz g o;simp only[f5]at o⊢;have:=h1.2 z ⟨n,hz⟩;omega
 ·simp
unfold iQ;simp only[e,qI,f,hM])
theorem ET (hT:bj T) {b:Nat}(d:a<T.stops.length) (e:b<T.stops.length) (h1:ev (λx=>∃n,ca T M a t n b x) none):iQ T M a b t=none:=by
 have c:=(nZ (M:=M) (t:=t) hT d e).uniq h1;unfold iQ;simp only[c,Option.bind_none]
end
theorem L_ {a:Type}(l:List a) (i:Nat) (h:i+1<l.length):(l[i],l[i+1])∈l.zip l.tail:=by
 rw[Bf];refine⟨i,by simp;omega,by simp⟩
section
variable {T:Go}
theorem rB (hT:bj T) {p:cr}(a:p∈T.trips):∀d i,i+d+1<p.calls.length->(p.calls.getD i ⟨0,0,0⟩).goes<=(p.calls.getD (i+d+1) ⟨0,0,0⟩).comes
 |0,i,h=>by
  have h1:=hT.1 p a;simp only[eG,ga,gS,f4]at h1;have:=h1.2 _ (L_ p.calls i h);simpa [nw,im h,im (show i<p.calls.length by omega)]using this
 |d+1,i,h=>by
  have a1:=rB hT a d i (by omega);have a2:=rB hT a 0 (i+d+1) (by omega);have h1:=hT.1 p a;simp only[eG,ga,gS,f4]at h1;have a3:=(h1.1 _ (eH (show i+d+1<p.calls.length by omega))).2.1;have e:p.calls.getD (i+d+1) ⟨0,0,0⟩=p.calls[i+d+1]'(by omega):=by
   rw[nw,im (by omega)];rfl
  rw[show i+(d+1)+1=i+d+1+0+1 by omega];rw[e]at a1 a2;omega
theorem rY (hT:bj T) {p:cr}(a:p∈T.trips) (M:Nat) (k:Int) {i j:Nat}(h:i<j) (b:j<p.calls.length):p.goes M k i<=p.comes M k j:=by
 have:=rB hT a (j-i-1) i (by omega);rw[show i+(j-i-1)+1=j by omega]at this;unfold w4 w3;split<;>split<;>omega
theorem xZ (T:Go) (x:Place):0<=chg T x:=by unfold chg;split<;>omega
theorem FQ (hT:bj T) {M:Nat}{x y:Place}{a:Leg}(h:go T M x a=some y):x.time<=y.time:=by(
cases a with
|walk w=>obtain⟨wk,_,_,_,rfl⟩:=aH.mp h;show x.time<=x.time+_;omega
|ride n k i j=>
 obtain⟨p,b,_,_,c,d,_,e,rfl⟩:=bH.mp h;have:=rY hT (pi b) M k c d;have:=xZ T x;show x.time<=p.comes M k j;omega)
theorem kj (hT:bj T) {M:Nat}:∀(l:List Leg) {x y:Place},cd T M x l=some y->x.time<=y.time
 |[],x,y,h=>by cases h;exact e2 _
 |a::l,x,y,h=>by
  obtain⟨z,g,f⟩:=c6 h;have:=FQ hT g;have:=kj hT l f;omega
theorem iC {M a:Nat}{t:Int}{n s:Nat}{y:Int}:ca T M a t n s y↔∃l w,cd T M ⟨a,t,0⟩ l=some ⟨s,y,w⟩/\rides l=n:=by(
constructor
·rintro⟨w,h⟩;obtain⟨l,h1,h2⟩:=Gg h;exact⟨l,w,h1,h2⟩
·rintro⟨l,w,h1,rfl⟩;exact⟨w,He h1⟩)
theorem oE {M a b:Nat}{f u:Int}:u∈wa T M a b f↔u<=f/\((a=b/\u=f)\/(∃w,w∈T.walks/\w.from_=a/\w.to=b/\u=f-(w.minutes:Int))\/
  ∃x,x∈v2 T M/\∃i,i<x.2.2.calls.length/\((x.2.2.stopAt i=a/\u=x.2.2.goes M x.2.1 i)\/∃w,w∈T.walks/\w.from_=a/\w.to=x.2.2.stopAt i/\u=x.2.2.goes M x.2.1 i-(w.minutes:Int))):=by(
unfold wa;simp only[fJ,f4,f1,m0,e3,bJ,ga,f5,s1];constructor
·rintro⟨h,hu⟩;refine⟨hu,?_⟩;rcases h with(h|⟨w,⟨h1,h2,c⟩,d⟩)|⟨x,g,i,hi,z,⟨hz,k⟩,e⟩
 ·split at h
  ·rename_i e;simp at h;exact .inl ⟨e,h⟩
  ·simp at h
 ·exact .inr (.inl ⟨w,h1,h2,c,d.symm⟩)
 ·refine .inr (.inr ⟨x,g,i,hi,?_⟩);rcases hz with rfl|⟨w,⟨hw,j⟩,rfl⟩
  ·exact .inl ⟨k.symm,by simp at e;omega⟩
  ·exact .inr ⟨w,hw,j,k,e.symm⟩
·rintro⟨hu,h⟩;refine⟨?_,hu⟩;rcases h with⟨e,h⟩|⟨w,h1,h2,c,d⟩|⟨x,g,i,hi,⟨j,l⟩|⟨w,h1,h2,c,d⟩⟩
 ·rw[No e];exact .inl (.inl (by simp[h]))
 ·exact .inl (.inr ⟨w,⟨h1,h2,c⟩,d.symm⟩)
 ·exact .inr ⟨x,g,i,hi,(a,0),⟨.inl rfl,j.symm⟩,by simp[l]⟩
 ·exact .inr ⟨x,g,i,hi,(w.to,(w.minutes:Int)),⟨.inr ⟨w,⟨h1,h2⟩,O⟩,c⟩,d.symm⟩)
theorem leaving (hT:bj T) {M a b:Nat}{u c x:Int}{n:Nat}(h:ca T M a u n b x) (D:x<=c):∃E J,E∈wa T M a b c/\u<=E/\ca T M a E n b J/\J<=c:=by(
obtain⟨l,w,f,hr⟩:=iC.mp h
match l,f,hr with
|[],f,hr=>
 cases f;refine⟨c,c,oE.mpr ⟨e2 _,.inl ⟨O,O⟩⟩,D,iC.mpr ⟨[],0,O,hr⟩,e2 _⟩
|[.walk v],f,hr=>
 rw[ij]at f;obtain⟨wk,C,m,L,N⟩:=aH.mp f;injection N with H Q U;simp only at m Q;refine⟨c-(wk.minutes:Int),c,oE.mpr ⟨by omega,.inr (.inl ⟨wk,pi C,m,H.symm,O⟩)⟩,by omega,iC.mpr ⟨[.walk v],2,?_,hr⟩,e2 _⟩;rw[ij];refine aH.mpr ⟨wk,C,m,by simp,?_⟩;rw[H];simp
|.walk v:: .walk Y::l,f,hr=>
 obtain⟨y,g,f⟩:=c6 f;obtain⟨z,g',f⟩:=c6 f;obtain⟨_,_,_,_,rfl⟩:=aH.mp g;obtain⟨_,_,_,q,_⟩:=aH.mp g';exact absurd rfl q
|.walk v:: .ride p k i j::l,f,hr=>
 obtain⟨y,g,f⟩:=c6 f;obtain⟨z,g',f⟩:=c6 f;obtain⟨wk,C,m,L,rfl⟩:=aH.mp g;obtain⟨tr,d,r,s,t,A,e,o,rfl⟩:=bH.mp g';simp only[chg]at m e o;simp at o;have m1:=rY hT (pi d) M k t A;have m2:=kj hT l f;simp only at m2;refine⟨tr.goes M k i-(wk.minutes:Int),x,oE.mpr ⟨by omega,.inr (.inr ⟨(p,k,tr),c'.mpr ⟨d,r,s⟩,i,by simp;omega,.inr ⟨wk,pi C,m,e.symm,O⟩⟩)⟩,by omega,iC.mpr ⟨.walk v:: .ride p k i j::l,w,?_,hr⟩,D⟩;rw[gs (aH.mpr ⟨wk,C,m,by simp,O⟩)];rw[gs (bH.mpr ⟨tr,d,r,s,t,A,e,by simp[chg],O⟩)];exact f
|.ride p k i j::l,f,hr=>
 obtain⟨z,g',f⟩:=c6 f;obtain⟨tr,d,r,s,t,A,e,o,rfl⟩:=bH.mp g';simp only[chg]at e o;simp at o;have m1:=rY hT (pi d) M k t A;have m2:=kj hT l f;simp only at m2;refine⟨tr.goes M k i,x,oE.mpr ⟨by omega,.inr (.inr ⟨(p,k,tr),c'.mpr ⟨d,r,s⟩,i,by simp;omega,.inl ⟨e,O⟩⟩)⟩,o,iC.mpr ⟨.ride p k i j::l,w,?_,hr⟩,D⟩;rw[gs (bH.mpr ⟨tr,d,r,s,t,A,e,by simp[chg],O⟩)];exact f)
theorem yj {b:Type}{f:Int->Option b}{u:Int}{y:b}(hu:f u=some y) (hm:∀v,u<v->f v=none):∀l:List Int,l.Pairwise (λx y=>y<=x)->u∈l->l.findSome? f=some y
 |[],_,h=>by simp at h
 |x::l,a,h=>by
  rw[nD]at a;rw[nB];cases e:f x with
  |none=>
   rcases s1.mp h with rfl|h
   ·rw[hu]at e;cases e
   ·exact yj hu hm l a.2 h
  |some z=>
   have:x=u:=by
    rcases s1.mp h with rfl|h
    ·rfl
    ·have:=a.1 u h;by_cases q:u<x
     ·rw[hm x q]at e;cases e
     ·omega
   subst this;rw[hu]at e;exact e.symm
theorem Fu {a d:Type}{f:a->Option d}(l:List a) (h:∀x,x∈l->f x=none):l.findSome? f=none:=by(
induction l with
|nil=>rfl
|cons x l c=>rw[nB,h x (lc ..)];exact c λy b=>h y (on _ b))
theorem La (l:List Int):(l.mergeSort λx y=>decide (y<=x)).Pairwise (λx y=>y<=x):=by
 have:=A_ (le:=λx y:Int=>decide (y<=x)) (λa b c=>by simp;omega) (λa b=>by simp;omega) l;exact this.imp λh=>by simpa using h
theorem rJ (hT:bj T) {M a b:Nat}(d:a<T.stops.length) (e:b<T.stops.length) (u c:Int):
  d4 (λn=>∃x,ca T M a u n b x/\x<=c) (f9 (az T M a u (aD T M)) b λx=>decide (x<=c)):=
 (yg (M:=M) (t:=u) hT d e (ok:=λx=>decide (x<=c)) (λn x y _ _ f o=>by simp at o ⊢;omega)).congr λn=>by simp
theorem G8 (hT:bj T) {M a b:Nat}(g:a<T.stops.length) (h:b<T.stops.length) {u c:Int}{r:Nat}(h1:d4 (λn=>∃x,ca T M a u n b x/\x<=c) (some r)) (h2:∀v n x,u<v->ca T M a v n b x->c<x):lb T M a b c=some (u,r):=by(
have hf:(f9 (az T M a u (aD T M)) b λx=>decide (x<=c))=some r:=(rJ hT g h u c).uniq h1;have hn:∀v,u<v->(f9 (az T M a v (aD T M)) b λx=>decide (x<=c))=none:=λv hv=>
 (rJ hT g h v c).uniq (u:=none) λn ⟨x,d,i⟩=>by have:=h2 v n x hv d;omega
obtain⟨x,d,i⟩:=h1.1;obtain⟨e,k,hm,hu,j,l⟩:=leaving hT d i;have:e=u:=by
 by_cases q:u<e
 ·have:=h2 e r k q j;omega
 ·omega
subst this;unfold lb;exact yj (f:=λv=>(f9 (az T M a v (aD T M)) b λx=>decide (x<=c)).map λr=>(v,r)) (by rw[hf];rfl) (λv hv=>by rw[hn v hv];rfl) _ (La _) (Bj.mpr hm))
theorem G7 (hT:bj T) {M a b:Nat}(d:a<T.stops.length) (e:b<T.stops.length) {c:Int}(h2:∀v n x,ca T M a v n b x->c<x):lb T M a b c=none:=by(
unfold lb;refine Fu _ λv _=>?_;have:(f9 (az T M a v (aD T M)) b λx=>decide (x<=c))=none:=
 (rJ hT d e v c).uniq (u:=none) λn ⟨x,f,g⟩=>by have:=h2 v n x f;omega
rw[this];rfl)
end
theorem nX:∀l,fr l l=false
 |[]=>rfl
 |x::l=>by simp[fr,nX l]
theorem rl:∀ {a b c:List Int},fr a b=true->fr b c=true->fr a c=true
 |[],_,[],h1,h2=>by
  rename_i b;cases b<;>simp[fr]at h1 h2
 |[],_,_::_,_,_=>rfl
 |_::_,[],_,h1,_=>by simp[fr]at h1
 |_::_,_::_,[],_,h2=>by simp[fr]at h2
 |x::a,y::b,z::c,h1,h2=>by
  simp only[fr,gN,ga,f4]at h1 h2⊢;rcases h1 with h1|⟨d,h1⟩<;>rcases h2 with h2|⟨e,h2⟩
  ·left;omega
  ·left;omega
  ·left;omega
  ·exact .inr ⟨by omega,rl h1 h2⟩
theorem rk:∀(a b:List Int),fr a b=true\/a=b\/fr b a=true
 |[],[]=>.inr (.inl rfl)
 |[],_::_=>.inl rfl
 |_::_,[]=>.inr (.inr rfl)
 |x::a,y::b=>by
  simp only[fr,gN,ga,f4,jW];rcases Int.lt_trichotomy x y with h|h|h
  ·exact .inl (.inl h)
  ·rcases rk a b with q|q|q
   ·exact .inl (.inr ⟨h,q⟩)
   ·exact .inr (.inl ⟨h,q⟩)
   ·exact .inr (.inr (.inr ⟨h.symm,q⟩))
  ·exact .inr (.inr (.inl h))
theorem xA {a b:List Int}(h:fr a b=true):fr b a=false:=by(
cases e:fr b a with
|false=>rfl
|true=>have:=rl h e;rw[nX]at this;cases this)
theorem rj:∀(p l m:List Int),fr (p++l) (p++m)=fr l m
 |[],_,_=>rfl
 |x::p,l,m=>by simp[fr,rj p l m]
def cR (a b:List Int):Prop:=a=b\/fr a b=true
theorem zW {a b:List Int}(h:cR a b) (h':cR b a):a=b:=by(
rcases h with h|h
·exact h
·rcases h' with h'|h'
 ·exact h'.symm
 ·rw[xA h]at h';cases h')
theorem zX {p l m:List Int}(h:cR l m):cR (p++l) (p++m):=by(
rcases h with rfl|h
·exact .inl rfl
·exact .inr (by rw[rj];exact h))
theorem jr {a b:List Int}:(!fr b a)=true↔cR a b:=by(
constructor
·intro h;rcases rk a b with q|q|q
 ·exact .inr q
 ·exact .inl q
 ·rw[q]at h;cases h
·rintro(rfl|h)
 ·rw[nX];rfl
 ·rw[xA h];rfl)
theorem Kj {a b c:List Int}(h:cR a b) (h':cR b c):cR a c:=by(
rcases h with rfl|h
·exact h'
·rcases h' with rfl|h'
 ·exact .inr h
 ·exact .inr (rl h h'))
theorem Ki (a b:List Int):cR a b\/cR b a:=by(
rcases rk a b with q|q|q
·exact .inl (.inr q)
·exact .inl (.inl q)
·exact .inr (.inr q))
theorem Lb (l:List (List Int)):(l.mergeSort λa b=>!fr b a).Pairwise cR:=by(
have:=A_ (le:=λa b:List Int=>!fr b a) (λa b c h1 h2=>jr.mpr (Kj (jr.mp h1) (jr.mp h2)))
 (λa b=>by rw[gN,jr,jr];exact Ki a b) l
exact this.imp λh=>jr.mp h)
theorem Ah {d:Type}{R:d->d->Prop}(f:∀a b,R a b->R b a->a=b):∀ {l m:List d},l.Perm m->l.Pairwise R->m.Pairwise R->l=m
 |[],m,p,_,_=>(List.nil_perm.mp p).symm
 |x::l,[],p,_,_=>absurd p.length_eq (by simp)
 |x::l,y::m,p,c,hm=>by
  rw[nD]at c hm;have e:x=y:=by
   have h1:x∈y::m:=p.mem_iff.mp (lc ..);have h2:y∈x::l:=p.mem_iff.mpr (lc ..);rcases s1.mp h1 with h1|h1
   ·exact h1
   ·rcases s1.mp h2 with h2|h2
    ·exact h2.symm
    ·exact f x y (c.1 y h2) (hm.1 x h1)
  subst e;rw[Ah f (List.perm_cons x |>.mp p) c.2 hm.2]
def rZ (T:Go) (halt M:Nat) (t:Int):List (List Int):=T.trips.zipIdx.flatMap λ(x:cr×Nat)=>([-1,0,1]:List Int).flatMap λ(k:Int)=>if x.1.runs M k=false then []else
 (s5 (x.1.calls.length-1)).filterMap λ(i:Nat)=>if x.1.stopAt i=halt/\t<=x.1.goes M k i then some [x.1.goes M k i,((x.2:Nat):Int),k,((x.1.stopAt (x.1.calls.length-1):Nat):Int)]else none
theorem FU {T:Go}{halt M:Nat}{t:Int}{l:List (List Int)}(c:l.Perm (rZ T halt M t)) (d:l.Pairwise cR):qA T halt M t=l:=
 Ah (λa b=>zW) ((List.mergeSort_perm _ _).trans c.symm) (Lb _) d
def Ok (T:Go) (M b:Nat) (a:Int) (left:Nat) (x:Place) (m:List Leg):Prop:=(∃w,cd T M x m=some ⟨b,a,w⟩)/\rides m=left
def l9:Leg->Leg->Prop
 |.walk w,.walk e=>w<e
 |.walk _,.ride _ _ _ _=>True
 |.ride n k i j,.ride c b a d=>n<c\/(n=c/\(k<b\/(k=b/\(i<a\/(i=a/\j<d)))))
 |.ride _ _ _ _,.walk _=>False
def bY (left:Nat):Leg->Nat
 |.walk _=>left
 |.ride _ _ _ _=>left-1
def hl (x:Place) (a_:List (Nat×Int×cr)):List Leg:=a_.flatMap λz=>(s5 z.2.2.calls.length).flatMap λi=>if z.2.2.stopAt i≠x.halt then []else
 (s5 z.2.2.calls.length).flatMap λj=>if j<=i then []else [Leg.ride z.1 z.2.1 i j]
def cands (T:Go) (x:Place) (left:Nat) (a_:List (Nat×Int×cr)):List Leg:=(s5 T.walks.length).map Leg.walk++(if left=0 then []else hl x a_)
theorem oi {a b c:Type}(f:b->Option c) (g:a->List b):∀l:List a,(l.flatMap g).findSome? f=l.findSome? λx=>(g x).findSome? f
 |[]=>rfl
 |x::l=>by
  rw[gd,Bb,oi f g l,nB];cases(g x).findSome? f<;>rfl
section
variable {T:Go}{M:Nat}
theorem K0 (b:Nat) (a:Int) (a_:List (Nat×Int×cr)) (fuel left:Nat) (x:Place):eh T M b a a_ (fuel+1) left x=
  if x.halt=b/\x.time=a/\left=0 then some []else if a<x.time then none else(cands T x left a_).findSome? λl=>(go T M x l).bind λy=>(eh T M b a a_ fuel (bY left l) y).map λm=>l::m:=by(
conv=>lhs;unfold eh
split
·rfl
split
·rfl
unfold cands;rw[Bb,List.findSome?_map];have c:((λl=>(go T M x l).bind λy=>(eh T M b a a_ fuel (bY left l) y).map λm=>l::m)∘Leg.walk)=λw=>(go T M x (.walk w)).bind λy=>(eh T M b a a_ fuel left y).map λm=>.walk w::m:=rfl;rw[c];dsimp only;cases(s5 T.walks.length).findSome? (λw=>(go T M x (.walk w)).bind λy=>(eh T M b a a_ fuel left y).map λm=>Leg.walk w::m)with
|some l=>rfl
|none=>
 dsimp only;rw[Option.none_or];split
 ·rfl
 ·unfold hl;rw[oi]
  congr 1
  funext z;rw[oi]
  congr 1
  funext i;split
  ·rfl
  ·rw[oi]
   congr 1
   funext j;split
   ·rfl
   ·simp only[nB,List.findSome?_nil,bY];cases(go T M x (.ride z.1 z.2.1 i j)).bind λy=>(eh T M b a a_ fuel (left-1) y).map λm=>Leg.ride z.1 z.2.1 i j::m<;>rfl)
theorem r5:(v2 T M).Pairwise λx y=>x.1<y.1\/(x.1=y.1/\x.2.1<y.2.1):=by(
unfold v2;rw[q0];refine⟨?_,?_⟩
·intro x _;rw[iX];have h0:List.Pairwise (λa b:Int=>a<b) [-1,0,1]:=by decide
 exact(h0.filter _).imp λh=>.inr ⟨O,h⟩
·have h1:T.trips.zipIdx.Pairwise λ(x y:cr×Nat)=>x.2<y.2:=by
  rw[jX];intro i j hi c h;simp[Bh];exact h
 refine h1.imp λ{x y} h=>?_;intro u hu v hv;rw[m0]at hu hv;obtain⟨k,_,rfl⟩:=hu;obtain⟨d,_,rfl⟩:=hv;exact .inl h)
theorem sP (n:Nat):(s5 n).Pairwise λa b=>a<b:=Ba
theorem oF {x:Place}{a_:List (Nat×Int×cr)}{c:Leg}:c∈hl x a_↔∃z,z∈a_/\∃i j,i<j/\j<z.2.2.calls.length/\z.2.2.stopAt i=x.halt/\c=.ride z.1 z.2.1 i j:=by(
unfold hl;simp only[e3,bJ];constructor
·rintro⟨z,hz,i,hi,h⟩;split at h
 ·simp at h
 ·rename_i q;simp only[e3,bJ]at h;obtain⟨j,b,h⟩:=h;split at h
  ·simp at h
  ·simp at h;exact⟨z,hz,i,j,by omega,b,Decidable.not_not.mp q,h⟩
·rintro⟨z,hz,i,j,h1,h2,a,rfl⟩;refine⟨z,hz,i,by omega,?_⟩;rw[Ps (λq=>q a)];simp only[e3,bJ];exact⟨j,h2,by rw[Ps (by omega)];simp⟩)
theorem Es (x:Place) (left:Nat):(cands T x left (v2 T M)).Pairwise l9:=by(
unfold cands;rw[vh];refine⟨?_,?_,?_⟩
·rw[iX];exact(sP _).imp λh=>h
·split
 ·exact .nil
 ·unfold hl;rw[q0];refine⟨λz _=>?_,?_⟩
  ·rw[q0];refine⟨λi _=>?_,?_⟩
   ·split
    ·exact .nil
    ·rw[q0];refine⟨λj _=>by split<;>simp,?_⟩;refine(sP _).imp λ{j b} h u hu v hv=>?_;split at hu<;>simp at hu;split at hv<;>simp at hv;subst hu hv;exact .inr ⟨O,.inr ⟨O,.inr ⟨O,h⟩⟩⟩
   ·refine(sP _).imp λ{i e} h u hu v hv=>?_;split at hu
    ·simp at hu
    split at hv
    ·simp at hv
    simp only[e3,bJ]at hu hv;obtain⟨j,_,hu⟩:=hu;obtain⟨b,_,hv⟩:=hv;split at hu<;>simp at hu;split at hv<;>simp at hv;subst hu hv;exact .inr ⟨O,.inr ⟨O,.inl h⟩⟩
  ·refine(r5 (T:=T) (M:=M)).imp λ{z f} h u hu v hv=>?_;have c:u∈hl x [z]:=by unfold hl;rw[gd];simpa using hu
   have d:v∈hl x [f]:=by unfold hl;rw[gd];simpa using hv
   obtain⟨_,hz,i,j,_,_,_,rfl⟩:=oF.mp c;obtain⟨_,a,e,b,_,_,_,rfl⟩:=oF.mp d;simp at hz a;subst hz a;rcases h with h|⟨h1,h2⟩
   ·exact .inl h
   ·exact .inr ⟨h1,.inl h2⟩
·intro u hu v hv;rw[m0]at hu;obtain⟨w,_,rfl⟩:=hu;split at hv
 ·simp at hv
 ·obtain⟨z,_,i,j,_,_,_,rfl⟩:=oF.mp hv;trivial)
theorem y' {x y p:Place}{c a:Leg}(h:l9 c a) (g:go T M x c=some y) (g':go T M x a=some p) (l m:List Int):fr (bK T M x c++l) (bK T M x a++m)=true:=by(
cases c with
|walk w=>cases a with
 |walk o=>
  obtain⟨k,e,_⟩:=aH.mp g;obtain⟨d,b,_⟩:=aH.mp g';have h:w<o:=h;simp[bK,e,b,fr];omega
 |ride n k i j=>
  obtain⟨q,e,_⟩:=aH.mp g;obtain⟨f,b,_⟩:=bH.mp g';simp[bK,e,b,fr];omega
|ride n k i j=>cases a with
 |walk w=>exact h.elim
 |ride u d s t=>
  obtain⟨q,e,_⟩:=bH.mp g;obtain⟨f,b,_⟩:=bH.mp g';simp only[bK,e,b,fr,lA,lB,gN,ga,f4];rcases h with h|⟨h1,h|⟨h2,h|⟨r,h⟩⟩⟩
  ·left;omega
  ·right;exact⟨by omega,.inl h⟩
  ·right;exact⟨by omega,.inr ⟨h2,.inl (by omega)⟩⟩
  ·right;exact⟨by omega,.inr ⟨h2,.inr ⟨by omega,.inl (by omega)⟩⟩⟩)
theorem yk {d i:Type}{R:d->d->Prop}{f:d->Option i}{y:i}:∀ {l:List d},l.Pairwise R->l.findSome? f=some y->∃c,c∈l/\f c=some y/\∀a,a∈l->f a≠none->a=c\/R c a
 |[],_,h=>by simp at h
 |x::l,g,h=>by
  rw[nD]at g;rw[nB]at h;cases e:f x with
  |some z=>
   rw[e]at h;refine⟨x,lc ..,h▸e,λa b _=>?_⟩;rcases s1.mp b with rfl|b
   ·exact .inl rfl
   ·exact .inr (g.1 a b)
  |none=>
   rw[e]at h;obtain⟨c,h1,h2,j⟩:=yk g.2 h;refine⟨c,on _ h1,h2,λa b hn=>?_⟩;rcases s1.mp b with rfl|b
   ·exact absurd e hn
   ·exact j a b hn
theorem iD {x y:Place}{c:Leg}(g:go T M x c=some y) (l:List Leg):ci T M x (c::l)=bK T M x c++ci T M y l:=by
 show bK T M x c++(match go T M x c with|some y=>ci T M y l|none=>[])=_;rw[g]
theorem sq {b:Nat}{a:Int}{left:Nat}{x:Place}{c:Leg}{m:List Leg}(h:Ok T M b a left x (c::m)):∃y,go T M x c=some y/\Ok T M b a (bY left c) y m/\c∈cands T x left (v2 T M):=by(
obtain⟨⟨w,f⟩,hr⟩:=h;obtain⟨y,g,f⟩:=c6 f;refine⟨y,g,⟨⟨w,f⟩,?_⟩,?_⟩
·cases c with
 |walk v=>rw[iw]at hr;exact hr
 |ride n k i j=>rw[fX]at hr;show _=left-1;omega
·unfold cands;rw[f1];cases c with
 |walk v=>
  obtain⟨k,e,_⟩:=aH.mp g;exact .inl (m0.mpr ⟨v,bJ.mpr (ay.mp e).1,O⟩)
 |ride n k i j=>
  rw[fX]at hr;rw[Ps (by omega)];obtain⟨p,d,l,o,q,r,s,_,_⟩:=bH.mp g;exact .inr (oF.mpr ⟨(n,k,p),c'.mpr ⟨d,l,o⟩,i,j,q,r,s,O⟩))
theorem Ex {b:Nat}{a:Int}{left:Nat}{x y:Place}{c:Leg}{m:List Leg}(g:go T M x c=some y) (h:Ok T M b a (bY left c) y m) (d:c∈cands T x left (v2 T M)):Ok T M b a left x (c::m):=by(
obtain⟨⟨w,f⟩,hr⟩:=h;refine⟨⟨w,by rw[gs g];exact f⟩,?_⟩;cases c with
|walk v=>rw[iw];exact hr
|ride n k i j=>
 rw[fX,hr];show left-1+1=left;unfold cands at d;rw[f1]at d;rcases d with d|d
 ·rw[m0]at d;obtain⟨_,_,e⟩:=d;cases e
 ·split at d
  ·simp at d
  ·omega)
theorem Ab (hT:bj T) (b:Nat) (a:Int):∀(fuel left:Nat) (x:Place),
  (∀l,eh T M b a (v2 T M) fuel left x=some l->Ok T M b a left x l/\∀m,Ok T M b a left x m->m.length<fuel->cR (ci T M x l) (ci T M x m))/\
  (eh T M b a (v2 T M) fuel left x=none->∀m,Ok T M b a left x m->¬m.length<fuel)
 |0,left,x=>⟨λl h=>by simp[eh]at h,λ_ m _ h=>by omega⟩
 |fuel+1,left,x=>by
  have p:=λleft x=>Ab hT b a fuel left x;rw[K0];by_cases c1:x.halt=b/\x.time=a/\left=0
  ·rw[No c1];refine⟨λl h=>?_,λh=>by cases h⟩;cases h;refine⟨⟨⟨x.way,?_⟩,c1.2.2.symm⟩,λm _ _=>?_⟩
   ·obtain⟨E,H,J⟩:=x;simp only at c1;obtain⟨rfl,rfl,_⟩:=c1;rfl
   ·cases e:ci T M x m with
    |nil=>exact .inl rfl
    |cons=>exact .inr rfl
  ·rw[Ps c1];have s:∀m,Ok T M b a left x m->∃c d,m=c::d:=by
    rintro m ⟨⟨w,f⟩,hr⟩;cases m with
    |nil=>cases f;exact absurd ⟨O,O,hr.symm⟩ c1
    |cons c d=>exact⟨c,d,O⟩
   by_cases c2:a<x.time
   ·rw[No c2];refine⟨λl h=>(by cases h),λ_ m hm _=>?_⟩;obtain⟨⟨w,f⟩,_⟩:=hm;have:=kj hT m f;simp only at this;omega
   ·rw[Ps c2];refine⟨λl h=>?_,λh m hm o=>?_⟩
    ·obtain⟨c,u,hf,t⟩:=yk (Es (T:=T) (M:=M) x left) h;cases g:go T M x c with
     |none=>rw[g]at hf;cases hf
     |some y=>
      rw[g,qI]at hf;cases e:eh T M b a (v2 T M) fuel (bY left c) y with
      |none=>rw[e]at hf;cases hf
      |some D=>
       rw[e]at hf;cases hf;obtain⟨A,C⟩:=(p (bY left c) y).1 D e;refine⟨Ex g A u,λm hm o=>?_⟩;obtain⟨i,d,rfl⟩:=s m hm;obtain⟨r,g',k,n⟩:=sq hm;have j:d.length<fuel:=by simp at o;omega
       have ne:(go T M x i).bind (λy=>(eh T M b a (v2 T M) fuel (bY left i) y).map λm=>i::m)≠none:=by
        rw[g',qI];intro q;rw[Cv]at q;exact(p (bY left i) r).2 q d k j
       rw[iD g,iD g'];rcases t i n ne with rfl|z
       ·rw[g]at g';cases g';exact zX (C d k j)
       ·exact .inr (y' z g g' _ _)
    ·obtain⟨i,d,rfl⟩:=s m hm;obtain⟨r,g',k,n⟩:=sq hm;have j:d.length<fuel:=by simp at o;omega
     rw[List.findSome?_eq_none_iff]at h;have:=h i n;rw[g',qI,Cv]at this;exact(p (bY left i) r).2 this d k j
theorem zd {b:Nat}{a:Int}:∀(m:List Leg) {left:Nat}{x:Place},Ok T M b a left x m->m.length<=2*left+(if x.way=2 then 0 else 1)
 |[],_,_,_=>by simp
 |c::m,left,x,h=>by
  obtain⟨y,g,h',_⟩:=sq h;have d:=zd m h';have hr:=h.2;cases c with
  |walk w=>
   obtain⟨_,_,_,e,rfl⟩:=aH.mp g;rw[Ps e];simp[bY]at d;simp;omega
  |ride n k i j=>
   obtain⟨_,_,_,_,_,_,_,_,rfl⟩:=bH.mp g;rw[fX]at hr;simp[bY]at d;simp;omega
theorem u3:∀(m:List Leg) {x y:Place},cd T M x m=some y->(ci T M x m).length=5*m.length
 |[],_,_,_=>rfl
 |c::m,x,z,h=>by
  obtain⟨y,g,f⟩:=c6 h;rw[iD g,lv,u3 m f];have:(bK T M x c).length=5:=by
   cases c with
   |walk w=>obtain⟨k,e,_⟩:=aH.mp g;simp[bK,e]
   |ride n k i j=>obtain⟨k,e,_⟩:=bH.mp g;simp[bK,e]
  simp[this];omega
theorem K1 (hT:bj T) {b:Nat}{a:Int}{left fuel:Nat}{x:Place}{l:List Leg}(h:Ok T M b a left x l) (hm:∀m,Ok T M b a left x m->cR (ci T M x l) (ci T M x m)) (hf:2*left+2<=fuel):
  ∃l',eh T M b a (v2 T M) fuel left x=some l'/\ci T M x l'=ci T M x l/\l'.length=l.length:=by(
have len:∀m,Ok T M b a left x m->m.length<fuel:=λm hm=>by
 have:=zd m hm;split at this<;>omega
obtain⟨i,j⟩:=Ab hT b a (M:=M) fuel left x;cases e:eh T M b a (v2 T M) fuel left x with
|none=>exact absurd (len l h) (j e l h)
|some l'=>
 obtain⟨o,g⟩:=i l' e;have c:ci T M x l'=ci T M x l:=zW (g l h (len l h)) (hm l' o);refine⟨l',O,c,?_⟩;obtain⟨⟨w,f⟩,_⟩:=h;obtain⟨⟨k,d⟩,_⟩:=o;have h1:=u3 l f;have h2:=u3 l' d;rw[c]at h2;omega)
end
def dA:Option Int->Nat->List (Option Int)->List (List Int)
 |_,_,[]=>[]
 |m,k,c::l=>(match c with
  |some y=>if c=m then []else [[((k:Nat):Int),y]]
  |none=>[])++dA c (k+1) l
def er:Option Int->List (Option Int)->List (Option Int)
 |_,[]=>[]
 |m,x::l=>less m x::er (less m x) l
theorem ya:∀(l:List (Option Int)) (m:Option Int) (k:Nat),f7 m ((l.zipIdx k).map λx=>(x.2,x.1))=dA m k (er m l)
 |[],_,_=>rfl
 |x::l,m,k=>by
  rw[j0,na];have a:=λm=>ya l m (k+1);cases x with
  |none=>
   have e:∀L,f7 m ((k,none)::L)=f7 m L:=λL=>by cases m<;>rfl
   rw[e,a m];cases m<;>simp[er,dA,less]
  |some y=>cases m with
   |none=>
    show [((k:Nat):Int),y]::f7 (some y) _=_;rw[a];simp[er,dA,less]
   |some z=>
    show(if y<z then [((k:Nat):Int),y]::f7 (some y) _ else f7 (some z) _)=_;rw[a,a];by_cases h:y<z
    ·rw[No h];simp[er,dA,less,show min z y=y by omega,show ¬y=z by omega]
    ·rw[Ps h];simp[er,dA,less,show min z y=z by omega]
end Tw
namespace Tw
abbrev s3:=Int×Nat×Nat
structure Nt where
 chg:List Int
 runs:List (List Nat×List Int)
 af:List (List s3)
 foot:List (List (Nat×Int×Nat))
 aU:List (Nat×Int)
def Nt.ft (N:Nt) (s:Nat):List (Nat×Int):=(N.foot.getD s []).map λw=>(w.1,w.2.1)
def Nt.n (N:Nt):Nat:=N.chg.length
def Nt.len (N:Nt) (r:Nat):Nat:=(N.runs.getD r ([],[])).1.length
def Nt.stop (N:Nt) (r i:Nat):Nat:=(N.runs.getD r ([],[])).1.getD i 0
def Nt.comes (N:Nt) (r i:Nat):Int:=(N.runs.getD r ([],[])).2.getD i 0
def Gc:Int:=1000000
structure bp (N:Nt) (goes:Nat->Nat->Int):Prop where
 ha:N.af.length=N.n
 l0:N.foot.length=N.n
 sorted:∀s,s<N.n->(N.af.getD s []).Pairwise (λa b=>a.1<=b.1)
 af:∀s,s<N.n->∀g r i,(g,r,i)∈N.af.getD s []↔r<N.runs.length/\i+1<N.len r/\N.stop r i=s/\g=goes r i
 ew:∀r i,r<N.runs.length->i<N.len r->N.stop r i<N.n
 ie:∀r i,r<N.runs.length->i<N.len r->N.comes r i+240<Gc
 ku:∀r i,r<N.runs.length->i<N.len r->goes r i<Gc
 l_:∀r,r<N.runs.length->0<N.len r
 chg:∀s,s<N.n->0<=N.chg.getD s 0/\N.chg.getD s 0<=240
 foot:∀s g m,s<N.n->(g,m)∈N.ft s->g<N.n/\0<=m/\m<=240
inductive NJ (N:Nt) (goes:Nat->Nat->Int) (s0:Nat) (t0:Int):Nat->Nat->Nat->Int->Prop
 |start:NJ N goes s0 t0 0 0 s0 t0
 |walk {n w s g:Nat}{x m:Int}:NJ N goes s0 t0 n w s x->w≠2->(g,m)∈N.ft s->NJ N goes s0 t0 n 2 g (x+m)
 |ride {n w s r i j:Nat}{x:Int}:NJ N goes s0 t0 n w s x->r<N.runs.length->i<j->j<N.len r->N.stop r i=s->x+(if w=1 then N.chg.getD s 0 else 0)<=goes r i->NJ N goes s0 t0 (n+1) 1 (N.stop r j) (N.comes r j)
section
variable {N:Nt}{goes:Nat->Nat->Int}{s0:Nat}{t0:Int}
def Rk (N:Nt) (goes:Nat->Nat->Int) (s0:Nat) (t0:Int) (k s:Nat) (x:Int):Prop:=∃n,n<=k/\NJ N goes s0 t0 n 1 s x
def Fk (N:Nt) (goes:Nat->Nat->Int) (s0:Nat) (t0:Int) (k s:Nat) (x:Int):Prop:=∃n w,n<=k/\w≠1/\NJ N goes s0 t0 n w s x
def Ak (N:Nt) (goes:Nat->Nat->Int) (s0:Nat) (t0:Int) (k s:Nat) (x:Int):Prop:=∃n w,n<=k/\NJ N goes s0 t0 n w s x
def Gk (N:Nt) (goes:Nat->Nat->Int) (s0:Nat) (t0:Int) (k s:Nat) (x:Int):Prop:=Fk N goes s0 t0 k s x\/∃y,Rk N goes s0 t0 k s y/\x=y+N.chg.getD s 0
def bd (N:Nt) (goes:Nat->Nat->Int) (s0:Nat) (t0:Int) (k r i:Nat):Prop:=∃x,Gk N goes s0 t0 k (N.stop r i) x/\x<=goes r i
theorem sk {n w s:Nat}{x:Int}(h:NJ N goes s0 t0 n w s x):(n=0/\w=0/\s=s0/\x=t0)\/w=1\/w=2:=by(
cases h with
|start=>exact .inl ⟨O,O,O,O⟩
|walk _ _ _=>exact .inr (.inr rfl)
|ride _ _ _ _ _ _=>exact .inr (.inl rfl))
theorem me {s:Nat}{x:Int}:¬NJ N goes s0 t0 0 1 s x:=by
 intro h;cases h
theorem gi {k s:Nat}{x:Int}:Ak N goes s0 t0 k s x↔Fk N goes s0 t0 k s x\/Rk N goes s0 t0 k s x:=by(
constructor
·rintro⟨n,w,hn,h⟩;by_cases e:w=1
 ·subst e;exact .inr ⟨n,hn,h⟩
 ·exact .inl ⟨n,w,hn,e,h⟩
·rintro(⟨n,w,hn,_,h⟩|⟨n,hn,h⟩)
 ·exact⟨n,w,hn,h⟩
 ·exact⟨n,1,hn,h⟩)
theorem kN {s:Nat}{x:Int}:¬Rk N goes s0 t0 0 s x:=by
 rintro⟨n,hn,h⟩;rw[show n=0 by omega]at h;exact me h
theorem xy {k r i:Nat}:bd N goes s0 t0 k r i↔∃n w x,n<=k/\NJ N goes s0 t0 n w (N.stop r i) x/\x+(if w=1 then N.chg.getD (N.stop r i) 0 else 0)<=goes r i:=by(
constructor
·rintro⟨x,⟨n,w,hn,hw,h⟩|⟨y,⟨n,hn,h⟩,rfl⟩,a⟩
 ·exact⟨n,w,x,hn,h,by rw[Ps hw];omega⟩
 ·exact⟨n,1,y,hn,h,by rw[No rfl];exact a⟩
·rintro⟨n,w,x,hn,h,a⟩;by_cases e:w=1
 ·subst e;rw[No rfl]at a;exact⟨_,.inr ⟨x,⟨n,hn,h⟩,O⟩,a⟩
 ·rw[Ps e]at a;exact⟨x,.inl ⟨n,w,hn,e,h⟩,by omega⟩)
theorem ho {k s:Nat}{x:Int}:Rk N goes s0 t0 (k+1) s x↔∃r i j,r<N.runs.length/\i<j/\j<N.len r/\bd N goes s0 t0 k r i/\s=N.stop r j/\x=N.comes r j:=by(
constructor
·rintro⟨n,hn,h⟩;cases h with
 |@ride n w s r i j y h h1 h2 a b c=>
  subst b;exact⟨r,i,j,h1,h2,a,xy.mpr ⟨n,w,y,by omega,h,c⟩,O,O⟩
·rintro⟨r,i,j,h1,h2,a,d,rfl,rfl⟩;obtain⟨n,w,y,hn,h,e⟩:=xy.mp d;exact⟨n+1,by omega,NJ.ride h h1 h2 a rfl e⟩)
theorem rL {s:Nat}{x:Int}:Fk N goes s0 t0 0 s x↔(s=s0/\x=t0)\/∃m,(s,m)∈N.ft s0/\x=t0+m:=by(
constructor
·rintro⟨n,w,hn,hw,h⟩;cases h with
 |start=>exact .inl ⟨O,O⟩
 |@walk n w s g y m h h1 h2=>
  rcases sk h with⟨_,_,rfl,rfl⟩|e|e
  ·exact .inr ⟨m,h2,O⟩
  ·subst e;rw[show n=0 by omega]at h;exact absurd h me
  ·exact absurd e h1
 |ride=>exact absurd rfl hw
·rintro(⟨rfl,rfl⟩|⟨m,h,rfl⟩)
 ·exact⟨0,0,t1 _,by decide,.start⟩
 ·exact⟨0,2,t1 _,by decide,.walk .start (by decide) h⟩)
theorem jh {k s:Nat}{x:Int}:Fk N goes s0 t0 (k+1) s x↔Fk N goes s0 t0 k s x\/∃u y m,Rk N goes s0 t0 (k+1) u y/\(s,m)∈N.ft u/\x=y+m:=by(
constructor
·rintro⟨n,w,hn,hw,h⟩;by_cases e:n<=k
 ·exact .inl ⟨n,w,e,hw,h⟩
 ·cases h with
  |start=>omega
  |@walk n w s g y m h h1 h2=>
   rcases sk h with⟨a,_⟩|a|a
   ·omega
   ·subst a;exact .inr ⟨s,y,m,⟨n,hn,h⟩,h2,O⟩
   ·exact absurd a h1
  |ride=>exact absurd rfl hw
·rintro(⟨n,w,hn,hw,h⟩|⟨u,y,m,⟨n,hn,h⟩,h2,rfl⟩)
 ·exact⟨n,w,by omega,hw,h⟩
 ·exact⟨n,2,hn,by decide,.walk h (by decide) h2⟩)
theorem sW {k l s:Nat}{x:Int}(a:k<=l) (h:Rk N goes s0 t0 k s x):Rk N goes s0 t0 l s x:=by
 obtain⟨n,hn,h⟩:=h;exact⟨n,by omega,h⟩
theorem rf {k l s:Nat}{x:Int}(a:k<=l) (h:Ak N goes s0 t0 k s x):Ak N goes s0 t0 l s x:=by
 obtain⟨n,w,hn,h⟩:=h;exact⟨n,w,by omega,h⟩
theorem yl {k l s:Nat}{x:Int}(a:k<=l) (h:Fk N goes s0 t0 k s x):Fk N goes s0 t0 l s x:=by
 obtain⟨n,w,hn,hw,h⟩:=h;exact⟨n,w,by omega,hw,h⟩
theorem yx {k l s:Nat}{x:Int}(a:k<=l) (h:Gk N goes s0 t0 k s x):Gk N goes s0 t0 l s x:=by(
rcases h with h|⟨y,h,e⟩
·exact .inl (yl a h)
·exact .inr ⟨y,sW a h,e⟩)
theorem Ea {k l r i:Nat}(a:k<=l) (h:bd N goes s0 t0 k r i):bd N goes s0 t0 l r i:=by
 obtain⟨x,h,e⟩:=h;exact⟨x,yx a h,e⟩
theorem xx {k:Nat}(h:∀r i,r<N.runs.length->i+1<N.len r->bd N goes s0 t0 k r i->0<k/\bd N goes s0 t0 (k-1) r i):∀m,(∀s x,Rk N goes s0 t0 (k+m) s x↔Rk N goes s0 t0 k s x)/\(∀s x,Fk N goes s0 t0 (k+m) s x↔Fk N goes s0 t0 k s x)
 |0=>⟨λ_ _=>Iff.rfl,λ_ _=>Iff.rfl⟩
 |m+1=>by
  obtain⟨w,d⟩:=xx h m;have f:∀s x,Rk N goes s0 t0 (k+m+1) s x↔Rk N goes s0 t0 k s x:=by
   intro s x;refine⟨λa=>?_,sW (by omega)⟩;obtain⟨r,i,j,h1,h2,b,o,l,n⟩:=ho.mp a;have p:bd N goes s0 t0 k r i:=by
    obtain⟨z,hz,e⟩:=o;refine⟨z,?_,e⟩;rcases hz with hz|⟨y,hz,g⟩
    ·exact .inl ((d _ _).mp hz)
    ·exact .inr ⟨y,(w _ _).mp hz,g⟩
   obtain⟨A,t⟩:=h r i h1 (by omega) p;have:=ho.mpr ⟨r,i,j,h1,h2,b,t,l,n⟩
   rwa [show k-1+1=k by omega]at this
  refine⟨f,λs x=>⟨λa=>?_,yl (by omega)⟩⟩;rcases jh.mp a with a|⟨u,y,q,h1,h2,b⟩
  ·exact(d s x).mp a
  ·have c:=(f u y).mp h1;by_cases e:k=0
   ·subst e;exact absurd c kN
   ·have:=jh (N:=N) (goes:=goes) (s0:=s0) (t0:=t0) (k:=k-1) (s:=s) (x:=x);rw[show k-1+1=k by omega]at this;exact this.mpr (.inr ⟨u,y,q,c,h2,b⟩)
end
def mo (P:Int->Prop) (x:Int):Prop:=(P x\/x=Gc)/\∀y,P y->x<=y
theorem mo.congr {P Q:Int->Prop}{x:Int}(h:mo P x) (e:∀y,P y↔Q y):mo Q x:=by(
have:P=Q:=funext λy=>propext (e y)
rwa [<- this])
theorem mo.never {P:Int->Prop}(h:∀y,¬P y):mo P Gc:=⟨.inr rfl,λy q=>absurd q (h y)⟩
theorem mo.put {P:Int->Prop}{x y:Int}(h:mo P x):mo (λz=>P z\/z=y) (if y<x then y else x)\/¬y<Gc:=by(
by_cases a:y<Gc
·left;by_cases e:y<x
 ·rw[No e];refine⟨.inl (.inr rfl),λz hz=>?_⟩;rcases hz with hz|hz
  ·have:=h.2 z hz;omega
  ·omega
 ·rw[Ps e];refine⟨?_,λz hz=>?_⟩
  ·rcases h.1 with q|q
   ·exact .inl (.inl q)
   ·subst q;omega
  ·rcases hz with hz|hz
   ·exact h.2 z hz
   ·omega
·exact .inr a)
theorem mo.widen {P Q:Int->Prop}{x:Int}(h:mo P x) (h1:∀y,P y->Q y) (h2:∀y,Q y->∃z,P z/\z<=y):mo Q x:=by
 refine⟨h.1.imp (h1 x) id,λy a=>?_⟩;obtain⟨z,hz,b⟩:=h2 y a;have:=h.2 z hz;omega
theorem mo.minOf {P:Int->Prop}{x:Int}(h:mo P x) (hn:∀y,P y->y<Gc):ev P (if x=Gc then none else some x):=by(
by_cases e:x=Gc
·rw[No e];intro y a;have h1:=h.2 y a;have h2:=hn y a;omega
·rw[Ps e];rcases h.1 with q|q
 ·exact⟨q,h.2⟩
 ·exact absurd q e)
end Tw
namespace Tw
structure SS where
 taken:Nat
 arr:List Int
 rides:List Nat
 ab:List Int
 ready:List Int
 ah:List Nat
 aa:List Nat
 ae:List s3
def di:s3:=(0,0,0)
def aM (d:List s3) (ready:Int):Nat->List s3->Nat×List s3
 |0,b=>(0,b)
 |p+1,b=>if ready<=(d.getD p di).1 then aM d ready p (b++[d.getD p di])else(p+1,b)
def board (N:Nt) (S:SS) (stop:Nat) (ready:Int):SS:=
 {S with ah:=S.ah.set stop (aM (N.af.getD stop []) ready (S.ah.getD stop 0) S.ae).1,ae:=(aM (N.af.getD stop []) ready (S.ah.getD stop 0) S.ae).2}
def aw (S:SS) (stop:Nat) (Ix:Int):SS:=if Ix<S.arr.getD stop 0 then {S with arr:=S.arr.set stop Ix,rides:=S.rides.set stop S.taken}else S
def eM (N:Nt) (S:SS) (stop:Nat) (ready:Int):SS:=if ready<S.ready.getD stop 0 then board N {S with ready:=S.ready.set stop ready} stop ready else S
def au (N:Nt) (S:SS) (stop:Nat) (Ix ready:Int):SS:=eM N (aw S stop Ix) stop ready
def bx (N:Nt) (S:SS) (stop:Nat) (Ix:Int):SS:=(N.ft stop).foldl (λS w=>au N S w.1 (Ix+w.2) (Ix+w.2)) S
def gl (N:Nt):SS:=⟨0,g2 N.n Gc,g2 N.n 0,g2 N.n Gc,g2 N.n Gc,N.af.map cm,N.runs.map λr=>r.1.length-1,[]⟩
def b9 (N:Nt) (start:Nat) (Ix:Int):SS:=bx N (au N (gl N) start Ix Ix) start Ix
structure Off where
 aa:List Nat
 ab:List Int
 ai:List Nat
def cE (N:Nt) (run:Nat) (o:Off) (bX:Nat):Off:=
 if N.comes run bX<o.ab.getD (N.stop run bX) 0 then {o with ab:=o.ab.set (N.stop run bX) (N.comes run bX),ai:=if N.stop run bX∈o.ai then o.ai else o.ai++[N.stop run bX]}else o
def ea (N:Nt) (o:Off) (e:s3):Off:=
 if e.2.2<o.aa.getD e.2.1 0 then(j3 (e.2.2+1) (o.aa.getD e.2.1 0-e.2.2)).foldl (cE N e.2.1) {o with aa:=o.aa.set e.2.1 e.2.2}else o
def bt (N:Nt) (S:SS):Off:=S.ae.foldl (ea N) ⟨S.aa,S.ab,[]⟩
def a8 (N:Nt) (S:SS) (stop:Nat):SS:=bx N (au N S stop (S.ab.getD stop 0) (S.ab.getD stop 0+N.chg.getD stop 0)) stop (S.ab.getD stop 0)
def cj (N:Nt) (S:SS):SS:=
 (bt N S).ai.foldl (a8 N) {S with taken:=S.taken+1,aa:=(bt N S).aa,ab:=(bt N S).ab,ae:=[]}
theorem gC {a:Type}{l:List a}{s:Nat}{x:a}(b:s<l.length) (u:Nat) (d:a):(l.set s x).getD u d=if u=s then x else l.getD u d:=by(
simp only[nw,Bm];by_cases e:u=s
·subst e;simp[b]
·simp[e,Ne.symm e])
theorem getD_mem {b:Type}{l:List b}{p:Nat}(a:p<l.length) (d:b):l.getD p d∈l:=by
 rw[nw,im a];exact eH a
theorem mem_getD {a:Type}{l:List a}{x:a}(h:x∈l) (d:a):∃p,p<l.length/\l.getD p d=x:=by
 obtain⟨p,b,e⟩:=Bf.mp h;refine⟨p,b,?_⟩;rw[nw,im b];exact e
theorem Jr {a:Type}{R:a->a->Prop}{l:List a}(h:l.Pairwise R) {p q:Nat}(c:p<q) (b:q<l.length) (d:a):R (l.getD p d) (l.getD q d):=by
 rw[nw,nw,im (by omega),im b];exact jX.mp h p q (by omega) b c
theorem xJ {d:List s3}{ready:Int}(j:d.Pairwise (λa b=>a.1<=b.1)):∀(p:Nat) (b:List s3),p<=d.length->
  (aM d ready p b).1<=p/\(∀q,q<(aM d ready p b).1->(d.getD q di).1<ready)/\(∀q,(aM d ready p b).1<=q->q<p->ready<=(d.getD q di).1/\d.getD q di∈(aM d ready p b).2)/\
  (∀e,e∈(aM d ready p b).2->e∈b\/(e∈d/\ready<=e.1))/\(∀e,e∈b->e∈(aM d ready p b).2)/\(aM d ready p b).2.length+(aM d ready p b).1=b.length+p
 |0,b,_=>⟨t1 _,λq h=>absurd h (wj _),λq _ h=>absurd h (wj _),λe h=>.inl h,λe h=>h,O⟩
 |p+1,b,o=>by
  unfold aM;by_cases c:ready<=(d.getD p di).1
  ·rw[No c];obtain⟨h1,h2,k,l,i,m⟩:=xJ j p (b++[d.getD p di]) (by omega);refine⟨by omega,h2,λq f n=>?_,λe g=>?_,λe g=>i e (f_ _ g),by rw[lv,bz]at m;omega⟩
   ·by_cases e:q=p
    ·subst e;exact⟨c,i _ (by simp)⟩
    ·exact k q f (by omega)
   ·rcases l e g with h|h
    ·rcases f1.mp h with h|h
     ·exact .inl h
     ·simp at h;subst h;exact .inr ⟨getD_mem (by omega) _,c⟩
    ·exact .inr h
  ·rw[Ps c];refine⟨t1 _,λq f=>?_,λq f n=>by dsimp only at f;omega,λe h=>.inl h,λe h=>h,O⟩;dsimp only at f;by_cases e:q=p
   ·subst e;omega
   ·have:=Jr j (show q<p by omega) (by omega) di;omega
structure aG (N:Nt) (bL:Nat->Int->Prop) (FR:Nat->Int->Nat->Prop) (ext aA:s3->Prop) (A G:Nat->Int->Prop) (S:SS):Prop where
 c9:S.arr.length=N.n
 c_:S.rides.length=N.n
 dr:S.ready.length=N.n
 dt:S.ah.length=N.n
 arr:∀s,s<N.n->mo (A s) (S.arr.getD s 0)
 sub:∀s x,s<N.n->bL s x->A s x
 rides:∀s,s<N.n->S.arr.getD s 0<Gc->(bL s (S.arr.getD s 0)/\FR s (S.arr.getD s 0) (S.rides.getD s 0))\/(¬bL s (S.arr.getD s 0)/\S.rides.getD s 0=S.taken)
 ready:∀s,s<N.n->mo (G s) (S.ready.getD s 0)
 bw:∀s,s<N.n->S.ah.getD s 0<=(N.af.getD s []).length
 dV:∀s,s<N.n->∀p,p<S.ah.getD s 0->((N.af.getD s []).getD p di).1<S.ready.getD s 0
 dc:∀s,s<N.n->∀p,S.ah.getD s 0<=p->p<(N.af.getD s []).length->S.ready.getD s 0<=((N.af.getD s []).getD p di).1
 dJ:∀e,e∈S.ae->ext e\/∃s,s<N.n/\e∈N.af.getD s []/\S.ready.getD s 0<=e.1
 cN:∀s,s<N.n->∀e,e∈N.af.getD s []->S.ready.getD s 0<=e.1->aA e\/e∈S.ae
section
variable {N:Nt}{goes:Nat->Nat->Int}{bL:Nat->Int->Prop}{FR:Nat->Int->Nat->Prop}{ext aA:s3->Prop}
theorem aG.congr {A G b G':Nat->Int->Prop}{S:SS}(h:aG N bL FR ext aA A G S) (c:∀s,s<N.n->∀x,A s x↔b s x) (hg:∀s,s<N.n->∀x,G s x↔G' s x):aG N bL FR ext aA b G' S:=
 {h with
  arr:=λs a=>(h.arr s a).congr (c s a)
  sub:=λs x a o=>(c s a x).mp (h.sub s x a o)
  ready:=λs a=>(h.ready s a).congr (hg s a)}
theorem aG.widen {A G b G':Nat->Int->Prop}{S:SS}(h:aG N bL FR ext aA A G S) (c:∀s,s<N.n->∀x,A s x->b s x) (d:∀s,s<N.n->∀x,b s x->∃z,A s z/\z<=x) (hg:∀s,s<N.n->∀x,G s x->G' s x) (e:∀s,s<N.n->∀x,G' s x->∃z,G s z/\z<=x):aG N bL FR ext aA b G' S:=
 {h with
  arr:=λs a=>(h.arr s a).widen (c s a) (d s a)
  sub:=λs x a o=>c s a x (h.sub s x a o)
  ready:=λs a=>(h.ready s a).widen (hg s a) (e s a)}
theorem aG.aw {A G:Nat->Int->Prop}{S:SS}(h:aG N bL FR ext aA A G S) {stop:Nat}{Ix:Int}(b:stop<N.n) (hm:Ix<Gc):aG N bL FR ext aA (λs x=>A s x\/(s=stop/\x=Ix)) G (aw S stop Ix):=by(
unfold Tw.aw;have put:=λs b=>((h.arr s b).put (y:=Ix)).resolve_right (λq=>q hm);have same:∀s,s<N.n->s≠stop->∀x,(A s x\/(s=stop/\x=Ix))↔A s x:=λs _ g x=>⟨λq=>q.elim id (λq=>absurd q.1 g),.inl⟩;have at_:∀x,(A stop x\/x=Ix)↔(A stop x\/(stop=stop/\x=Ix)):=λx=>by simp
by_cases c:Ix<S.arr.getD stop 0
·rw[No c];have d:∀s,(S.arr.set stop Ix).getD s 0=if s=stop then Ix else S.arr.getD s 0:=λs=>gC (by rw[h.c9];exact b) s 0;have f:∀s,(S.rides.set stop S.taken).getD s 0=if s=stop then S.taken else S.rides.getD s 0:=λs=>gC (by rw[h.c_];exact b) s 0;refine {c9:=by simp[h.c9],c_:=by simp[h.c_],dr:=h.dr,dt:=h.dt,arr:=λs a=>?_,sub:=λs x a o=>.inl (h.sub s x a o),rides:=λs a hn=>?_,ready:=h.ready,bw:=h.bw,dV:=h.dV,dc:=h.dc,dJ:=h.dJ,cN:=h.cN}
 ·show mo _ ((S.arr.set stop Ix).getD s 0);rw[d];by_cases e:s=stop
  ·rw[No e];subst e;have:=put s a;rw[No c]at this;exact this.congr at_
  ·rw[Ps e];exact(h.arr s a).congr λx=>(same s a e x).symm
 ·have hn:(S.arr.set stop Ix).getD s 0<Gc:=hn;show(bL s ((S.arr.set stop Ix).getD s 0)/\FR s ((S.arr.set stop Ix).getD s 0) ((S.rides.set stop S.taken).getD s 0))\/(¬bL s ((S.arr.set stop Ix).getD s 0)/\(S.rides.set stop S.taken).getD s 0=S.taken);rw[d]at hn⊢;rw[f];by_cases e:s=stop
  ·simp only[No e]at hn⊢;subst e;refine .inr ⟨λo=>?_,trivial⟩;have:=(h.arr s a).2 Ix (h.sub s Ix a o);omega
  ·simp only[Ps e]at hn⊢;exact h.rides s a hn
·rw[Ps c];refine {h with arr:=λs a=>?_,sub:=λs x a o=>.inl (h.sub s x a o)};by_cases e:s=stop
 ·subst e;have:=put s a;rw[Ps c]at this;exact this.congr at_
 ·exact(h.arr s a).congr λx=>(same s a e x).symm)
theorem aG.eM (ok:bp N goes) {A G:Nat->Int->Prop}{S:SS}(h:aG N bL FR ext aA A G S) {stop:Nat}{ready:Int}(i:stop<N.n) (hm:ready<Gc):aG N bL FR ext aA A (λs x=>G s x\/(s=stop/\x=ready)) (eM N S stop ready):=by(
unfold Tw.eM;have put:=λs i=>((h.ready s i).put (y:=ready)).resolve_right (λq=>q hm);have same:∀s,s<N.n->s≠stop->∀x,(G s x\/(s=stop/\x=ready))↔G s x:=λs _ E x=>⟨λq=>q.elim id (λq=>absurd q.1 E),.inl⟩;have at_:∀x,(G stop x\/x=ready)↔(G stop x\/(stop=stop/\x=ready)):=λx=>by simp
by_cases c:ready<S.ready.getD stop 0
·rw[No c];have d:∀s,(S.ready.set stop ready).getD s 0=if s=stop then ready else S.ready.getD s 0:=λs=>gC (by rw[h.dr];exact i) s 0;obtain⟨u,k,l,t,m,w⟩:=xJ (ready:=ready) (ok.sorted stop i) (S.ah.getD stop 0) S.ae (h.bw stop i);generalize D:aM (N.af.getD stop []) ready (S.ah.getD stop 0) S.ae=L at u k l t m w;have z:board N {S with ready:=S.ready.set stop ready} stop ready= {S with ready:=S.ready.set stop ready,ah:=S.ah.set stop L.1,ae:=L.2}:=by
  unfold board;simp only[D]
 rw[z];have r:∀s,(S.ah.set stop L.1).getD s 0=if s=stop then L.1 else S.ah.getD s 0:=λs=>gC (by rw[h.dt];exact i) s 0;have le:∀s,(S.ready.set stop ready).getD s 0<=S.ready.getD s 0:=λs=>by
  rw[d];by_cases e:s=stop
  ·rw[No e];subst e;omega
  ·rw[Ps e];omega
 refine {c9:=h.c9,c_:=h.c_,dr:=by simp[h.dr],dt:=by simp[h.dt],arr:=h.arr,sub:=h.sub,rides:=h.rides,ready:=λs a=>?_,bw:=λs a=>?_,dV:=λs a p g=>?_,dc:=λs a p g f=>?_,dJ:=λe j=>?_,cN:=λs a e j f=>?_}
 ·show mo _ ((S.ready.set stop ready).getD s 0);rw[d];by_cases e:s=stop
  ·rw[No e];subst e;have:=put s a;rw[No c]at this;exact this.congr at_
  ·rw[Ps e];exact(h.ready s a).congr λx=>(same s a e x).symm
 ·show(S.ah.set stop L.1).getD s 0<=_;rw[r];by_cases e:s=stop
  ·rw[No e];subst e;have:=h.bw s a;omega
  ·rw[Ps e];exact h.bw s a
 ·have b:p<(S.ah.set stop L.1).getD s 0:=g;clear g;show _<(S.ready.set stop ready).getD s 0;rw[r]at b;rw[d];by_cases e:s=stop
  ·rw[No e]at b ⊢;subst e;exact k p b
  ·rw[Ps e]at b ⊢;exact h.dV s a p b
 ·have b:(S.ah.set stop L.1).getD s 0<=p:=g;clear g;show(S.ready.set stop ready).getD s 0<=_;rw[r]at b;by_cases e:s=stop
  ·rw[No e]at b;rw[d,No e];subst e;by_cases q:p<S.ah.getD s 0
   ·exact(l p b q).1
   ·have:=h.dc s a p (by omega) f;omega
  ·rw[Ps e]at b;rw[d,Ps e];exact h.dc s a p b f
 ·rcases t e j with q|⟨J,Q⟩
  ·rcases h.dJ e q with h0|⟨s,h1,h2,C⟩
   ·exact .inl h0
   ·exact .inr ⟨s,h1,h2,wz (le s) C⟩
  ·refine .inr ⟨stop,i,J,?_⟩;show(S.ready.set stop ready).getD stop 0<=_;rw[d,No rfl];exact Q
 ·have f:(S.ready.set stop ready).getD s 0<=e.1:=f;show aA e\/e∈L.2;by_cases es:s=stop
  ·rw[d,No es]at f;subst es;obtain⟨p,g,rfl⟩:=mem_getD j di;by_cases q:p<S.ah.getD s 0
   ·by_cases H:L.1<=p
    ·exact .inr (l p H q).2
    ·have:=k p (by omega);omega
   ·have:=h.dc s a p (by omega) g;rcases h.cN s a _ j this with o|o
    ·exact .inl o
    ·exact .inr (m _ o)
  ·rw[d,Ps es]at f;rcases h.cN s a e j f with o|o
   ·exact .inl o
   ·exact .inr (m _ o)
·rw[Ps c];refine {h with ready:=λs a=>?_};by_cases e:s=stop
 ·subst e;have:=put s a;rw[Ps c]at this;exact this.congr at_
 ·exact(h.ready s a).congr λx=>(same s a e x).symm)
theorem aG.au (ok:bp N goes) {A G:Nat->Int->Prop}{S:SS}(h:aG N bL FR ext aA A G S) {stop:Nat}{Ix ready:Int}(a:stop<N.n) (hm:Ix<Gc) (hr:ready<Gc):
  aG N bL FR ext aA (λs x=>A s x\/(s=stop/\x=Ix)) (λs x=>G s x\/(s=stop/\x=ready)) (au N S stop Ix ready):=
 (h.aw a hm).eM ok a hr
theorem AS (ok:bp N goes) {Ix:Int}:∀(W:List (Nat×Int)) {A G:Nat->Int->Prop}{S:SS},(∀g m,(g,m)∈W->g<N.n/\Ix+m<Gc)->aG N bL FR ext aA A G S->
  aG N bL FR ext aA (λs x=>A s x\/∃m,(s,m)∈W/\x=Ix+m) (λs x=>G s x\/∃m,(s,m)∈W/\x=Ix+m) (W.foldl (λS w=>Tw.au N S w.1 (Ix+w.2) (Ix+w.2)) S)
 |[],A,G,S,_,h=>h.congr (λs _ x=>by simp) (λs _ x=>by simp)
 |(g,m)::W,A,G,S,hw,h=>by
  rw[dF];obtain⟨h1,h2⟩:=hw g m (lc ..);have e:∀(P:Nat->Int->Prop) (s:Nat) (x:Int),((P s x\/(s=g/\x=Ix+m))\/∃a,(s,a)∈W/\x=Ix+a)↔(P s x\/∃a,(s,a)∈(g,m)::W/\x=Ix+a):=by
   intro P s x;constructor
   ·rintro((q|⟨rfl,q⟩)|⟨a,b,c⟩)
    ·exact .inl q
    ·exact .inr ⟨m,lc ..,q⟩
    ·exact .inr ⟨a,on _ b,c⟩
   ·rintro(q|⟨a,b,c⟩)
    ·exact .inl (.inl q)
    ·rcases s1.mp b with b|b
     ·injection b with d f;subst d f;exact .inl (.inr ⟨O,c⟩)
     ·exact .inr ⟨a,b,c⟩
  exact(AS ok W (λg' a h'=>hw g' a (on _ h')) (h.au ok h1 h2 h2)).congr (λs _ x=>e A s x) (λs _ x=>e G s x)
theorem aG.bx (ok:bp N goes) {A G:Nat->Int->Prop}{S:SS}(h:aG N bL FR ext aA A G S) {stop:Nat}{Ix:Int}(b:stop<N.n) (hm:Ix+240<Gc):
  aG N bL FR ext aA (λs x=>A s x\/∃m,(s,m)∈N.ft stop/\x=Ix+m) (λs x=>G s x\/∃m,(s,m)∈N.ft stop/\x=Ix+m) (bx N S stop Ix):=
 AS ok _ (λg m a=>by obtain⟨h1,h2,c⟩:=ok.foot stop g m b a;exact⟨h1,by omega⟩) h
theorem rg (S:SS) (stop:Nat) (Ix ready:Int):(au N S stop Ix ready).taken=S.taken/\(au N S stop Ix ready).ab=S.ab/\(au N S stop Ix ready).aa=S.aa:=by
 unfold Tw.au Tw.eM Tw.aw board;split<;>split<;>exact⟨O,O,O⟩
theorem yo (Ix:Int):∀(W:List (Nat×Int)) (S:SS),(W.foldl (λS w=>au N S w.1 (Ix+w.2) (Ix+w.2)) S).taken=S.taken/\(W.foldl (λS w=>au N S w.1 (Ix+w.2) (Ix+w.2)) S).ab=S.ab/\(W.foldl (λS w=>au N S w.1 (Ix+w.2) (Ix+w.2)) S).aa=S.aa
 |[],S=>⟨O,O,O⟩
 |w::W,S=>by
  rw[dF];obtain⟨h1,h2,a⟩:=yo Ix W (au N S w.1 (Ix+w.2) (Ix+w.2));obtain⟨b,c,d⟩:=rg (N:=N) S w.1 (Ix+w.2) (Ix+w.2);exact⟨h1.trans b,h2.trans c,a.trans d⟩
theorem AU (S:SS) (stop:Nat) (Ix:Int):(bx N S stop Ix).taken=S.taken/\(bx N S stop Ix).ab=S.ab/\(bx N S stop Ix).aa=S.aa:=yo Ix _ S
theorem su (S:SS) (stop:Nat):(a8 N S stop).taken=S.taken/\(a8 N S stop).ab=S.ab/\(a8 N S stop).aa=S.aa:=by
 unfold a8;obtain⟨h1,h2,a⟩:=AU (N:=N) (au N S stop (S.ab.getD stop 0) (S.ab.getD stop 0+N.chg.getD stop 0)) stop (S.ab.getD stop 0);obtain⟨b,c,d⟩:=rg (N:=N) S stop (S.ab.getD stop 0) (S.ab.getD stop 0+N.chg.getD stop 0);exact⟨h1.trans b,h2.trans c,a.trans d⟩
theorem sr (ok:bp N goes) (ab:List Int):∀(U:List Nat) {A G:Nat->Int->Prop}{S:SS},S.ab=ab->(∀u,u∈U->u<N.n/\ab.getD u 0+240<Gc)->aG N bL FR ext aA A G S->
  aG N bL FR ext aA (λs x=>A s x\/(s∈U/\x=ab.getD s 0)\/∃u m,u∈U/\(s,m)∈N.ft u/\x=ab.getD u 0+m)
   (λs x=>G s x\/(s∈U/\x=ab.getD s 0+N.chg.getD s 0)\/∃u m,u∈U/\(s,m)∈N.ft u/\x=ab.getD u 0+m) (U.foldl (a8 N) S)
 |[],A,G,S,_,_,h=>h.congr (λs _ x=>by simp) (λs _ x=>by simp)
 |u::U,A,G,S,hr,hu,h=>by
  rw[dF];obtain⟨h1,h2⟩:=hu u (lc ..);have d:=ok.chg u h1;have step:aG N bL FR ext aA _ _ (a8 N S u):=(h.au ok (Ix:=S.ab.getD u 0) (ready:=S.ab.getD u 0+N.chg.getD u 0) h1 (by rw[hr];omega) (by rw[hr];omega)).bx ok h1 (by rw[hr];exact h2);refine(sr ok ab U ((su S u).2.1.trans hr) (λv hv=>hu v (on _ hv)) step).congr (λs _ x=>?_) (λs _ x=>?_)
  all_goals
   rw[hr];constructor
   ·rintro(((q|⟨rfl,q⟩)|⟨m,a,b⟩)|⟨a,b⟩|⟨v,m,a,b,c⟩)
    ·exact .inl q
    ·exact .inr (.inl ⟨lc ..,q⟩)
    ·exact .inr (.inr ⟨u,m,lc ..,a,b⟩)
    ·exact .inr (.inl ⟨on _ a,b⟩)
    ·exact .inr (.inr ⟨v,m,on _ a,b,c⟩)
   ·rintro(q|⟨a,b⟩|⟨v,m,a,b,c⟩)
    ·exact .inl (.inl (.inl q))
    ·rcases s1.mp a with rfl|a
     ·exact .inl (.inl (.inr ⟨O,b⟩))
     ·exact .inr (.inl ⟨a,b⟩)
    ·rcases s1.mp a with rfl|a
     ·exact .inl (.inr ⟨m,b,c⟩)
     ·exact .inr (.inr ⟨v,m,a,b,c⟩)
end
end Tw
namespace Tw
section
variable {N:Nt}{goes:Nat->Nat->Int}{s0:Nat}{t0:Int}
structure OffI (N:Nt) (a:List Int) (P:Nat->Int->Prop) (o:Off):Prop where
 len:o.ab.length=N.n
 min:∀s,s<N.n->mo (P s) (o.ab.getD s 0)
 le:∀s,s<N.n->o.ab.getD s 0<=a.getD s 0
 ai:∀s,s∈o.ai↔s<N.n/\o.ab.getD s 0<a.getD s 0
theorem OffI.congr {b:List Int}{P Q:Nat->Int->Prop}{o:Off}(h:OffI N b P o) (e:∀s,s<N.n->∀x,P s x↔Q s x):OffI N b Q o:=
 {h with min:=λs a=>(h.min s a).congr (e s a)}
theorem OffI.step {g:List Int}{P:Nat->Int->Prop}{o:Off}{run bX:Nat}(h:OffI N g P o) (b:N.stop run bX<N.n) (f:N.comes run bX<Gc):
  OffI N g (λs x=>P s x\/(s=N.stop run bX/\x=N.comes run bX)) (cE N run o bX):=by(
unfold cE;generalize j:N.stop run bX=st at b⊢;generalize i:N.comes run bX=c at f⊢;have put:=λs b=>((h.min s b).put (y:=c)).resolve_right (λq=>q f);by_cases q:c<o.ab.getD st 0
·rw[No q];have d:∀s,(o.ab.set st c).getD s 0=if s=st then c else o.ab.getD s 0:=λs=>gC (by rw[h.len];exact b) s 0;refine {len:=by simp[h.len],min:=λs a=>?_,le:=λs a=>?_,ai:=λs=>?_}
 ·show mo _ ((o.ab.set st c).getD s 0);rw[d];by_cases e:s=st
  ·rw[No e];subst e;have:=put s a;rw[No q]at this;exact this.congr λx=>by simp
  ·rw[Ps e];exact(h.min s a).congr λx=>by simp[e]
 ·show(o.ab.set st c).getD s 0<=_;rw[d];by_cases e:s=st
  ·rw[No e];subst e;have:=h.le s a;omega
  ·rw[Ps e];exact h.le s a
 ·show s∈(if st∈o.ai then o.ai else o.ai++[st])↔s<N.n/\(o.ab.set st c).getD s 0<_;rw[d];by_cases e:s=st
  ·rw[No e];subst e;have:=h.le s b;refine⟨λ_=>⟨b,by omega⟩,λ_=>?_⟩;split
   ·assumption
   ·simp
  ·rw[Ps e,<-h.ai s];split
   ·exact Iff.rfl
   ·simp[e]
·rw[Ps q];refine {h with min:=λs a=>?_};by_cases e:s=st
 ·subst e;have:=put s a;rw[Ps q]at this;exact this.congr λx=>by simp
 ·exact(h.min s a).congr λx=>by simp[e])
theorem H0 (run:Nat) (o:Off) (bX:Nat):(cE N run o bX).aa=o.aa:=by
 unfold cE;split<;>rfl
theorem zb {d:List Int}(run:Nat):∀(L:List Nat) {P:Nat->Int->Prop}{o:Off},(∀j,j∈L->N.stop run j<N.n/\N.comes run j<Gc)->OffI N d P o->
  OffI N d (λs x=>P s x\/∃j,j∈L/\s=N.stop run j/\x=N.comes run j) (L.foldl (cE N run) o)/\(L.foldl (cE N run) o).aa=o.aa
 |[],P,o,_,h=>⟨h.congr λs _ x=>by simp,O⟩
 |j::L,P,o,c,h=>by
  rw[dF];obtain⟨h1,h2⟩:=c j (lc ..);obtain⟨e,f⟩:=zb run L (λi hi=>c i (on _ hi)) (h.step h1 h2);refine⟨e.congr λs _ x=>?_,f.trans (H0 run o j)⟩;constructor
  ·rintro((q|q)|⟨i,a,b⟩)
   ·exact .inl q
   ·exact .inr ⟨j,lc ..,q⟩
   ·exact .inr ⟨i,on _ a,b⟩
  ·rintro(q|⟨i,a,b⟩)
   ·exact .inl (.inl q)
   ·rcases s1.mp a with rfl|a
    ·exact .inl (.inr b)
    ·exact .inr ⟨i,a,b⟩
def Behind (N:Nt) (aa:List Nat) (s:Nat) (x:Int):Prop:=∃r j,r<N.runs.length/\aa.getD r 0<j/\j<N.len r/\s=N.stop r j/\x=N.comes r j
structure fO (N:Nt) (b:List Int) (a:List Nat) (UV:List s3) (o:Off):Prop where
 off:OffI N b (Behind N o.aa) o
 cO:o.aa.length=N.runs.length
 ff:∀r,r<N.runs.length->o.aa.getD r 0<=a.getD r 0
 leB:∀e,e∈UV->o.aa.getD e.2.1 0<=e.2.2
 from_:∀r,r<N.runs.length->o.aa.getD r 0=a.getD r 0\/∃e,e∈UV/\e.2.1=r/\e.2.2=o.aa.getD r 0
theorem fO.run (ok:bp N goes) {t:List Int}{m:List Nat}{UV:List s3}{o:Off}(h:fO N t m UV o) (h0:∀r,r<N.runs.length->m.getD r 0<N.len r) {e:s3}(f:e.2.1<N.runs.length):fO N t m (UV++[e]) (ea N o e):=by(
obtain⟨g,run,call⟩:=e;simp only at f;unfold ea;simp only;by_cases c:call<o.aa.getD run 0
·rw[No c];have A:=h.ff run f;have C:=h0 run f;have k:∀r,(o.aa.set run call).getD r 0=if r=run then call else o.aa.getD r 0:=λr=>gC (by rw[h.cO];exact f) r 0;have y:OffI N t (Behind N o.aa) {o with aa:=o.aa.set run call}:= {len:=h.off.len,min:=h.off.min,le:=h.off.le,ai:=h.off.ai};obtain⟨u,i⟩:=zb (N:=N) run (j3 (call+1) (o.aa.getD run 0-call)) (λj z=>by
  rw[q3]at z;have h1:=ok.ew run j f (by omega);have h2:=ok.ie run j f (by omega);exact⟨h1,by omega⟩) y
 generalize (j3 (call+1) (o.aa.getD run 0-call)).foldl (cE N run) {o with aa:=o.aa.set run call}=o' at u i;simp only at i;refine {off:=u.congr λs _ x=>?_,cO:=by rw[i];simp[h.cO],ff:=λr hr=>?_,leB:=λe n=>?_,from_:=λr hr=>?_}
 ·unfold Behind;rw[i];constructor
  ·rintro(⟨r,j,d,b,l⟩|⟨j,d,b⟩)
   ·refine⟨r,j,d,?_,l⟩;rw[k];by_cases a:r=run
    ·rw[No a];subst a;omega
    ·rw[Ps a];exact b
   ·rw[q3]at d;exact⟨run,j,f,by rw[k,No rfl];omega,by omega,b⟩
  ·rintro⟨r,j,d,b,l,p⟩;rw[k]at b;by_cases a:r=run
   ·rw[No a]at b;subst a;by_cases w:o.aa.getD r 0<j
    ·exact .inl ⟨r,j,d,w,l,p⟩
    ·exact .inr ⟨j,by rw[q3];omega,p⟩
   ·rw[Ps a]at b;exact .inl ⟨r,j,d,b,l,p⟩
 ·rw[i,k];by_cases a:r=run
  ·rw[No a];subst a;omega
  ·rw[Ps a];exact h.ff r hr
 ·rw[i,k];rcases f1.mp n with q|q
  ·have:=h.leB e q;by_cases a:e.2.1=run
   ·rw[No a];rw[a]at this;omega
   ·rw[Ps a];exact this
  ·simp at q;subst q;simp
 ·rw[i,k];by_cases a:r=run
  ·rw[No a];exact .inr ⟨(g,run,call),by simp,a.symm,O⟩
  ·rw[Ps a];rcases h.from_ r hr with q|⟨e,d,b⟩
   ·exact .inl q
   ·exact .inr ⟨e,f_ _ d,b⟩
·rw[Ps c];refine {h with leB:=λe n=>?_,from_:=λr hr=>?_}
 ·rcases f1.mp n with q|q
  ·exact h.leB e q
  ·simp at q;subst q;simp only;omega
 ·rcases h.from_ r hr with q|⟨e,d,b⟩
  ·exact .inl q
  ·exact .inr ⟨e,f_ _ d,b⟩)
theorem fO.fold (ok:bp N goes) {c:List Int}{a:List Nat}(h0:∀r,r<N.runs.length->a.getD r 0<N.len r):∀(L UV:List s3) {o:Off},(∀e,e∈L->e.2.1<N.runs.length)->fO N c a UV o->fO N c a (UV++L) (L.foldl (ea N) o)
 |[],UV,o,_,h=>by simpa using h
 |e::L,UV,o,b,h=>by
  have:=fO.fold ok h0 L (UV++[e]) (λd f=>b d (on _ f)) (h.run ok h0 (b e (lc ..)));rw[dd]at this;exact this
def nI (N:Nt) (goes:Nat->Nat->Int) (s0:Nat) (t0:Int) (k s:Nat) (x:Int) (r:Nat):Prop:=r<=k/\Ak N goes s0 t0 r s x/\∀m,m<r->¬Ak N goes s0 t0 m s x
def ju (N:Nt) (goes:Nat->Nat->Int) (s0:Nat) (t0:Int) (k:Nat) (e:s3):Prop:=0<k/\bd N goes s0 t0 (k-1) e.2.1 e.2.2
structure SInv (N:Nt) (goes:Nat->Nat->Int) (s0:Nat) (t0:Int) (k:Nat) (S:SS):Prop where
 taken:S.taken=k
 mid:aG N (λ_ _=>False) (λ_ _ _=>True) (λ_=>False) (ju N goes s0 t0 k) (Ak N goes s0 t0 k) (Gk N goes s0 t0 k) {S with rides:=g2 N.n k}
 c_:S.rides.length=N.n
 rides:∀s,s<N.n->S.arr.getD s 0<Gc->nI N goes s0 t0 k s (S.arr.getD s 0) (S.rides.getD s 0)
 eT:S.ab.length=N.n
 ab:∀s,s<N.n->mo (Rk N goes s0 t0 k s) (S.ab.getD s 0)
 cO:S.aa.length=N.runs.length
 gp:∀r,r<N.runs.length->S.aa.getD r 0<N.len r
 gq:∀r,r<N.runs.length->S.aa.getD r 0+1=N.len r\/(0<k/\bd N goes s0 t0 (k-1) r (S.aa.getD r 0))
 lY:∀r i,r<N.runs.length->i+1<N.len r->0<k->bd N goes s0 t0 (k-1) r i->S.aa.getD r 0<=i
theorem SInv.za {k:Nat}{S:SS}{bL:Nat->Int->Prop}{FR:Nat->Int->Nat->Prop}(a:S.taken=k) (h:aG N bL FR (λ_=>False) (ju N goes s0 t0 k) (Ak N goes s0 t0 k) (Gk N goes s0 t0 k) S)
  (hr:∀s,s<N.n->S.arr.getD s 0<Gc->nI N goes s0 t0 k s (S.arr.getD s 0) (S.rides.getD s 0))
  (eT:S.ab.length=N.n) (ab:∀s,s<N.n->mo (Rk N goes s0 t0 k s) (S.ab.getD s 0)) (cO:S.aa.length=N.runs.length) (gp:∀r,r<N.runs.length->S.aa.getD r 0<N.len r)
  (gq:∀r,r<N.runs.length->S.aa.getD r 0+1=N.len r\/(0<k/\bd N goes s0 t0 (k-1) r (S.aa.getD r 0)))
  (lY:∀r i,r<N.runs.length->i+1<N.len r->0<k->bd N goes s0 t0 (k-1) r i->S.aa.getD r 0<=i):SInv N goes s0 t0 k S:=
 ⟨a,{c9:=h.c9,c_:=by simp,dr:=h.dr,dt:=h.dt,arr:=h.arr,sub:=λ_ _ _ q=>q.elim,rides:=λs b _=>.inr ⟨λq=>q,by rw[a];simp[nw,ny,b]⟩,ready:=h.ready,bw:=h.bw,dV:=h.dV,dc:=h.dc,dJ:=h.dJ,cN:=h.cN},h.c_,hr,eT,ab,cO,gp,gq,lY⟩
theorem kb (ok:bp N goes) (l:s0<N.n) (C:t0+240<Gc):SInv N goes s0 t0 0 (b9 N s0 t0):=by(
have rep:∀ {E:Type}(n s:Nat) (x d:E),s<n->(g2 n x).getD s d=x:=λn s x d a=>by simp[nw,ny,a]
have h:∀s,s<N.n->(N.af.map cm).getD s 0=(N.af.getD s []).length:=λs a=>by
 simp only[nw,pr];rw[im (by rw[ok.ha];exact a)];rfl
have j:∀s,s<N.n->∀e,e∈N.af.getD s []->e.1<Gc:=λs a e c=>by
 obtain⟨g,r,i⟩:=e;obtain⟨h1,h2,_,H⟩:=(ok.af s a g r i).mp c;have:=ok.ku r i h1 (by omega);simp only;omega
have D:aG N (λ_ _=>False) (λ_ _ _=>True) (λ_=>False) (ju N goes s0 t0 0) (λ_ _=>False) (λ_ _=>False) (gl N):= {
 c9:=by simp[gl]
 c_:=by simp[gl]
 dr:=by simp[gl]
 dt:=by simp[gl,ok.ha]
 arr:=λs a=>by show mo _ ((g2 N.n Gc).getD s 0);rw[rep _ _ _ _ a];exact mo.never λ_ q=>q
 sub:=λ_ _ _ q=>q
 rides:=λs a hn=>by
  have hn:(g2 N.n Gc).getD s 0<Gc:=hn;rw[rep _ _ _ _ a]at hn;omega
 ready:=λs a=>by show mo _ ((g2 N.n Gc).getD s 0);rw[rep _ _ _ _ a];exact mo.never λ_ q=>q
 bw:=λs a=>jU (h s a)
 dV:=λs a p b=>by
  have b:p<(N.af.map cm).getD s 0:=b;rw[h s a]at b;show _<(g2 N.n Gc).getD s 0;rw[rep _ _ _ _ a];exact j s a _ (getD_mem b _)
 dc:=λs a p b f=>by
  have b:(N.af.map cm).getD s 0<=p:=b;rw[h s a]at b;omega
 dJ:=λe c=>by simp[gl]at c
 cN:=λs a e c f=>by
  have f:(g2 N.n Gc).getD s 0<=e.1:=f;rw[rep _ _ _ _ a]at f;have:=j s a e c;omega}
have m1:=(D.au ok l (Ix:=t0) (ready:=t0) (by omega) (by omega)).bx ok l C;have key:∀s x,Fk N goes s0 t0 0 s x↔((False\/(s=s0/\x=t0))\/∃m,(s,m)∈N.ft s0/\x=t0+m):=λs x=>by rw[rL];simp
have m2:aG N _ _ (λ_=>False) (ju N goes s0 t0 0) (Ak N goes s0 t0 0) (Gk N goes s0 t0 0) (b9 N s0 t0):=m1.congr
 (λs _ x=>by rw[gi,<-key];exact⟨.inl,λq=>q.elim id λq=>absurd q kN⟩)
 (λs _ x=>by rw[<- key];exact⟨.inl,λq=>q.elim id λ⟨y,q,_⟩=>absurd q kN⟩)
obtain⟨o,t,u⟩:=AU (N:=N) (au N (gl N) s0 t0 t0) s0 t0;obtain⟨w,z,A⟩:=rg (N:=N) (gl N) s0 t0 t0;have k:∀r,r<N.runs.length->(b9 N s0 t0).aa.getD r 0=N.len r-1:=λr hr=>by
 show(bx N _ s0 t0).aa.getD r 0=_;rw[u,A];show(N.runs.map λr=>r.1.length-1).getD r 0=_;simp only[nw,pr,Nt.len];rw[im hr];rfl
refine SInv.za (show(bx N _ s0 t0).taken=0 from o.trans w) m2 (λs a hn=>?_) ?_ (λs a=>?_) ?_ (λr hr=>?_) (λr hr=>?_) (λr i _ _ h0=>absurd h0 (by omega))
·rcases m2.rides s a hn with⟨q,_⟩|⟨_,q⟩
 ·exact q.elim
 ·rw[q,show(b9 N s0 t0).taken=0 from o.trans w];refine⟨t1 _,?_,λm hm=>absurd hm (by omega)⟩;rcases(m2.arr s a).1 with q|q
  ·exact q
  ·omega
·show(bx N _ s0 t0).ab.length=_;rw[t,z];simp[gl]
·show mo _ ((bx N _ s0 t0).ab.getD s 0);rw[t,z];show mo _ ((g2 N.n Gc).getD s 0);rw[rep _ _ _ _ a];exact mo.never λ_ q=>kN q
·show(bx N _ s0 t0).aa.length=_;rw[u,A];simp[gl]
·rw[k r hr];have:=ok.l_ r hr;omega
·rw[k r hr];have:=ok.l_ r hr;exact .inl (by omega))
theorem Ly (ok:bp N goes) {k:Nat}{S:SS}(h:SInv N goes s0 t0 k S):SInv N goes s0 t0 (k+1) (cj N S):=by(
have hm:=h.mid;have mA:∀s,s<N.n->mo (Ak N goes s0 t0 k s) (S.arr.getD s 0):=hm.arr;have Nj:∀s,s<N.n->mo (Gk N goes s0 t0 k s) (S.ready.getD s 0):=hm.ready;have Nl:∀e,e∈S.ae->e.2.1<N.runs.length/\e.2.2+1<N.len e.2.1/\bd N goes s0 t0 k e.2.1 e.2.2:=by
 rintro⟨g,r,i⟩ t;obtain⟨s,b,h1,h2⟩:=(hm.dJ _ t).resolve_left id;have h2:S.ready.getD s 0<=g:=h2;obtain⟨a,c,d,A⟩:=(ok.af s b g r i).mp h1;refine⟨a,c,S.ready.getD s 0,?_,by rw[<- A];exact h2⟩;have hg:=ok.ku r i a (by omega);simp only;rw[d];rcases(Nj s b).1 with q|q
 ·exact q
 ·rw[q]at h2;omega
have Nz:∀r i,r<N.runs.length->i+1<N.len r->bd N goes s0 t0 k r i->ju N goes s0 t0 k (goes r i,r,i)\/(goes r i,r,i)∈S.ae:=by
 rintro r i hr hi ⟨x,L,w⟩;have b:=ok.ew r i hr (by omega);refine hm.cN _ b _ ((ok.af _ b _ _ _).mpr ⟨hr,hi,O,O⟩) ?_;have:=(Nj _ b).2 x L;show S.ready.getD (N.stop r i) 0<=goes r i;omega
have f:fO N S.ab S.aa ([]++S.ae) (bt N S):=by
 refine fO.fold ok h.gp S.ae [] (λe t=>(Nl e t).1) ?_;refine {off:= {len:=h.eT,min:=λs b=>(h.ab s b).congr λx=>?_,le:=λs b=>e2 _,ai:=λs=>?_},cO:=h.cO,ff:=λr hr=>t1 _,leB:=λe t=>by simp at t,from_:=λr hr=>.inl rfl}
 ·constructor
  ·rintro L;by_cases Ny:k=0
   ·subst Ny;exact absurd L kN
   ·have:=ho (N:=N) (goes:=goes) (s0:=s0) (t0:=t0) (k:=k-1) (s:=s) (x:=x);rw[show k-1+1=k by omega]at this;obtain⟨r,i,j,h1,h2,l,C,J⟩:=this.mp L;have:=h.lY r i h1 (by omega) (by omega) C;exact⟨r,j,h1,by simp only;omega,l,J⟩
  ·rintro⟨r,j,h1,h2,l,C,J⟩;rcases h.gq r h1 with q|⟨a,c⟩
   ·simp only at h2;omega
   ·have:=ho (N:=N) (goes:=goes) (s0:=s0) (t0:=t0) (k:=k-1) (s:=s) (x:=x);rw[show k-1+1=k by omega]at this;exact this.mpr ⟨r,_,j,h1,h2,l,c,C,J⟩
 ·simp
rw[lB]at f;generalize NA:bt N S=o at f;have Nm:∀r,r<N.runs.length->o.aa.getD r 0+1=N.len r\/(o.aa.getD r 0+1<N.len r/\bd N goes s0 t0 k r (o.aa.getD r 0)):=by
 intro r hr;have h1:=f.ff r hr;have h2:=h.gp r hr;rcases f.from_ r hr with q|⟨e,a,c,d⟩
 ·rcases h.gq r hr with p|⟨NF,p2⟩
  ·exact .inl (by omega)
  ·by_cases e:o.aa.getD r 0+1=N.len r
   ·exact .inl e
   ·exact .inr ⟨by omega,by rw[q];exact Ea (by omega) p2⟩
 ·obtain⟨NF,p2,Np⟩:=Nl e a;rw[c,d]at Np;rw[c,d]at p2;exact .inr ⟨p2,Np⟩
have Nn:∀r i,r<N.runs.length->i+1<N.len r->bd N goes s0 t0 k r i->o.aa.getD r 0<=i:=by
 intro r i hr hi Nk;rcases Nz r i hr hi Nk with⟨a,c⟩|q
 ·have:=h.lY r i hr hi a c;have:=f.ff r hr;omega
 ·exact f.leB _ q
have D:∀s,s<N.n->mo (Rk N goes s0 t0 (k+1) s) (o.ab.getD s 0):=λs b=>(f.off.min s b).congr λx=>by
 rw[ho];constructor
 ·rintro⟨r,j,h1,h2,l,C⟩;rcases Nm r h1 with q|⟨_,q⟩
  ·omega
  ·exact⟨r,_,j,h1,h2,l,q,C⟩
 ·rintro⟨r,i,j,h1,h2,l,C,J⟩;have:=Nn r i h1 (by omega) C;exact⟨r,j,h1,by omega,l,J⟩
have ND:aG N (Ak N goes s0 t0 k) (nI N goes s0 t0 k) (λ_=>False) (ju N goes s0 t0 (k+1)) (Ak N goes s0 t0 k) (Gk N goes s0 t0 k) {S with taken:=S.taken+1,aa:=o.aa,ab:=o.ab,ae:=[]}:= {
 c9:=hm.c9,c_:=h.c_,dr:=hm.dr,dt:=hm.dt,arr:=mA,sub:=λ_ _ _ q=>q
 rides:=λs b hn=>by
  refine .inl ⟨?_,h.rides s b hn⟩;rcases(mA s b).1 with q|q
  ·exact q
  ·have hn:S.arr.getD s 0<Gc:=hn;omega
 ready:=Nj,bw:=hm.bw,dV:=hm.dV,dc:=hm.dc
 dJ:=λe t=>by simp at t
 cN:=λs b e t w=>by
  obtain⟨g,r,i⟩:=e;obtain⟨a,c,d,A⟩:=(ok.af s b g r i).mp t;have w:S.ready.getD s 0<=g:=w;have hg:=ok.ku r i a (by omega);refine .inl ⟨by omega,S.ready.getD s 0,?_,by simp only;omega⟩;simp only[wh];rw[d];rcases(Nj s b).1 with q|q
  ·exact q
  ·rw[q]at w;omega}
have dY:∀u,u∈o.ai->u<N.n/\Rk N goes s0 t0 (k+1) u (o.ab.getD u 0)/\o.ab.getD u 0+240<Gc:=by
 intro u hu;obtain⟨h1,h2⟩:=(f.off.ai u).mp hu;have l:Rk N goes s0 t0 (k+1) u (o.ab.getD u 0):=by
  rcases(D u h1).1 with q|q
  ·exact q
  ·rcases(h.ab u h1).1 with p|p
   ·obtain⟨r,i,j,a,c,d,_,_,A⟩:=ho.mp (sW (hL _) p);have:=ok.ie r j a d;omega
   ·omega
 refine⟨h1,l,?_⟩;obtain⟨r,i,j,a,c,d,_,_,A⟩:=ho.mp l;rw[A];exact ok.ie r j a d
have m1:=sr ok o.ab o.ai (S:= {S with taken:=S.taken+1,aa:=o.aa,ab:=o.ab,ae:=[]}) rfl (λu hu=>⟨(dY u hu).1,(dY u hu).2.2⟩) ND;have Nx:cj N S=o.ai.foldl (a8 N) {S with taken:=S.taken+1,aa:=o.aa,ab:=o.ab,ae:=[]}:=by
 unfold cj;rw[NA]
have keep:∀(U:List Nat) (Z:SS),(U.foldl (a8 N) Z).taken=Z.taken/\(U.foldl (a8 N) Z).ab=Z.ab/\(U.foldl (a8 N) Z).aa=Z.aa:=by
 intro U
 induction U with
 |nil=>intro Z;exact⟨O,O,O⟩
 |cons u U NC=>
  intro Z;rw[dF];obtain⟨a1,a2,a3⟩:=NC (a8 N Z u);obtain⟨Nu,Nv,Nw⟩:=su (N:=N) Z u;exact⟨a1.trans Nu,a2.trans Nv,a3.trans Nw⟩
obtain⟨Y,T,H⟩:=keep o.ai {S with taken:=S.taken+1,aa:=o.aa,ab:=o.ab,ae:=[]};rw[<- Nx]at m1 Y T H;simp only at Y T H;have aA:∀u y,u<N.n->u∉o.ai->Rk N goes s0 t0 (k+1) u y->0<k/\∃z,Rk N goes s0 t0 k u z/\z<=y:=by
 intro u y hu hr Q;have h1:=(D u hu).2 y Q;have h2:¬o.ab.getD u 0<S.ab.getD u 0:=λq=>hr ((f.off.ai u).mpr ⟨hu,q⟩);obtain⟨r,i,j,a,c,d,_,_,A⟩:=ho.mp Q;have l:=ok.ie r j a d;rcases(h.ab u hu).1 with q|q
 ·refine⟨?_,_,q,by omega⟩;cases k with
  |zero=>exact absurd q kN
  |succ k=>omega
 ·omega
have Nr:∀u s z m,0<k->Rk N goes s0 t0 k u z->(s,m)∈N.ft u->Fk N goes s0 t0 k s (z+m):=by
 intro u s z m E hz hf;have:=jh (N:=N) (goes:=goes) (s0:=s0) (t0:=t0) (k:=k-1) (s:=s) (x:=z+m);rw[show k-1+1=k by omega]at this;exact this.mpr (.inr ⟨u,z,m,hz,hf,O⟩)
have Nq:∀u y,Rk N goes s0 t0 (k+1) u y->u<N.n:=by
 intro u y Q;obtain⟨r,i,j,a,c,d,_,A,_⟩:=ho.mp Q;rw[A];exact ok.ew r j a d
have m2:aG N (Ak N goes s0 t0 k) (nI N goes s0 t0 k) (λ_=>False) (ju N goes s0 t0 (k+1)) (Ak N goes s0 t0 (k+1)) (Gk N goes s0 t0 (k+1)) (cj N S):=by
 refine m1.widen (λs b x q=>?_) (λs b x q=>?_) (λs b x q=>?_) (λs b x q=>?_)
 ·rcases q with q|⟨a,c⟩|⟨u,m,a,c,d⟩
  ·exact rf (hL _) q
  ·rw[c];exact gi.mpr (.inr (dY s a).2.1)
  ·exact gi.mpr (.inl (jh.mpr (.inr ⟨u,_,m,(dY u a).2.1,c,d⟩)))
 ·rcases gi.mp q with q|q
  ·rcases jh.mp q with q|⟨u,y,m,a,c,d⟩
   ·exact⟨x,.inl (gi.mpr (.inl q)),e2 _⟩
   ·have hu:=Nq u y a;by_cases e:u∈o.ai
    ·have:=(D u hu).2 y a;exact⟨_,.inr (.inr ⟨u,m,e,c,O⟩),by omega⟩
    ·obtain⟨E,z,hz,w⟩:=aA u y hu e a;exact⟨z+m,.inl (gi.mpr (.inl (Nr u s z m E hz c))),by omega⟩
  ·by_cases e:s∈o.ai
   ·have:=(D s b).2 x q;exact⟨_,.inr (.inl ⟨e,O⟩),this⟩
   ·obtain⟨E,z,hz,w⟩:=aA s x b e q;exact⟨z,.inl (gi.mpr (.inr hz)),w⟩
 ·rcases q with q|⟨a,c⟩|⟨u,m,a,c,d⟩
  ·exact yx (hL _) q
  ·exact .inr ⟨_,(dY s a).2.1,c⟩
  ·exact .inl (jh.mpr (.inr ⟨u,_,m,(dY u a).2.1,c,d⟩))
 ·rcases q with q|⟨y,q,NG⟩
  ·rcases jh.mp q with q|⟨u,y,m,a,c,d⟩
   ·exact⟨x,.inl (.inl q),e2 _⟩
   ·have hu:=Nq u y a;by_cases e:u∈o.ai
    ·have:=(D u hu).2 y a;exact⟨_,.inr (.inr ⟨u,m,e,c,O⟩),by omega⟩
    ·obtain⟨E,z,hz,w⟩:=aA u y hu e a;exact⟨z+m,.inl (.inl (Nr u s z m E hz c)),by omega⟩
  ·by_cases e:s∈o.ai
   ·have:=(D s b).2 y q;exact⟨_,.inr (.inl ⟨e,O⟩),by omega⟩
   ·obtain⟨E,z,hz,w⟩:=aA s y b e q;exact⟨z+N.chg.getD s 0,.inl (.inr ⟨z,hz,O⟩),by omega⟩
refine SInv.za (by rw[Y,h.taken]) m2 (λs b hn=>?_) (by rw[T];exact f.off.len) (λs b=>by rw[T];exact D s b) (by rw[H];exact f.cO) (λr hr=>?_) (λr hr=>?_) (λr i hr hi _ Nk=>?_)
·rcases m2.rides s b hn with⟨_,q⟩|⟨a,c⟩
 ·exact⟨by have:=q.1;omega,q.2.1,q.2.2⟩
 ·rw[c,Y,h.taken];refine⟨t1 _,?_,λm hm q=>a (rf (by omega) q)⟩;rcases(m2.arr s b).1 with q|q
  ·exact q
  ·omega
·rw[H];have:=f.ff r hr;have:=h.gp r hr;omega
·rw[H];rcases Nm r hr with q|⟨_,q⟩
 ·exact .inl q
 ·exact .inr ⟨by omega,by simpa using q⟩
·rw[H];exact Nn r i hr hi (by simpa using Nk))
theorem uq (ok:bp N goes) {k:Nat}{S:SS}(h:SInv N goes s0 t0 k S) (p:S.ae=[]) {s:Nat}(f:s<N.n):
  mo (λx=>∃n w,NJ N goes s0 t0 n w s x) (S.arr.getD s 0)/\(S.arr.getD s 0<Gc->d4 (λn=>∃w,NJ N goes s0 t0 n w s (S.arr.getD s 0)) (some (S.rides.getD s 0))):=by(
have t:∀r i,r<N.runs.length->i+1<N.len r->bd N goes s0 t0 k r i->0<k/\bd N goes s0 t0 (k-1) r i:=by
 rintro r i hr hi ⟨x,a,u⟩;have b:=ok.ew r i hr (by omega);have:=(h.mid.ready _ b).2 x a;rcases h.mid.cN _ b _ ((ok.af _ b _ _ _).mpr ⟨hr,hi,O,O⟩) (by show S.ready.getD (N.stop r i) 0<=goes r i;exact wz this u)with q|q
 ·exact q
 ·have q:(goes r i,r,i)∈S.ae:=q;rw[p]at q;simp at q
have o:∀n w x,NJ N goes s0 t0 n w s x->Ak N goes s0 t0 k s x:=by
 intro n w x a;by_cases e:n<=k
 ·exact⟨n,w,e,a⟩
 ·obtain⟨c,d⟩:=xx t (n-k);rw[show k+(n-k)=n by omega]at c d;rcases gi.mp (⟨n,w,t1 _,a⟩:Ak N goes s0 t0 n s x)with q|q
  ·exact gi.mpr (.inl ((d s x).mp q))
  ·exact gi.mpr (.inr ((c s x).mp q))
have l:mo (Ak N goes s0 t0 k s) (S.arr.getD s 0):=h.mid.arr s f;refine⟨l.congr λx=>⟨λ⟨n,w,_,q⟩=>⟨n,w,q⟩,λ⟨n,w,q⟩=>o n w x q⟩,λhn=>?_⟩;obtain⟨z,⟨n,w,A,g⟩,j⟩:=h.rides s f hn;have en:n=S.rides.getD s 0:=by
 by_cases e:n<S.rides.getD s 0
 ·exact absurd ⟨n,w,t1 _,g⟩ (j n e)
 ·omega
subst en;exact⟨⟨w,g⟩,λm hm ⟨y,q⟩=>j m hm ⟨m,y,t1 _,q⟩⟩)
end
end Tw
namespace Tw
structure Sys where
 ride:Nat->Int->Nat->Int->Prop
 walk:Nat->Nat->Int->Prop
 chg:Nat->Int
inductive GJ (Y:Sys) (s0:Nat) (t0:Int):Nat->Nat->Nat->Int->Prop
 |start:GJ Y s0 t0 0 0 s0 t0
 |walk {n w s g:Nat}{x m:Int}:GJ Y s0 t0 n w s x->w≠2->Y.walk s g m->GJ Y s0 t0 n 2 g (x+m)
 |ride {n w s s':Nat}{x g c:Int}:GJ Y s0 t0 n w s x->Y.ride s g s' c->x+(if w=1 then Y.chg s else 0)<=g->GJ Y s0 t0 (n+1) 1 s' c
def Sys.back (Y:Sys):Sys:=⟨λs g s' c=>Y.ride s' (-c) s (-g),λs s' m=>Y.walk s' s m,Y.chg⟩
def gh (Y:Sys) (s:Nat) (x:Int) (s':Nat) (y:Int):Prop:=(s=s'/\x<=y)\/∃m,Y.walk s s' m/\x+m<=y
def hY (Y:Sys) (s:Nat) (x:Int) (s':Nat) (y:Int):Prop:=(s=s'/\x+Y.chg s<=y)\/∃m,Y.walk s s' m/\x+m<=y
def Rd (Y:Sys) (s:Nat) (x:Int):Nat->Nat->Int->Prop
 |0,s',c=>∃a g,gh Y s x a g/\Y.ride a g s' c
 |n+1,s',c=>∃b c2 a g,Rd Y s x n b c2/\hY Y b c2 a g/\Y.ride a g s' c
def Dr (Y:Sys) (s':Nat) (y:Int):Nat->Nat->Int->Prop
 |0,s,g=>∃a c,Y.ride s g a c/\gh Y a c s' y
 |n+1,s,g=>∃a c b g3,Y.ride s g a c/\hY Y a c b g3/\Dr Y s' y n b g3
section
variable {Y:Sys}{s s':Nat}{x y:Int}
theorem xK:∀(m n:Nat),(∃a c2 b g3,Rd Y s x n a c2/\hY Y a c2 b g3/\Dr Y s' y m b g3)↔∃a c2 b g3,Rd Y s x 0 a c2/\hY Y a c2 b g3/\Dr Y s' y (n+m) b g3
 |m,0=>by rw[qD]
 |m,n+1=>by
  have h:=xK (m+1) n;rw[show n+(m+1)=n+1+m by omega]at h;rw[<- h];constructor
  ·rintro⟨a,c2,b,g3,⟨f,c4,g,g5,h1,h2,c⟩,d,e⟩;exact⟨f,c4,g,g5,h1,h2,a,c2,b,g3,c,d,e⟩
  ·rintro⟨f,c4,g,g5,h1,h2,a,c2,b,g3,c,d,e⟩;exact⟨a,c2,b,g3,⟨f,c4,g,g5,h1,h2,c⟩,d,e⟩
theorem J8 (n:Nat):(∃a c2,Rd Y s x n a c2/\gh Y a c2 s' y)↔∃e d,gh Y s x e d/\Dr Y s' y n e d:=by(
cases n with
|zero=>
 constructor
 ·rintro⟨a,c2,⟨e,d,h1,h2⟩,c⟩;exact⟨e,d,h1,a,c2,h2,c⟩
 ·rintro⟨e,d,h1,a,c2,h2,c⟩;exact⟨a,c2,⟨e,d,h1,h2⟩,c⟩
|succ n=>
 have b:=xK (Y:=Y) (s:=s) (s':=s') (x:=x) (y:=y) 0 n;rw[Nat.add_zero]at b;constructor
 ·rintro⟨a,c2,⟨o,c4,p,g5,h1,h2,c⟩,i⟩;obtain⟨a2,g,a3,h,⟨a1,f,j,k⟩,l,m⟩:=b.mp ⟨o,c4,p,g5,h1,h2,a,c2,c,i⟩;exact⟨a1,f,j,a2,g,a3,h,k,l,m⟩
 ·rintro⟨a1,f,j,a2,g,a3,h,k,l,m⟩;obtain⟨o,c4,p,g5,h1,h2,a,c2,c,i⟩:=b.mpr ⟨a2,g,a3,h,⟨a1,f,j,k⟩,l,m⟩;exact⟨a,c2,⟨o,c4,p,g5,h1,h2,c⟩,i⟩)
theorem ma:gh Y.back s' (-y) s (-x)↔gh Y s x s' y:=by(
unfold gh Sys.back;constructor
·rintro(⟨rfl,h⟩|⟨m,h1,h2⟩)
 ·exact .inl ⟨O,by omega⟩
 ·exact .inr ⟨m,h1,by omega⟩
·rintro(⟨rfl,h⟩|⟨m,h1,h2⟩)
 ·exact .inl ⟨O,by omega⟩
 ·exact .inr ⟨m,h1,by omega⟩)
theorem yY:hY Y.back s' (-y) s (-x)↔hY Y s x s' y:=by(
unfold hY Sys.back;constructor
·rintro(⟨rfl,h⟩|⟨m,h1,h2⟩)
 ·exact .inl ⟨O,by simp only at h;omega⟩
 ·exact .inr ⟨m,h1,by omega⟩
·rintro(⟨rfl,h⟩|⟨m,h1,h2⟩)
 ·exact .inl ⟨O,by simp only;omega⟩
 ·exact .inr ⟨m,h1,by omega⟩)
theorem kL:∀(n s:Nat) (g:Int),Rd Y.back s' (-y) n s (-g)↔Dr Y s' y n s g
 |0,s,g=>by
  constructor
  ·rintro⟨a,c,h1,h2⟩;have e:Y.ride s (- -g) a (-c):=h2;rw[dG]at e;refine⟨a,-c,e,?_⟩;rw[<- ma,dG];exact h1
  ·rintro⟨a,c,h1,h2⟩;refine⟨a,-c,ma.mpr h2,?_⟩;show Y.ride s (- -g) a (- -c);rw[dG,dG];exact h1
 |n+1,s,g=>by
  constructor
  ·rintro⟨b,g3,a,c,h1,h2,d⟩;have f:Y.ride s (- -g) a (-c):=d;rw[dG]at f;refine⟨a,-c,b,-g3,f,?_,?_⟩
   ·rw[<- yY,dG,dG];exact h2
   ·rw[<- kL n b (-g3),dG];exact h1
  ·rintro⟨a,c,b,g3,h1,h2,d⟩;refine⟨b,-g3,a,-c,(kL n b g3).mpr d,yY.mpr h2,?_⟩;show Y.ride s (- -g) a (- -c);rw[dG,dG];exact h1
theorem kq {s0:Nat}{t0:Int}{n w s:Nat}{x:Int}(h:GJ Y s0 t0 n w s x):(n=0/\w=0/\s=s0/\x=t0)\/w=1\/w=2:=by(
cases h with
|start=>exact .inl ⟨O,O,O,O⟩
|walk _ _ _=>exact .inr (.inr rfl)
|ride _ _ _=>exact .inr (.inl rfl))
theorem l2 {s0:Nat}{t0:Int}{n w:Nat}(h:GJ Y s0 t0 n w s x):(w=0->n=0/\s=s0/\x=t0)/\(w=2->∃u z m,Y.walk u s m/\x=z+m/\((n=0/\u=s0/\z=t0)\/GJ Y s0 t0 n 1 u z)):=by(
cases h with
|start=>exact⟨λ_=>⟨O,O,O⟩,λe=>by cases e⟩
|@walk n w u g z m h hw d=>
 refine⟨λe=>(by cases e),λ_=>⟨u,z,m,d,O,?_⟩⟩;rcases kq h with⟨a,f,b,c⟩|e|e
 ·exact .inl ⟨a,b,c⟩
 ·subst e;exact .inr h
 ·exact absurd e hw
|ride _ _ _=>exact⟨λe=>(by cases e),λe=>(by cases e)⟩)
theorem ik {s0:Nat}{t0:Int}:∀(n s:Nat) (c:Int),GJ Y s0 t0 (n+1) 1 s c↔Rd Y s0 t0 n s c
 |0,s,c=>by
  constructor
  ·intro h;cases h with
   |@ride n w u _ z g _ h hr b=>
    refine⟨u,g,?_,hr⟩;rcases kq h with⟨_,j,k,l⟩|e|e
    ·subst j k l;exact .inl ⟨O,by simpa using b⟩
    ·subst e;cases h
    ·subst e;obtain⟨v,f,m,h1,h2,a⟩:=(l2 h).2 rfl;rcases a with⟨_,rfl,rfl⟩|a
     ·exact .inr ⟨m,h1,by rw[Ps (by decide)]at b;omega⟩
     ·cases a
  ·rintro⟨p,g,h1,h2⟩;rcases h1 with⟨rfl,h1⟩|⟨m,h1,a⟩
   ·exact GJ.ride .start h2 (by simpa using h1)
   ·exact GJ.ride (GJ.walk .start (by decide) h1) h2 (by simpa using a)
 |n+1,s,c=>by
  constructor
  ·intro h;cases h with
   |@ride _ w u _ z g _ h hr b=>
    rcases kq h with⟨d,_⟩|e|e
    ·cases d
    ·subst e;exact⟨u,z,u,g,(ik n u z).mp h,.inl ⟨O,by simpa using b⟩,hr⟩
    ·subst e;obtain⟨v,f,m,h1,h2,a⟩:=(l2 h).2 rfl;rcases a with⟨d,_⟩|a
     ·cases d
     ·exact⟨v,f,u,g,(ik n v f).mp a,.inr ⟨m,h1,by rw[Ps (by decide)]at b;omega⟩,hr⟩
  ·rintro⟨q,c2,p,g,h1,h2,a⟩;have i:=(ik n q c2).mpr h1;rcases h2 with⟨rfl,h2⟩|⟨m,h2,o⟩
   ·exact GJ.ride i a (by simpa using h2)
   ·exact GJ.ride (GJ.walk i (by decide) h2) a (by simpa using o)
def By (Y:Sys) (s0:Nat) (t0:Int) (n s:Nat) (y:Int):Prop:=∃w x,GJ Y s0 t0 n w s x/\x<=y
theorem xO {s0:Nat}{t0:Int}:By Y s0 t0 0 s y↔gh Y s0 t0 s y:=by(
constructor
·rintro⟨w,x,h,b⟩;rcases kq h with⟨_,_,rfl,rfl⟩|e|e
 ·exact .inl ⟨O,b⟩
 ·subst e;cases h
 ·subst e;obtain⟨v,c,m,h1,h2,a⟩:=(l2 h).2 rfl;rcases a with⟨_,rfl,rfl⟩|a
  ·exact .inr ⟨m,h1,by omega⟩
  ·cases a
·rintro(⟨rfl,h⟩|⟨m,h1,h2⟩)
 ·exact⟨0,t0,.start,h⟩
 ·exact⟨2,t0+m,.walk .start (by decide) h1,h2⟩)
theorem xN {s0:Nat}{t0:Int}{n:Nat}:By Y s0 t0 (n+1) s y↔∃a c2,Rd Y s0 t0 n a c2/\gh Y a c2 s y:=by(
constructor
·rintro⟨w,x,h,g⟩;rcases kq h with⟨e,_⟩|e|e
 ·cases e
 ·subst e;exact⟨s,x,(ik n s x).mp h,.inl ⟨O,g⟩⟩
 ·subst e;obtain⟨v,d,m,h1,h2,b⟩:=(l2 h).2 rfl;rcases b with⟨e,_⟩|b
  ·cases e
  ·exact⟨v,d,(ik n v d).mp b,.inr ⟨m,h1,by omega⟩⟩
·rintro⟨a,c2,h1,h2⟩;have c:=(ik n a c2).mpr h1;rcases h2 with⟨rfl,h2⟩|⟨m,h2,f⟩
 ·exact⟨1,c2,c,h2⟩
 ·exact⟨2,c2+m,.walk c (by decide) h2,f⟩)
theorem El {a b:Nat}{u v:Int}(n:Nat):By Y.back b (-v) n a (-u)↔By Y a u n b v:=by(
cases n with
|zero=>rw[xO,xO];exact ma
|succ n=>
 rw[xN,xN,J8 (Y:=Y)];constructor
 ·rintro⟨e,c2,h1,h2⟩;refine⟨e,-c2,?_,?_⟩
  ·rw[<- ma,dG];exact h2
  ·rw[<- kL,dG];exact h1
 ·rintro⟨d,c,h1,h2⟩;exact⟨d,-c,(kL n d c).mpr h2,ma.mpr h1⟩)
end
def Nt.sys (N:Nt) (goes:Nat->Nat->Int):Sys:=⟨λs g s' c=>∃r i j,r<N.runs.length/\i<j/\j<N.len r/\s=N.stop r i/\g=goes r i/\s'=N.stop r j/\c=N.comes r j,λs g m=>(g,m)∈N.ft s,λs=>N.chg.getD s 0⟩
theorem d_ {N:Nt}{goes:Nat->Nat->Int}{s0:Nat}{t0:Int}{n w s:Nat}{x:Int}:NJ N goes s0 t0 n w s x↔GJ (N.sys goes) s0 t0 n w s x:=by(
constructor
·intro h
 induction h with
 |start=>exact .start
 |walk _ hw hf a=>exact .walk a hw hf
 |ride _ h1 h2 b c d a=>exact .ride a ⟨_,_,_,h1,h2,b,c.symm,O,O,O⟩ d
·intro h
 induction h with
 |start=>exact .start
 |walk _ hw hf a=>exact .walk a hw hf
 |ride _ hr g a=>
  obtain⟨r,i,j,h1,h2,b,c,d,e,f⟩:=hr;rw[e,f];exact .ride a h1 h2 b c.symm (by rw[<- d];exact g))
open Sg45 in
def aB (T:Go) (M:Nat):Sys:=⟨λs g s' c=>∃x,x∈v2 T M/\∃i j,i<j/\j<x.2.2.calls.length/\s=x.2.2.stopAt i/\g=x.2.2.goes M x.2.1 i/\s'=x.2.2.stopAt j/\c=x.2.2.comes M x.2.1 j,λs g m=>∃w,w∈T.walks/\w.from_=s/\w.to=g/\m=(w.minutes:Int),λs=>((T.stops.getD s 0:Nat):Int)⟩
theorem yG {T:Go}{M s0:Nat}{t0:Int}{n:Nat}{y:jS}:Jn T M ⟨s0,t0,0⟩ n y↔GJ (aB T M) s0 t0 n y.way y.halt y.time:=by(
constructor
·intro h
 induction h with
 |nil=>exact .start
 |walk _ g a=>
  obtain⟨w,b,c,d,rfl⟩:=aH.mp g;exact .walk a d ⟨w,pi b,c,O,O⟩
 |@ride n y z p k i j _ g a=>
  obtain⟨tr,b,c,d,m,o,q,r,rfl⟩:=bH.mp g;exact .ride a ⟨(p,k,tr),c'.mpr ⟨b,c,d⟩,i,j,m,o,q.symm,O,O,O⟩ (by simpa [chg,aB]using r)
·obtain⟨A,C,D⟩:=y;simp only;intro h
 induction h with
 |start=>exact .nil
 |walk _ hw u a=>
  obtain⟨w,h1,h2,e,f⟩:=u;obtain⟨i,hi⟩:=fD.mp h1;exact Jn.walk a (aH.mpr ⟨w,hi,h2,hw,by rw[e,f]⟩)
 |ride _ hr l a=>
  obtain⟨⟨p,k,tr⟩,x,i,j,h1,h2,e,f,s,t⟩:=hr;obtain⟨b,c,d⟩:=c'.mp x;exact Jn.ride a (bH.mpr ⟨tr,b,c,d,h1,h2,e.symm,by rw[f]at l;simpa [chg,aB]using l,by rw[s,t]⟩))
theorem GJ.map {Y Z:Sys}(hr:∀s g s' c,Y.ride s g s' c->Z.ride s g s' c) (hw:∀s g m,Y.walk s g m->Z.walk s g m) (b:∀s,Y.chg s=Z.chg s) {s0:Nat}{t0:Int}{n w s:Nat}{x:Int}(h:GJ Y s0 t0 n w s x):GJ Z s0 t0 n w s x:=by(
induction h with
|start=>exact .start
|walk _ i d a=>exact .walk a i (hw _ _ _ d)
|ride _ f e a=>exact .ride a (hr _ _ _ _ f) (by rw[<- b];exact e))
def c0 (Y Z:Sys):Prop:=(∀s g s' c,Y.ride s g s' c↔Z.ride s g s' c)/\(∀s g m,Y.walk s g m↔Z.walk s g m)/\∀s,Y.chg s=Z.chg s
theorem c0.gj {Y Z:Sys}(h:c0 Y Z) {s0:Nat}{t0:Int}{n w s:Nat}{x:Int}:GJ Y s0 t0 n w s x↔GJ Z s0 t0 n w s x:=
 ⟨GJ.map (λ_ _ _ _=>(h.1 _ _ _ _).mp) (λ_ _ _=>(h.2.1 _ _ _).mp) h.2.2,GJ.map (λ_ _ _ _=>(h.1 _ _ _ _).mpr) (λ_ _ _=>(h.2.1 _ _ _).mpr) λs=>(h.2.2 s).symm⟩
theorem gE {T:Go}{M a:Nat}{t:Int}{n s:Nat}{x:Int}:ca T M a t n s x↔∃w,GJ (aB T M) a t n w s x:=by(
unfold ca;constructor
·rintro⟨w,h⟩;exact⟨w,yG.mp h⟩
·rintro⟨w,h⟩;exact⟨w,yG.mpr h⟩)
theorem HP {N:Nt}{goes:Nat->Nat->Int}(ok:bp N goes) {s0:Nat}{t0:Int}(h0:s0<N.n) {n w s:Nat}{x:Int}(h:NJ N goes s0 t0 n w s x):s<N.n:=by(
induction h with
|start=>exact h0
|walk _ _ hf b=>exact(ok.foot _ _ _ b hf).1
|ride _ h1 _ a _ _ _=>exact ok.ew _ _ h1 a)
theorem ir {N:Nt}{goes:Nat->Nat->Int}(ok:bp N goes) {s0:Nat}{t0:Int}(h0:s0<N.n) (b:t0+240<Gc) {n w s:Nat}{x:Int}(h:NJ N goes s0 t0 n w s x):x<Gc/\(w≠2->x+240<Gc):=by(
induction h with
|start=>exact⟨by omega,λ_=>b⟩
|walk h hw hf c=>
 have:=(ok.foot _ _ _ (HP ok h0 h) hf).2.2;have:=c.2 hw;exact⟨by omega,λq=>absurd rfl q⟩
|ride _ h1 _ a _ _ _=>
 have:=ok.ie _ _ h1 a;exact⟨by omega,λ_=>this⟩)
theorem rS {T:Go}{M a:Nat}{t:Int}{N:Nt}{goes:Nat->Nat->Int}(ok:bp N goes) (same:c0 (N.sys goes) (aB T M)) {k:Nat}{S:SS}(h:SInv N goes a t k S) (b:S.ae=[]) {s:Nat}(c:s<N.n):
  mo (λx=>∃n,ca T M a t n s x) (S.arr.getD s 0)/\(S.arr.getD s 0<Gc->d4 (λn=>ca T M a t n s (S.arr.getD s 0)) (some (S.rides.getD s 0))):=by(
have e:∀n x,(∃w,NJ N goes a t n w s x)↔ca T M a t n s x:=λn x=>by
 rw[gE];exact⟨λ⟨w,q⟩=>⟨w,same.gj.mp (d_.mp q)⟩,λ⟨w,q⟩=>⟨w,d_.mpr (same.gj.mpr q)⟩⟩
obtain⟨h1,h2⟩:=uq ok h b c;exact⟨h1.congr λx=>⟨λ⟨n,q⟩=>⟨n,(e n x).mp q⟩,λ⟨n,q⟩=>⟨n,(e n x).mpr q⟩⟩,λhn=>(h2 hn).congr λn=>e n _⟩)
theorem Ek {T:Go}{M a b:Nat}{d:Int}{N:Nt}{goes:Nat->Nat->Int}(ok:bp N goes) (same:c0 (N.sys goes) (aB T M).back) {k:Nat}{S:SS}(h:SInv N goes b (-d) k S) (m:S.ae=[]) (o:a<N.n) (l:b<N.n) (p: -d+240<Gc):
  (S.arr.getD a 0<Gc->d4 (λn=>∃x,ca T M a (-(S.arr.getD a 0)) n b x/\x<=d) (some (S.rides.getD a 0))/\∀v n x,-(S.arr.getD a 0)<v->ca T M a v n b x->d<x)/\
  (¬S.arr.getD a 0<Gc->∀v n x,ca T M a v n b x->d<x):=by(
obtain⟨h1,h2⟩:=uq ok h m o;have key:∀(u:Int) (n:Nat),(∃x,ca T M a u n b x/\x<=d)↔∃w x,NJ N goes b (-d) n w a x/\x<= -u:=by
 intro u n;have:=El (Y:=aB T M) (a:=a) (b:=b) (u:=u) (v:=d) n;constructor
 ·rintro⟨x,q,g⟩;obtain⟨w,q⟩:=gE.mp q;obtain⟨j,f,e,i⟩:=this.mpr ⟨w,x,q,g⟩;exact⟨j,f,d_.mpr (same.gj.mpr e),i⟩
 ·rintro⟨j,f,e,i⟩;obtain⟨w,x,q,g⟩:=this.mp ⟨j,f,same.gj.mp (d_.mp e),i⟩;exact⟨x,gE.mpr ⟨w,q⟩,g⟩
refine⟨λhn=>⟨(h2 hn).congr λn=>?_,λv n x hv q=>?_⟩,λhn v n x q=>?_⟩
·rw[key];constructor
 ·rintro⟨w,q⟩;exact⟨w,_,q,by omega⟩
 ·rintro⟨w,x,q,g⟩;have:=h1.2 x ⟨n,w,q⟩;rw[show x=S.arr.getD a 0 by omega]at q;exact⟨w,q⟩
·by_cases c:x<=d
 ·obtain⟨w,f,e,g⟩:=(key v n).mp ⟨x,q,c⟩;have:=h1.2 f ⟨n,w,e⟩;omega
 ·omega
·by_cases c:x<=d
 ·obtain⟨w,f,e,g⟩:=(key v n).mp ⟨x,q,c⟩;have:=h1.2 f ⟨n,w,e⟩;have:=(ir ok l p e).1;omega
 ·omega)
end Tw
namespace Tw
abbrev bn:=List Nat×List Int×List Int
abbrev Wk:=Nat×Nat×Int
def o4 (R:List bn) (W:List Wk) (c:Nat->Int):Sys:=⟨λs g s' k=>∃x,x∈R/\∃i j,i<j/\j<x.1.length/\s=x.1.getD i 0/\g=x.2.2.getD i 0/\s'=x.1.getD j 0/\k=x.2.1.getD j 0,λs g m=>(s,g,m)∈W,c⟩
structure lO (n:Nat) (R:List bn):Prop where
 pos:∀x,x∈R->0<x.1.length
 comes:∀x,x∈R->x.2.1.length=x.1.length
 goes:∀x,x∈R->x.2.2.length=x.1.length
 stops:∀x,x∈R->∀s,s∈x.1->s<n
 Em:∀x,x∈R->∀c,c∈x.2.1->c+240<Gc
 FK:∀x,x∈R->∀g,g∈x.2.2->g<Gc
def ge (R:List bn) (r i:Nat):Int:=(R.getD r ([],[],[])).2.2.getD i 0
def ec (r:Nat) (x:bn):List (Nat×s3):=(s5 (x.1.length-1)).map λi=>(x.1.getD i 0,x.2.2.getD i 0,r,i)
def d6 (R:List bn):List (Nat×s3):=R.zipIdx.flatMap λx=>ec x.2 x.1
def jg (R:List bn) (s:Nat):List s3:=((d6 R).filter λd=>d.1==s).map (·.2)
def c7 (W:List Wk) (s:Nat):List (Nat×Int×Nat):=(W.zipIdx.filter λw=>w.1.1==s).map λw=>(w.1.2.1,w.1.2.2,w.2)
def ig (a b:s3):Prop:=a.1<b.1\/(a.1=b.1/\(a.2.1<b.2.1\/(a.2.1=b.2.1/\a.2.2<=b.2.2)))
structure sK (a:List Int) (R:List bn) (cq:List (Nat×Int)) (W:List Wk) (N:Nt):Prop where
 chg:N.chg=a
 aU:N.aU=cq
 runs:N.runs=R.map λx=>(x.1,x.2.1)
 ha:N.af.length=a.length
 l0:N.foot.length=a.length
 perm:∀s,s<a.length->(N.af.getD s []).Perm (jg R s)
 sorted:∀s,s<a.length->(N.af.getD s []).Pairwise ig
 foot:∀s,s<a.length->N.foot.getD s []=c7 W s
theorem y4 {R:List bn}{s:Nat}{g:Int}{r i:Nat}:(g,r,i)∈jg R s↔∃x,R[r]?=some x/\i+1<x.1.length/\x.1.getD i 0=s/\g=x.2.2.getD i 0:=by(
unfold jg d6 ec;simp only[m0,fJ,e3,f5,bJ];constructor
·rintro⟨⟨u,d⟩,⟨⟨⟨x,t⟩,q,k,p,e⟩,a⟩,b⟩;simp only at a b e p;injection e with c f;subst b;injection f with h j;injection j with l m;subst l m;exact⟨x,hK.mp q,by omega,by rw[c];exact a,h.symm⟩
·rintro⟨x,h1,h2,n,o⟩;exact⟨(s,g,r,i),⟨⟨(x,r),hK.mpr h1,i,by simp only;omega,by rw[n,o]⟩,O⟩,O⟩)
theorem sg {W:List Wk}{s g q:Nat}{m:Int}:(g,m,q)∈c7 W s↔W[q]?=some (s,g,m):=by(
unfold c7;simp only[m0,fJ,f5];constructor
·rintro⟨⟨⟨a,b,c⟩,d⟩,⟨h1,h2⟩,f⟩;simp only at h2 f;injection f with i e;injection e with e j;subst h2 i e j;exact hK.mp h1
·intro h;exact⟨((s,g,m),q),⟨hK.mpr h,O⟩,O⟩)
section
variable {chg:List Int}{R:List bn}{cq:List (Nat×Int)}{W:List Wk}{N:Nt}
theorem sK.n (h:sK chg R cq W N):N.n=chg.length:=by unfold Nt.n;rw[h.chg]
theorem sK.eU (h:sK chg R cq W N):N.runs.length=R.length:=by rw[h.runs,FS]
theorem sK.run (h:sK chg R cq W N) (r:Nat):N.runs.getD r ([],[])=((R.getD r ([],[],[])).1,(R.getD r ([],[],[])).2.1):=by
 rw[h.runs];simp only[nw,pr];cases R[r]?<;>rfl
theorem sK.len (h:sK chg R cq W N) (r:Nat):N.len r=(R.getD r ([],[],[])).1.length:=by unfold Nt.len;rw[h.run]
theorem sK.stop (h:sK chg R cq W N) (r i:Nat):N.stop r i=(R.getD r ([],[],[])).1.getD i 0:=by unfold Nt.stop;rw[h.run]
theorem sK.comes (h:sK chg R cq W N) (r i:Nat):N.comes r i=(R.getD r ([],[],[])).2.1.getD i 0:=by unfold Nt.comes;rw[h.run]
theorem getD_some {a:Type}{l:List a}{i:Nat}(h:i<l.length) (d:a):l[i]?=some (l.getD i d):=by
 rw[nw,im h];rfl
theorem sK.sh (h:sK chg R cq W N) {s g:Nat}{m:Int}(f:s<chg.length):(g,m)∈N.ft s↔(s,g,m)∈W:=by(
unfold Nt.ft;rw[h.foot s f,m0];constructor
·rintro⟨⟨a,b,c⟩,h1,h2⟩;injection h2 with d e;simp only at d e;subst d e;exact pi (sg.mp h1)
·intro q;obtain⟨i,hi⟩:=fD.mp q;exact⟨(g,m,i),sg.mpr hi,O⟩)
theorem sK.ok (h:sK chg R cq W N) (e:lO chg.length R) (l:∀c,c∈chg->0<=c/\c<=240) (k:∀s g m,(s,g,m)∈W->g<chg.length/\0<=m/\m<=240):bp N (ge R):=by(
have hm:∀r,r<N.runs.length->R.getD r ([],[],[])∈R:=λr hr=>getD_mem (by rw[<- h.eU];exact hr) _;refine {ha:=by rw[h.n];exact h.ha,l0:=by rw[h.n];exact h.l0,sorted:=λs d=>(h.sorted s (by rw[<- h.n];exact d)).imp (λ{a b} q=>by unfold ig at q;omega),af:=λs d g r i=>?_,ew:=λr i hr hi=>?_,ie:=λr i hr hi=>?_,ku:=λr i hr hi=>?_,l_:=λr hr=>?_,chg:=λs d=>?_,foot:=λs g m d hm=>?_}
·rw[(h.perm s (by rw[<- h.n];exact d)).mem_iff,y4,h.eU,h.len,h.stop];constructor
 ·rintro⟨x,h1,h2,f,j⟩;have hr:r<R.length:=(ay.mp h1).1;have:x=R.getD r ([],[],[]):=by rw[getD_some hr ([],[],[])]at h1;exact(bT h1).symm
  subst this;exact⟨hr,h2,f,j⟩
 ·rintro⟨h1,h2,f,j⟩;exact⟨_,getD_some h1 _,h2,f,j⟩
·rw[h.stop,h.n];rw[h.len]at hi;exact e.stops _ (hm r hr) _ (getD_mem hi _)
·rw[h.comes];rw[h.len]at hi;exact e.Em _ (hm r hr) _ (getD_mem (by rw[e.comes _ (hm r hr)];exact hi) _)
·rw[h.len]at hi;exact e.FK _ (hm r hr) _ (getD_mem (by rw[e.goes _ (hm r hr)];exact hi) _)
·rw[h.len];exact e.pos _ (hm r hr)
·rw[h.chg];exact l _ (getD_mem (by rw[<- h.n];exact d) _)
·rw[h.n]at d⊢;rw[h.sh d]at hm;exact k s g m hm)
theorem sK.sys (h:sK chg R cq W N) (l:∀s g m,(s,g,m)∈W->s<chg.length):c0 (N.sys (ge R)) (o4 R W λs=>chg.getD s 0):=by(
refine⟨λs g s' c=>?_,λs g m=>?_,λs=>by show N.chg.getD s 0=chg.getD s 0;rw[h.chg]⟩
·constructor
 ·rintro⟨r,i,j,h1,h2,a,b,f,d,e⟩;rw[h.len]at a;rw[h.stop]at b d;rw[h.comes]at e;exact⟨_,getD_mem (by rw[<- h.eU];exact h1) _,i,j,h2,a,b,f,d,e⟩
 ·rintro⟨x,n,i,j,h2,a,b,f,d,e⟩;obtain⟨r,hr,rfl⟩:=mem_getD n ([],[],[]);exact⟨r,i,j,by rw[h.eU];exact hr,h2,by rw[h.len];exact a,by rw[h.stop];exact b,f,by rw[h.stop];exact d,by rw[h.comes];exact e⟩
·show(g,m)∈N.ft s↔(s,g,m)∈W;by_cases k:s<chg.length
 ·exact h.sh k
 ·constructor
  ·intro q;unfold Nt.ft at q;rw[nw,qZ.mpr (by rw[h.l0];omega)]at q;simp at q
  ·intro q;exact absurd (l s g m q) k)
end
open Sg45
def aJ (M:Nat) (k:Int) (p:cr):bn:=(p.calls.map (·.halt),(s5 p.calls.length).map (p.comes M k),(s5 p.calls.length).map (p.goes M k))
def AT (T:Go) (M:Nat):List bn:=(v2 T M).map λy=>aJ M y.2.1 y.2.2
def ln (T:Go) (M:Nat):List (Nat×Int):=(v2 T M).map λy=>(y.1,y.2.1)
def ol (T:Go):List Wk:=T.walks.map λw=>(w.from_,w.to,(w.minutes:Int))
def up (T:Go):List Int:=T.stops.map λ(c:Nat)=>(c:Int)
def ut (x:bn):bn:=(x.1.reverse,x.2.2.reverse.map (λg=> -g),x.2.1.reverse.map λc=> -c)
def br (w:Wk):Wk:=(w.2.1,w.1,w.2.2)
theorem oG {T:Go}{M:Nat}{x:bn}:x∈AT T M↔∃y,y∈v2 T M/\x=aJ M y.2.1 y.2.2:=by
 unfold AT;rw[m0];exact⟨λ⟨y,h1,h2⟩=>⟨y,h1,h2.symm⟩,λ⟨y,h1,h2⟩=>⟨y,h1,h2.symm⟩⟩
theorem range_getD {n i:Nat}{f:Nat->Int}(h:i<n) (d:Int):((s5 n).map f).getD i d=f i:=by
 simp[nw,pr,f' h]
theorem jm (p:cr) (i:Nat):(p.calls.map (·.halt)).getD i 0=p.stopAt i:=by
 unfold Dm;simp only[nw,pr];cases p.calls[i]?<;>rfl
theorem xX (T:Go) (s:Nat):(up T).getD s 0=((T.stops.getD s 0:Nat):Int):=by
 unfold up;simp only[nw,pr];cases T.stops[s]?<;>rfl
theorem yt (T:Go) (M:Nat):c0 (o4 (AT T M) (ol T) λs=>(up T).getD s 0) (aB T M):=by(
refine⟨λs g s' c=>?_,λs g m=>?_,λs=>xX T s⟩
·constructor
 ·rintro⟨x,o,i,j,h1,h2,b,d,f,h⟩;obtain⟨y,n,rfl⟩:=oG.mp o;simp only[aJ,FS]at h2 b d f h;rw[jm]at b f;rw[range_getD (by omega)]at d;rw[range_getD h2]at h;exact⟨y,n,i,j,h1,h2,b,d,f,h⟩
 ·rintro⟨y,n,i,j,h1,h2,b,d,f,h⟩;refine⟨_,oG.mpr ⟨y,n,O⟩,i,j,h1,by simpa [aJ]using h2,?_,?_,?_,?_⟩
  ·simp only[aJ];rw[jm];exact b
  ·simp only[aJ];rw[range_getD (by omega)];exact d
  ·simp only[aJ];rw[jm];exact f
  ·simp only[aJ];rw[range_getD h2];exact h
·show(s,g,m)∈ol T↔_;unfold ol;rw[m0];constructor
 ·rintro⟨w,hw,e⟩;injection e with k a;injection a with a l;exact⟨w,hw,k,a,l.symm⟩
 ·rintro⟨w,hw,k,a,l⟩;exact⟨w,hw,by rw[k,a,l]⟩)
theorem rev_getD {a:Type}{l:List a}{i:Nat}(h:i<l.length) (d:a):l.reverse.getD i d=l.getD (l.length-1-i) d:=by
 rw[nw,nw,Bc h]
theorem oM {l:List Int}{i:Nat}(h:i<l.length):(l.map λx=> -x).getD i 0= -(l.getD i 0):=by
 simp only[nw,pr,im h];rfl
theorem D' {n:Nat}{R:List bn}{W:List Wk}{c:Nat->Int}(r:lO n R):c0 (o4 (R.map ut) (W.map br) c) (o4 R W c).back:=by(
refine⟨λs g s' k=>?_,λs g m=>?_,λs=>rfl⟩
·show(∃x,x∈R.map ut/\_)↔(∃x,x∈R/\_);constructor
 ·rintro⟨x,A,i,j,h1,h2,f,p,l,q⟩;obtain⟨y,d,rfl⟩:=m0.mp A;have t:=r.comes y d;have u:=r.goes y d;simp only[ut,fG]at h2 f p l q;rw[oM (by rw[fG];omega),rev_getD (by omega)]at p q;rw[rev_getD (by omega)]at f l;rw[t]at p;rw[u]at q;exact⟨y,d,y.1.length-1-j,y.1.length-1-i,by omega,by omega,l,by omega,f,by omega⟩
 ·rintro⟨y,d,i,j,h1,h2,f,p,l,q⟩;have t:=r.comes y d;have u:=r.goes y d;refine⟨ut y,m0.mpr ⟨y,d,O⟩,y.1.length-1-j,y.1.length-1-i,by omega,by simp[ut];omega,?_,?_,?_,?_⟩
  ·simp only[ut];rw[rev_getD (by omega),show y.1.length-1-(y.1.length-1-j)=j by omega];exact l
  ·simp only[ut];rw[oM (by rw[fG];omega),rev_getD (by omega),t,show y.1.length-1-(y.1.length-1-j)=j by omega];omega
  ·simp only[ut];rw[rev_getD (by omega),show y.1.length-1-(y.1.length-1-i)=i by omega];exact f
  ·simp only[ut];rw[oM (by rw[fG];omega),rev_getD (by omega),u,show y.1.length-1-(y.1.length-1-i)=i by omega];omega
·show(s,g,m)∈W.map br↔(g,s,m)∈W;rw[m0];constructor
 ·rintro⟨⟨a,b,C⟩,hw,e⟩;injection e with w o;injection o with o z;simp only at w o z;subst w o z;exact hw
 ·intro h;exact⟨(g,s,m),h,O⟩)
theorem c0.trans {X Y Z:Sys}(h:c0 X Y) (h':c0 Y Z):c0 X Z:=
 ⟨λs g s' c=>(h.1 s g s' c).trans (h'.1 s g s' c),λs g m=>(h.2.1 s g m).trans (h'.2.1 s g m),λs=>(h.2.2 s).trans (h'.2.2 s)⟩
theorem c0.back {X Y:Sys}(h:c0 X Y):c0 X.back Y.back:=
 ⟨λs g s' c=>h.1 s' (-c) s (-g),λs g m=>h.2.1 g s m,λs=>h.2.2 s⟩
structure ce (T:Go):Prop where
 right:bj T
 chg:∀c,c∈T.stops->c<=120
 two:∀p,p∈T.trips->2<=p.calls.length
 walks:∀w,w∈T.walks->w.minutes<=240
 late:∀p,p∈T.trips->p.late.length=7/\∀x,x∈p.late->x.1<=63/\x.2<=240
theorem G5 {T:Go}(hT:ce T) {p:cr}(a:p∈T.trips) (M:Nat) (k:Int):(p.lateOn M k).2<=240:=by(
unfold w2;rw[nw];cases e:p.late[fB M k]? with
|none=>exact g1 _
|some x=>exact((hT.late p a).2 x (pi e)).2)
theorem k1 {T:Go}(hT:ce T) {p:cr}(a:p∈T.trips) (M:Nat) {k:Int}(c: -1<=k/\k<=1) {i:Nat}(hi:i<p.calls.length): -1440<=p.comes M k i/\p.comes M k i<4560/\ -1440<=p.goes M k i/\p.goes M k i<4560:=by(
have h1:=hT.right.1 p a;simp only[eG,ga,gS,f4]at h1;have h2:=h1.1 _ (eH hi);have b:=G5 hT a M k;have e:p.calls.getD i ⟨0,0,0⟩=p.calls[i]:=by rw[nw,im hi];rfl
unfold w3 w4;rw[e];refine⟨?_,?_,?_,?_⟩<;>(split<;>omega))
theorem jA {T:Go}(hT:ce T) (M:Nat):lO T.stops.length (AT T M):=by(
have key:∀x,x∈AT T M->∃k p,p∈T.trips/\(-1<=k/\k<=1)/\x=aJ M k p:=by
 intro x a;obtain⟨⟨n,k,p⟩,j,rfl⟩:=oG.mp a;obtain⟨h1,h2,l⟩:=c'.mp j;exact⟨k,p,pi h1,h2,O⟩
refine⟨λx a=>?_,λx a=>?_,λx a=>?_,λx a s h=>?_,λx a c d=>?_,λx a g hg=>?_⟩
all_goals obtain⟨k,p,b,f,rfl⟩:=key x a
·have:=hT.two p b;simp only[aJ,FS];omega
·simp[aJ]
·simp[aJ]
·obtain⟨i,hi,e⟩:=mem_getD h 0;simp only[aJ,FS]at hi e;rw[jm]at e;rw[<- e];exact sV hT.right b i hi
·simp only[aJ,m0,bJ]at d;obtain⟨i,hi,rfl⟩:=d;have:=k1 hT b M f hi;unfold Gc;omega
·simp only[aJ,m0,bJ]at hg;obtain⟨i,hi,rfl⟩:=hg;have:=k1 hT b M f hi;unfold Gc;omega)
theorem xv {T:Go}(hT:ce T) (M:Nat):lO T.stops.length ((AT T M).map ut):=by(
have ok:=jA hT M;have key:∀x,x∈AT T M->∃k p,p∈T.trips/\(-1<=k/\k<=1)/\x=aJ M k p:=by
 intro x a;obtain⟨⟨n,k,p⟩,b,rfl⟩:=oG.mp a;obtain⟨h1,h2,j⟩:=c'.mp b;exact⟨k,p,pi h1,h2,O⟩
refine⟨λx a=>?_,λx a=>?_,λx a=>?_,λx a s h=>?_,λx a c d=>?_,λx a g hg=>?_⟩
all_goals obtain⟨y,b,rfl⟩:=m0.mp a
·simpa [ut]using ok.pos y b
·simpa [ut]using ok.goes y b
·simpa [ut]using ok.comes y b
·exact ok.stops y b s (by simpa [ut]using h)
·simp only[ut,m0,vo]at d;obtain⟨g,hg,rfl⟩:=d;obtain⟨k,p,f,e,rfl⟩:=key y b;simp only[aJ,m0,bJ]at hg;obtain⟨i,hi,rfl⟩:=hg;have:=k1 hT f M e hi;unfold Gc;omega
·simp only[ut,m0,vo]at hg;obtain⟨c,d,rfl⟩:=hg;obtain⟨k,p,f,e,rfl⟩:=key y b;simp only[aJ,m0,bJ]at d;obtain⟨i,hi,rfl⟩:=d;have:=k1 hT f M e hi;unfold Gc;omega)
theorem jL {T:Go}(hT:ce T):∀s g m,(s,g,m)∈ol T->s<(up T).length/\g<(up T).length/\0<=m/\m<=240:=by
 intro s g m h;unfold ol at h;obtain⟨w,hw,e⟩:=m0.mp h;injection e with b a;injection a with a c;subst b a c;have h1:=hT.right.2 w hw;have h2:=hT.walks w hw;simp only[up,FS];omega
theorem xW {T:Go}(hT:ce T):∀c,c∈up T->0<=c/\c<=240:=by
 intro c h;obtain⟨x,a,rfl⟩:=m0.mp h;have:=hT.chg x a;omega
theorem dq {T:Go}(hT:ce T) {M:Nat}{N:Nt}(h:sK (up T) (AT T M) (ln T M) (ol T) N):bp N (ge (AT T M))/\c0 (N.sys (ge (AT T M))) (aB T M)/\N.n=T.stops.length:=by
 refine⟨h.ok (by rw[show(up T).length=T.stops.length by simp[up]];exact jA hT M) (xW hT) (λs g m q=>(jL hT s g m q).2),(h.sys λs g m q=>(jL hT s g m q).1).trans (yt T M),?_⟩;rw[h.n];simp[up]
theorem jd {T:Go}(hT:ce T) {M:Nat}{N:Nt}(h:sK (up T) ((AT T M).map ut) (ln T M) ((ol T).map br) N):bp N (ge ((AT T M).map ut))/\c0 (N.sys (ge ((AT T M).map ut))) (aB T M).back/\N.n=T.stops.length:=by(
have hw:∀s g m,(s,g,m)∈(ol T).map br->s<(up T).length/\g<(up T).length/\0<=m/\m<=240:=by
 intro s g m q;obtain⟨⟨a,b,c⟩,hw,e⟩:=m0.mp q;injection e with f d;injection d with d i;simp only at f d i;subst f d i;have:=jL hT _ _ _ hw;omega
refine⟨h.ok (by rw[show(up T).length=T.stops.length by simp[up]];exact xv hT M) (xW hT) (λs g m q=>(hw s g m q).2),(h.sys λs g m q=>(hw s g m q).1).trans ((D' (jA hT M)).trans (yt T M).back),?_⟩;rw[h.n];simp[up])
theorem yd {T:Go}(hT:ce T) {M a b:Nat}{t:Int}{N:Nt}(f:sK (up T) (AT T M) (ln T M) (ol T) N) (c:a<T.stops.length) (d:b<T.stops.length) {k:Nat}{S:SS}(h:SInv N (ge (AT T M)) a t k S) (g:S.ae=[]) (i:t+240<Gc):
  (S.arr.getD b 0=Gc->iQ T M a b t=none)/\(S.arr.getD b 0≠Gc->iQ T M a b t=some (S.arr.getD b 0,S.rides.getD b 0)):=by(
obtain⟨ok,same,hn⟩:=dq hT f;obtain⟨h1,h2⟩:=rS ok same h g (s:=b) (by rw[hn];exact d);have lt:∀x,(∃n,ca T M a t n b x)->x<Gc:=by
 rintro x ⟨n,q⟩;obtain⟨w,q⟩:=gE.mp q;exact(ir ok (by rw[hn];exact c) i (d_.mpr (same.gj.mpr q))).1
have m:=h1.minOf lt;refine⟨λe=>?_,λe=>?_⟩
·rw[No e]at m;exact ET hT.right c d m
·rw[Ps e]at m;exact EU hT.right c d m (h2 (lt _ m.1)))
theorem G9 {T:Go}(hT:ce T) {M a b:Nat}{c:Int}{N:Nt}(j:sK (up T) ((AT T M).map ut) (ln T M) ((ol T).map br) N) (d:a<T.stops.length) (f:b<T.stops.length) {k:Nat}{S:SS}(h:SInv N (ge ((AT T M).map ut)) b (-c) k S) (g:S.ae=[]) (i: -c+240<Gc):
  (S.arr.getD a 0=Gc->lb T M a b c=none)/\(S.arr.getD a 0≠Gc->lb T M a b c=some (-(S.arr.getD a 0),S.rides.getD a 0)):=by(
obtain⟨ok,same,hn⟩:=jd hT j;obtain⟨h1,h2⟩:=Ek ok same h g (a:=a) (by rw[hn];exact d) (by rw[hn];exact f) i;refine⟨λe=>G7 hT.right d f (h2 (by rw[e];omega)),λe=>?_⟩;have lt:S.arr.getD a 0<Gc:=by
 obtain⟨q,_⟩:=uq ok h g (s:=a) (by rw[hn];exact d);rcases q.1 with⟨n,w,q⟩|q
 ·exact(ir ok (by rw[hn];exact f) i q).1
 ·exact absurd q e
obtain⟨l,m⟩:=h1 lt;exact G8 hT.right d f l m)
end Tw
namespace Tw
open Sg45
theorem Er {f:Nat}{l:List Int}{b:List (List (List Int))}(h:iV fI f l=some b):(l=[]/\b=[])\/
  ∃p n k r xs t a o,l=p::r/\fI p=some (n,k)/\n<=r.length/\ni k (r.drop n)=some (xs,t)/\b=((p::r.take n)::xs)::a/\iV fI o t=some a:=by(
match f,l,h with
|0,[],h=>exact .inl ⟨O,(bT h).symm⟩
|f+1,[],h=>exact .inl ⟨O,(bT h).symm⟩
|0,_::_,h=>simp[iV]at h
|f+1,p::r,h=>
 simp only[iV]at h;cases e:C8 fI (p::r)with
 |none=>rw[e]at h;cases h
 |some ct=>
  obtain⟨c,t⟩:=ct;rw[e]at h;simp only at h;cases d:iV fI f t with
  |none=>rw[d]at h;cases h
  |some a=>
   rw[d]at h;simp only[gO]at h;simp only[C8]at e;cases g:fI p with
   |none=>rw[g]at e;cases e
   |some q=>
    obtain⟨n,k⟩:=q;rw[g]at e;simp only at e;split at e
    ·cases e
    ·rename_i u;cases i:ni k (r.drop n)with
     |none=>rw[i]at e;cases e
     |some s=>
      obtain⟨xs,t'⟩:=s;rw[i]at e;simp only[gO,nk]at e;obtain⟨j,m⟩:=e;subst m;exact .inr ⟨p,n,k,r,xs,t',a,f,O,g,by omega,i,by rw[<- h,<-j],d⟩)
theorem Ad {p:Int}{n k:Nat}(h:fI p=some (n,k)):(p=1/\n=1/\k=0)\/(p=2/\n=1/\k=1)\/(p=3/\n=3/\k=0)\/(p=4/\n=4/\k=0)\/(p=5/\n=4/\k=0)\/(p=6/\n=4/\k=0)\/(p=7/\n=5/\k=0)\/(p=8/\n=6/\k=0)\/(p=9/\n=4/\k=0)\/(p=10/\n=5/\k=0)\/(p=11/\n=4/\k=0):=by(
unfold fI at h;by_cases a:p=1
·rw[No a]at h;injection h with h;injection h with h1 h2;exact .inl ⟨a,h1.symm,h2.symm⟩
rw[Ps a]at h;by_cases d:p=2
·rw[No d]at h;injection h with h;injection h with h1 h2;exact .inr (.inl ⟨d,h1.symm,h2.symm⟩)
rw[Ps d]at h;by_cases e:p=3
·rw[No e]at h;injection h with h;injection h with h1 h2;exact .inr (.inr (.inl ⟨e,h1.symm,h2.symm⟩))
rw[Ps e]at h;by_cases f:p=4
·rw[No f]at h;injection h with h;injection h with h1 h2;exact .inr (.inr (.inr (.inl ⟨f,h1.symm,h2.symm⟩)))
rw[Ps f]at h;by_cases g:p=5
·rw[No g]at h;injection h with h;injection h with h1 h2;exact .inr (.inr (.inr (.inr (.inl ⟨g,h1.symm,h2.symm⟩))))
rw[Ps g]at h;by_cases i:p=6
·rw[No i]at h;injection h with h;injection h with h1 h2;exact .inr (.inr (.inr (.inr (.inr (.inl ⟨i,h1.symm,h2.symm⟩)))))
rw[Ps i]at h;by_cases j:p=7
·rw[No j]at h;injection h with h;injection h with h1 h2;exact .inr (.inr (.inr (.inr (.inr (.inr (.inl ⟨j,h1.symm,h2.symm⟩))))))
rw[Ps j]at h;by_cases l:p=8
·rw[No l]at h;injection h with h;injection h with h1 h2;exact .inr (.inr (.inr (.inr (.inr (.inr (.inr (.inl ⟨l,h1.symm,h2.symm⟩)))))))
rw[Ps l]at h;by_cases m:p=9
·rw[No m]at h;injection h with h;injection h with h1 h2;exact .inr (.inr (.inr (.inr (.inr (.inr (.inr (.inr (.inl ⟨m,h1.symm,h2.symm⟩))))))))
rw[Ps m]at h;by_cases b:p=10
·rw[No b]at h;injection h with h;injection h with h1 h2;exact .inr (.inr (.inr (.inr (.inr (.inr (.inr (.inr (.inr (.inl ⟨b,h1.symm,h2.symm⟩)))))))))
rw[Ps b]at h;by_cases c:p=11
·rw[No c]at h;injection h with h;injection h with h1 h2;exact .inr (.inr (.inr (.inr (.inr (.inr (.inr (.inr (.inr (.inr ⟨c,h1.symm,h2.symm⟩)))))))))
rw[Ps c]at h;cases h)
theorem zY {l:List Int}{xs:List (List Int)}{t:List Int}(h:ni 1 l=some (xs,t)):∃(m:Nat) (r:List Int),l=(m:Int)::r/\m<=r.length/\xs=[r.take m]/\t=r.drop m:=by(
simp only[ni]at h;cases l with
|nil=>simp[C_]at h
|cons m r=>
 simp only[C_]at h;split at h
 ·cases h
 ·rename_i x s e;split at e
  ·rename_i hm;simp only[gO,nk]at e h;refine⟨m.toNat,r,by rw[e1 hm.1],hm.2,?_,?_⟩
   ·rw[<- h.1,<-e.1]
   ·rw[<- h.2,<-e.2]
  ·cases e)
theorem zZ {l:List Int}{xs:List (List Int)}{t:List Int}(h:ni 0 l=some (xs,t)):xs=[]/\t=l:=by
 injection h with h;injection h with h1 h2;exact⟨h1.symm,h2.symm⟩
def kZ (T:Go) (a:List (List (List Int))):List Int:=C9 (C7 lj T a)
theorem LA (T:Go):kZ T []=[]:=rfl
theorem AA (T:Go) (c:List (List Int)) (a:List (List (List Int))):kZ T (c::a)=(((lj T c).2.length:Int)::(lj T c).2)++kZ (lj T c).1 a:=by
 simp[kZ,C9,C7]
theorem D4 {l:List Int}(h:wJ l=true):∃f a,iV fI f l=some a/\qU l=kZ dZ (a.map lq)/\(∀c,c∈a->wy (lq c)=true)/\a.length<=300:=by(
unfold wJ at h;unfold qU;unfold PySg45.calls at h⊢;cases e:iV fI l.length l with
|none=>rw[e]at h;simp at h
|some a=>
 rw[e]at h;simp only[ga]at h;refine⟨_,a,e,O,λc b=>?_,by simpa [PyFlat.atMost]using h.1⟩;have h2:=h.2;unfold MO at h2;simp only[ga,gS]at h2;exact h2.1.1 _ (m0.mpr ⟨c,b,O⟩))
theorem xT:∀l:List Nat,(fC l).length=l.length/3
 |[]=>rfl
 |[_]=>by show 0=1/3;rfl
 |[_,_]=>by show 0=2/3;rfl
 |a::b::c::l=>by
  show(fC l).length+1=(l.length+3)/3;rw[xT l];omega
theorem Ep {T U:Go}(h:T.stops.length<=U.stops.length) {l:List At}(b:eG T l=true):eG U l=true:=by
 simp only[eG,ga,gS,f4]at b⊢;exact⟨λa c=>⟨cT (b.1 a c).1 h,(b.1 a c).2⟩,b.2⟩
theorem EV:ce dZ:=
 ⟨⟨λp a=>by simp[dZ]at a,λw hw=>by simp[dZ]at hw⟩,λc b=>by simp[dZ]at b,λp a=>by simp[dZ]at a,λw hw=>by simp[dZ]at hw,λp a=>by simp[dZ]at a⟩
theorem L4 {n a b:Int}:within n a b=true↔a<=n/\n<=b:=by simp[within]
theorem Le {T:Go}(h:ce T) {c:Int}(a:within c 0 120=true):ce {T with stops:=T.stops++[c.toNat]}:=by(
rw[L4]at a;refine⟨⟨λp b=>Ep (by simp) (h.right.1 p b),λw hw=>?_⟩,λx d=>?_,h.two,h.walks,h.late⟩
·have:=h.right.2 w hw;simp only[lv,bz];omega
·rcases f1.mp d with q|q
 ·exact h.chg x q
 ·simp at q;subst q;omega)
theorem LC {T:Go}(h:ce T) {d:Nat}{l:List At}(h2:2<=l.length) (b:eG T l=true):ce {T with trips:=T.trips++[⟨d,l,g2 7 (0,0)⟩]}:=by(
refine⟨⟨λp a=>?_,h.right.2⟩,h.chg,λp a=>?_,h.walks,λp a=>?_⟩
all_goals rcases f1.mp a with q|q
·exact h.right.1 p q
·simp at q;subst q;exact b
·exact h.two p q
·simp at q;subst q;exact h2
·exact h.late p q
·simp at q;subst q;refine⟨by simp,λx c=>?_⟩;have e:x=(0,0):=by simpa using c
 rw[e];exact⟨g1 _,g1 _⟩)
theorem LX {T:Go}(h:ce T) {a b m:Nat}(c:a<T.stops.length) (d:b<T.stops.length) (hm:m<=240):ce {T with walks:=T.walks++[⟨a,b,m⟩]}:=by(
refine⟨⟨h.right.1,λw hw=>?_⟩,h.chg,h.two,λw hw=>?_,h.late⟩
all_goals rcases f1.mp hw with q|q
·exact h.right.2 w q
·simp at q;subst q;exact⟨c,d⟩
·exact h.walks w q
·simp at q;subst q;exact hm)
theorem G6 {T:Go}(h:ce T) {n d i m:Nat}(hi:i<=63) (hm:m<=240):ce {T with trips:=T.trips.mapIdx λk x=>if k=n then {x with late:=x.late.set d (i,m)}else x}:=by(
have key:∀p,p∈T.trips.mapIdx (λk x=>if k=n then {x with late:=x.late.set d (i,m)}else x)->∃q,q∈T.trips/\p.calls=q.calls/\(p.late=q.late\/p.late=q.late.set d (i,m)):=by
 intro p a;rw[Br]at a;obtain⟨k,l,rfl⟩:=a;refine⟨T.trips[k],eH l,?_,?_⟩
 ·split<;>rfl
 ·split
  ·exact .inr rfl
  ·exact .inl rfl
refine⟨⟨λp a=>?_,h.right.2⟩,h.chg,λp a=>?_,h.walks,λp a=>?_⟩
all_goals obtain⟨q,e,f,b⟩:=key p a
·rw[f];exact h.right.1 q e
·rw[f];exact h.two q e
·obtain⟨g,j⟩:=h.late q e;rcases b with b|b
 ·rw[b];exact⟨g,j⟩
 ·rw[b];refine⟨by simp[g],λx c=>?_⟩;rcases List.mem_or_eq_of_mem_set c with c|c
  ·exact j x c
  ·rw[c];exact⟨hi,hm⟩)
theorem Aj (y:Option Int):∀(n k:Nat),dA y k (g2 n y)=[]
 |0,_=>rfl
 |n+1,k=>by
  rw[iW];show(match y with|some z=>if y=y then []else [[((k:Nat):Int),z]]|none=>[])++dA y (k+1) (g2 n y)=[];rw[Aj y n (k+1)];cases y<;>simp
theorem Ai:∀(l m:List (Option Int)) (x:Option Int) (k:Nat),dA x k (l++m)=dA x k l++dA (l.getLast?.getD x) (k+l.length) m
 |[],m,x,k=>by simp[dA]
 |c::l,m,x,k=>by
  show _++dA c (k+1) (l++m)=(_++dA c (k+1) l)++_;rw[Ai l m c (k+1),dd]
  congr 2
  rw[bh,show k+1+l.length=k+(l.length+1) by omega]
  congr 1
  cases l with
  |nil=>rfl
  |cons d l=>
   rw[List.getLast?_cons_cons];cases e:(d::l).getLast? with
   |none=>rw[List.getLast?_eq_none_iff]at e;cases e
   |some z=>rfl
theorem yP:∀(l:List (Option Int)) (m:Option Int) (P:Int->Prop) (Q:Nat->Int->Prop),ev P m->(∀n x,l[n]?=some x->ev (Q n) x)->∀k x,(er m l)[k]?=some x->ev (λz=>P z\/∃n,n<=k/\Q n z) x
 |[],m,P,Q,_,_,k,x,h=>by simp[er]at h
 |y::l,m,P,Q,hm,a,k,x,h=>by
  have h0:ev (Q 0) y:=a 0 y rfl;cases k with
  |zero=>
   simp only[er,nz,gO]at h;subst h;exact(hm.less h0).congr λz=>⟨λq=>q.imp id λq=>⟨0,t1 _,q⟩,λq=>q.imp id λ⟨n,hn,q⟩=>by rw[show n=0 by omega]at q;exact q⟩
  |succ k=>
   simp only[er,w7]at h;refine(yP l _ _ (λn=>Q (n+1)) (hm.less h0) (λn z hz=>a (n+1) z (by simpa using hz)) k x h).congr λz=>?_;constructor
   ·rintro((q|q)|⟨n,hn,q⟩)
    ·exact .inl q
    ·exact .inr ⟨0,g1 _,q⟩
    ·exact .inr ⟨n+1,by omega,q⟩
   ·rintro(q|⟨n,hn,q⟩)
    ·exact .inl (.inl q)
    ·cases n with
     |zero=>exact .inl (.inr q)
     |succ n=>exact .inr ⟨n,by omega,q⟩
theorem yQ:∀(l:List (Option Int)) (m:Option Int),(er m l).length=l.length
 |[],_=>rfl
 |x::l,m=>by simp[er,yQ l]
theorem FG {T:Go}(hT:bj T) {M a b:Nat}{t:Int}(m:a<T.stops.length) (o:b<T.stops.length) {c:Nat->Option Int}(f:∀k,k<=8->ev (λx=>∃n,n<=k/\ca T M a t n b x) (c k)):
  f7 none ((az T M a t 8).zipIdx.map λ(x:Row×Nat)=>(x.2,x.1.getD b none))=dA none 0 ((s5 9).map c):=by(
obtain⟨h1,h2,g⟩:=nV (T:=T) (M:=M) (a:=a) (t:=t) hT m 8;generalize y:az T M a t 8=A at h1 h2 g;have i:(A.zipIdx.map λ(x:Row×Nat)=>(x.2,x.1.getD b none))=((A.map λr=>r.getD b none).zipIdx 0).map λx=>(x.2,x.1):=by
 rw[List.zipIdx_map,be];rfl
rw[i,ya];have s:(er none (A.map λr=>r.getD b none)).length=A.length:=by rw[yQ,FS]
have j:er none (A.map λr=>r.getD b none)=(s5 A.length).map c:=by
 apply p4
 ·rw[s,FS,fH]
 ·intro k h p;have C:k<A.length:=by omega
  have:=yP (A.map λr=>r.getD b none) none (λ_=>False) (λn=>ca T M a t n b) (λ_ q=>q) (λn x d=>by
   rw[pr]at d;cases e:A[n]? with
   |none=>rw[e]at d;cases d
   |some r=>rw[e]at d;cases d;exact(h2 n r e).2 b o) k _ (im h)
  have:=(this.congr (Q:=λx=>∃n,n<=k/\ca T M a t n b x) λz=>by simp).uniq (f k (by omega));rw[this,vp,vj]
rw[j];have l:(s5 9).map c=(s5 A.length).map c++g2 (9-A.length) (((s5 A.length).map c).getLast?.getD none):=by
 apply p4
 ·simp;omega
 ·intro k h p;simp at h;by_cases q:k<A.length
  ·simp[List.getElem_append_left,q]
  ·rw[List.getElem_append_right (by simp;omega)];simp only[vp,vj,List.getElem_replicate];by_cases z:A.length=0
   ·simp[z];exact(f k (by omega)).uniq (u:=none) λx ⟨n,hn,d⟩=>g n b x (by omega) (by omega) d
   ·have:((s5 A.length).map c).getLast?.getD none=c (A.length-1):=by
     rw[List.getLast?_eq_getElem?];simp[z,f',show A.length-1<A.length by omega]
    rw[this];refine((f k (by omega)).congr λx=>?_).uniq (f (A.length-1) (by omega));constructor
    ·rintro⟨n,hn,d⟩;refine⟨n,?_,d⟩;by_cases w:n<=A.length-1
     ·exact w
     ·exact absurd d (g n b x (by omega) (by omega))
    ·rintro⟨n,hn,d⟩;exact⟨n,by omega,d⟩
rw[l,Ai,Aj,e4])
theorem J_ {T:Go}(hT:bj T) {M a:Nat}{t:Int}(d:a<T.stops.length) {c:Nat->Option Int}(e:∀s,s<T.stops.length->ev (λx=>∃n,ca T M a t n s x) (c s)):
  ((s5 T.stops.length).map λs=>(lg (az T M a t (aD T M)) s).getD (-1))=(s5 T.stops.length).map λs=>(c s).getD (-1):=by
 apply ei;intro s b;rw[(nZ (M:=M) (t:=t) hT d (bJ.mp b)).uniq (e s (bJ.mp b))]
def fb (N:Nt) (e:s3):List Int:=[e.1,(((N.aU.getD e.2.1 (0,0)).1:Nat):Int),(N.aU.getD e.2.1 (0,0)).2,((N.stop e.2.1 (N.len e.2.1-1):Nat):Int)]
def ib (N:Nt) (s:Nat) (t:Int):List s3:=(N.af.getD s []).filter λe=>decide (t<=e.1)
theorem A5 {a b:Type}(f:a->List b):∀(l:List a) (k:Nat),((l.zipIdx k).flatMap λx=>f x.1)=l.flatMap f
 |[],_=>rfl
 |x::l,k=>by rw[j0,gd,gd,A5 f l (k+1)]
theorem rM {a c:Type}{f g:a->List c}:∀ {l:List a},(∀x,x∈l->f x=g x)->l.flatMap f=l.flatMap g
 |[],_=>rfl
 |x::l,h=>by rw[gd,gd,h x (lc ..),rM λy b=>h y (on _ b)]
theorem FT (T:Go) (halt M:Nat) (t:Int):rZ T halt M t=(v2 T M).flatMap λy=>
  (s5 (y.2.2.calls.length-1)).filterMap λi=>if y.2.2.stopAt i=halt/\t<=y.2.2.goes M y.2.1 i then some [y.2.2.goes M y.2.1 i,((y.1:Nat):Int),y.2.1,((y.2.2.stopAt (y.2.2.calls.length-1):Nat):Int)]else none:=by(
unfold rZ v2;rw[List.flatMap_assoc];refine rM λx _=>?_;have key:∀ks:List Int,(ks.flatMap λk=>if x.1.runs M k=false then []else
  (s5 (x.1.calls.length-1)).filterMap λ(i:Nat)=>if x.1.stopAt i=halt/\t<=x.1.goes M k i then some [x.1.goes M k i,((x.2:Nat):Int),k,((x.1.stopAt (x.1.calls.length-1):Nat):Int)]else none)=
  ((ks.filter λk=>x.1.runs M k).map λk=>(x.2,k,x.1)).flatMap λy=>(s5 (y.2.2.calls.length-1)).filterMap λi=>if y.2.2.stopAt i=halt/\t<=y.2.2.goes M y.2.1 i then some [y.2.2.goes M y.2.1 i,((y.1:Nat):Int),y.2.1,((y.2.2.stopAt (y.2.2.calls.length-1):Nat):Int)]else none:=by
 intro ks
 induction ks with
 |nil=>rfl
 |cons k ks a=>
  rw[gd,a,nH];cases e:x.1.runs M k with
  |true=>simp
  |false=>simp
exact key _)
theorem yz {T:Go}{M r:Nat}(h:r<(v2 T M).length):(ln T M).getD r (0,0)=((v2 T M)[r].1,(v2 T M)[r].2.1)/\(AT T M).getD r ([],[],[])=aJ M (v2 T M)[r].2.1 (v2 T M)[r].2.2:=by
 unfold ln AT;simp[nw,pr,im h]
theorem rK {c b d:Type}(f:c->b) (p:b->Bool) (g:b->d):∀l:List c,((l.map f).filter p).map g=l.filterMap λa=>if p (f a)=true then some (g (f a))else none
 |[]=>rfl
 |a::l=>by
  rw[na,nH,gP];by_cases h:p (f a)=true
  ·rw[No h,No h,na,rK f p g l]
  ·rw[Ps h,Ps h,rK f p g l]
theorem A6 {a b:Type}(f:a->b):∀(l:List a) (k:Nat),(l.map f).zipIdx k=(l.zipIdx k).map λx=>(f x.1,x.2)
 |[],_=>rfl
 |x::l,k=>by rw[na,j0,j0,na,A6 f l (k+1)]
theorem kh {a c:Type}{f g:a->Option c}:∀ {l:List a},(∀x,x∈l->f x=g x)->l.filterMap f=l.filterMap g
 |[],_=>rfl
 |x::l,h=>by
  rw[gP,gP,h x (lc ..),kh λy b=>h y (on _ b)]
theorem Eg {T:Go}(hT:ce T) {M s:Nat}{t:Int}{N:Nt}(c:sK (up T) (AT T M) (ln T M) (ol T) N) (n:s<T.stops.length):qA T s M t=(ib N s t).map (fb N):=by(
have o:s<(up T).length:=by simpa [up]using n
have u:=dq hT c;have J:N.runs.length=(v2 T M).length:=by rw[c.eU];simp[AT]
have row:∀r,(h:r<(v2 T M).length)->∀g i,fb N (g,r,i)=[g,(((v2 T M)[r].1:Nat):Int),(v2 T M)[r].2.1,(((v2 T M)[r].2.2.stopAt ((v2 T M)[r].2.2.calls.length-1):Nat):Int)]:=by
 intro r h g i;obtain⟨f,j⟩:=yz h;unfold fb;simp only;rw[c.aU,f,c.stop,c.len,j];simp only[aJ,FS];rw[jm]
refine FU ?_ ?_
·
 have Nj:((ib N s t).map (fb N)).Perm (((jg (AT T M) s).filter λe=>decide (t<=e.1)).map (fb N)):=((c.perm s o).filter _).map _;refine Nj.trans (w0 ?_);rw[FT];have f:((jg (AT T M) s).filter λe=>decide (t<=e.1)).map (fb N)=(((d6 (AT T M)).filter λd=>d.1==s&&decide (t<=d.2.1))).map λd=>fb N d.2:=by
  unfold jg;rw[List.filter_map,be,List.filter_filter]
  congr 1
  apply List.filter_congr;intro d _;simp only[w5];exact Bool.and_comm _ _
 rw[f];unfold d6;have j:∀(Z:List (bn×Nat)),(((Z.flatMap λx=>ec x.2 x.1).filter λd=>d.1==s&&decide (t<=d.2.1)).map λd=>fb N d.2)=Z.flatMap λx=>((ec x.2 x.1).filter λd=>d.1==s&&decide (t<=d.2.1)).map λd=>fb N d.2:=by
  intro Z
  induction Z with
  |nil=>rfl
  |cons z Z Y=>rw[gd,jY,bA,Y,gd]
 rw[j];unfold AT;rw[A6,List.flatMap_map,<-A5 _ (v2 T M) 0];refine rM λx U=>?_;obtain⟨y,r⟩:=x;have hr:=hK.mp U;simp only at hr;obtain⟨L,Q⟩:=ay.mp hr;simp only;unfold ec;rw[rK];rw[show(aJ M y.2.1 y.2.2).1.length=y.2.2.calls.length by simp[aJ]];refine kh λi hi=>?_;rw[bJ]at hi;have A:(aJ M y.2.1 y.2.2).1.getD i 0=y.2.2.stopAt i:=jm _ _;have C:(aJ M y.2.1 y.2.2).2.2.getD i 0=y.2.2.goes M y.2.1 i:=range_getD (by omega) _;have m:=row r L;rw[Q]at m;simp only[A,C,m,ga,f5,f4]
·
 rw[iX];have h1:(ib N s t).Pairwise ig:=(c.sorted s o).filter _;refine h1.imp_of_mem λ{a b} D E q=>?_;have p:∀e,e∈ib N s t->e.2.1<(v2 T M).length:=by
  intro e H;obtain⟨g,r,i⟩:=e;have:=((u.1.af s (by rw[u.2.2];exact n) g r i).mp (fJ.mp H).1).1;rw[J]at this;exact this
 obtain⟨g,r,i⟩:=a;obtain⟨g',w,Nl⟩:=b;have k:=p _ D;have l:=p _ E;simp only at k l;rw[row r k,row w l];unfold ig at q;simp only at q;rcases q with q|⟨rfl,q|⟨rfl,q⟩⟩
 ·exact .inr (by simp[fr,q])
 ·have:=jX.mp (r5 (T:=T) (M:=M)) r w k l q;refine .inr ?_;simp only[fr,Int.lt_irrefl,decide_false,Co,decide_true,m_,gN,ga,f4];rcases this with z|⟨Nm,Nk⟩
  ·left;omega
  ·right;exact⟨by omega,.inl Nk⟩
 ·exact .inl rfl)
def cS (x:Int):Option Int:=if x=Gc then none else some x
def f3:Int->Nat->List Int->List (List Int)
 |_,_,[]=>[]
 |p,k,v::l=>if v<p then [((k:Nat):Int),v]::f3 v (k+1) l else f3 p (k+1) l
theorem uR:∀(l:List Int) (p:Int) (k:Nat),p<=Gc->(∀v,v∈l->v<=p)->l.Pairwise (λa b=>b<=a)->dA (cS p) k (l.map cS)=f3 p k l
 |[],_,_,_,_,_=>rfl
 |v::l,p,k,g,f,d=>by
  have hv:=f v (lc ..);rw[nD]at d;rw[na];show(match cS v with|some y=>if cS v=cS p then []else [[((k:Nat):Int),y]]|none=>[])++dA (cS v) (k+1) (l.map cS)=if v<p then _ else _;by_cases c:v<p
  ·rw[No c];have e:cS v=some v:=by unfold cS;rw[Ps (by omega)]
   have ne:cS v≠cS p:=by
    rw[e];unfold cS;split
    ·intro q;cases q
    ·intro q;injection q with q;omega
   rw[uR l v (k+1) (by omega) d.1 d.2];simp only[e]at ne⊢;rw[Ps ne];rfl
  ·rw[Ps c];have:v=p:=by omega
   subst this;rw[uR l v (k+1) g d.1 d.2];cases cS v<;>simp
def aW (N:Nt) (S:SS):Nat->SS
 |0=>S
 |k+1=>cj N (aW N S k)
theorem jz {N:Nt}{goes:Nat->Nat->Int}(ok:bp N goes) {s0:Nat}{t0:Int}{S:SS}(h:SInv N goes s0 t0 0 S):∀k,SInv N goes s0 t0 k (aW N S k)
 |0=>h
 |k+1=>Ly ok (jz ok h k)
theorem FH {T:Go}(hT:ce T) {M a b:Nat}{t:Int}{N:Nt}(l:sK (up T) (AT T M) (ln T M) (ol T) N) (e:a<T.stops.length) (f:b<T.stops.length) (g:t+240<Gc):
  f7 none ((az T M a t 8).zipIdx.map λ(x:Row×Nat)=>(x.2,x.1.getD b none))=f3 Gc 0 ((s5 9).map λk=>(aW N (b9 N a t) k).arr.getD b 0):=by(
obtain⟨ok,same,hn⟩:=dq hT l;have m:=jz ok (kb ok (s0:=a) (t0:=t) (by rw[hn];exact e) g);have lt:∀k x,Ak N (ge (AT T M)) a t k b x->x<Gc:=λk x ⟨n,w,_,q⟩=>(ir ok (by rw[hn];exact e) g q).1;have d:∀k,mo (Ak N (ge (AT T M)) a t k b) ((aW N (b9 N a t) k).arr.getD b 0):=λk=>(m k).mid.arr b (by rw[hn];exact f);rw[FG hT.right e f (c:=λk=>cS ((aW N (b9 N a t) k).arr.getD b 0)) λk _=>?_]
·rw[<- uR _ Gc 0 (e2 _) ?_ ?_]
 ·rw[be];have:(none:Option Int)=cS Gc:=by unfold cS;rw[No rfl]
  rw[this];rfl
 ·intro v hv;obtain⟨k,_,rfl⟩:=m0.mp hv;rcases(d k).1 with q|q
  ·have:=lt k _ q;omega
  ·omega
 ·rw[iX];refine Ba.imp λ{i j} o=>?_;rcases(d i).1 with q|q
  ·exact(d j).2 _ (rf (by omega) q)
  ·rw[q];rcases(d j).1 with h|h
   ·have:=lt j _ h;omega
   ·omega
·have:=(d k).minOf (lt k);unfold cS;refine this.congr λx=>?_;constructor
 ·rintro⟨n,w,h1,h2⟩;exact⟨n,h1,gE.mpr ⟨w,same.gj.mp (d_.mp h2)⟩⟩
 ·rintro⟨n,h1,h2⟩;obtain⟨w,h2⟩:=gE.mp h2;exact⟨n,w,h1,d_.mpr (same.gj.mpr h2)⟩)
theorem J' {T:Go}(hT:ce T) {M a:Nat}{t:Int}{N:Nt}(f:sK (up T) (AT T M) (ln T M) (ol T) N) (d:a<T.stops.length) {k:Nat}{S:SS}(h:SInv N (ge (AT T M)) a t k S) (g:S.ae=[]) (j:t+240<Gc):
  ((s5 T.stops.length).map λs=>(lg (az T M a t (aD T M)) s).getD (-1))=S.arr.map λx=>if x<Gc then x else -1:=by(
obtain⟨ok,same,hn⟩:=dq hT f;have lt:∀s x,(∃n,ca T M a t n s x)->x<Gc:=by
 rintro s x ⟨n,q⟩;obtain⟨w,q⟩:=gE.mp q;exact(ir ok (by rw[hn];exact d) j (d_.mpr (same.gj.mpr q))).1
have m:=λs (b:s<T.stops.length)=>(rS ok same h g (s:=s) (by rw[hn];exact b)).1;rw[J_ hT.right d (c:=λs=>if S.arr.getD s 0=Gc then none else some (S.arr.getD s 0)) λs b=>(m s b).minOf (lt s)];have i:S.arr.length=T.stops.length:=by rw[<- hn];exact h.mid.c9
apply p4
·simp[i]
·intro s h1 h2;simp at h1;simp only[vp,vj];have e:S.arr.getD s 0=S.arr[s]'(by omega):=by rw[nw,im (by omega)];rfl
 rw[e];have:=(m s h1).1;rw[e]at this;rcases this with q|q
 ·have:=lt s _ q;rw[Ps (by omega),No this];rfl
 ·rw[No q,Ps (by omega)];rfl)
section
variable {T:Go}{M:Nat}{TD:Nt}{b:Nat}{a:Int}
theorem o3 (same:c0 (TD.sys (ge ((AT T M).map ut))) (aB T M).back) {j s:Nat}{x:Int}:Rk TD (ge ((AT T M).map ut)) b (-a) j s x↔∃n,n<j/\Dr (aB T M) b a n s (-x):=by(
have e:∀n,NJ TD (ge ((AT T M).map ut)) b (-a) (n+1) 1 s x↔Dr (aB T M) b a n s (-x):=λn=>by
 rw[d_,same.gj,ik,<-kL,dG]
constructor
·rintro⟨n,hn,h⟩;cases n with
 |zero=>exact absurd h me
 |succ n=>exact⟨n,by omega,(e n).mp h⟩
·rintro⟨n,hn,h⟩;exact⟨n+1,by omega,(e n).mpr h⟩)
theorem oj (same:c0 (TD.sys (ge ((AT T M).map ut))) (aB T M).back) {j s:Nat}{x:Int}:Fk TD (ge ((AT T M).map ut)) b (-a) j s x↔(s=b/\x= -a)\/(∃m,(aB T M).walk s b m/\x= -a+m)\/∃n u g m,n<j/\Dr (aB T M) b a n u g/\(aB T M).walk s u m/\x= -g+m:=by(
have e:∀n u z,GJ (aB T M).back b (-a) (n+1) 1 u z↔Dr (aB T M) b a n u (-z):=λn u z=>by
 rw[ik,<-kL,dG]
constructor
·rintro⟨n,w,hn,hw,h⟩;rw[d_,same.gj]at h;rcases kq h with⟨_,_,h1,h2⟩|q|q
 ·exact .inl ⟨h1,h2⟩
 ·exact absurd q hw
 ·subst q;obtain⟨u,z,m,h1,h2,c⟩:=(l2 h).2 rfl;rcases c with⟨_,rfl,rfl⟩|c
  ·exact .inr (.inl ⟨m,h1,h2⟩)
  ·cases n with
   |zero=>cases c
   |succ n=>exact .inr (.inr ⟨n,u,-z,m,by omega,(e n u z).mp c,h1,by omega⟩)
·rintro(⟨rfl,rfl⟩|⟨m,h1,rfl⟩|⟨n,u,g,m,hn,h1,h2,rfl⟩)
 ·exact⟨0,0,g1 _,by decide,.start⟩
 ·refine⟨0,2,g1 _,by decide,?_⟩;rw[d_,same.gj];exact .walk .start (by decide) h1
 ·refine⟨n+1,2,by omega,by decide,?_⟩;rw[d_,same.gj];exact .walk ((e n u (-g)).mpr (by rw[dG];exact h1)) (by decide) h2)
def LeftW (T:Go) (M b:Nat) (a:Int) (j s:Nat) (t:Int):Prop:=∃n g,n<j/\t<=g/\Dr (aB T M) b a n s g
def hX (T:Go) (M b:Nat) (a:Int) (j s:Nat) (t:Int):Prop:=gh (aB T M) s t b a\/∃n c g3,n<j/\hY (aB T M) s t c g3/\Dr (aB T M) b a n c g3
theorem Ef (hT:ce T) (d:sK (up T) ((AT T M).map ut) (ln T M) ((ol T).map br) TD) {j s:Nat}(e:s<T.stops.length) {S:SS}(h:SInv TD (ge ((AT T M).map ut)) b (-a) j S) {t:Int}(f: -Gc<t):
  t<= -(S.ab.getD s 0)↔LeftW T M b a j s t:=by(
obtain⟨ok,same,hn⟩:=jd hT d;have m:=h.ab s (by rw[hn];exact e);constructor
·intro q;rcases m.1 with p|p
 ·obtain⟨n,h1,h2⟩:=(o3 same).mp p;exact⟨n,_,h1,q,h2⟩
 ·omega
·rintro⟨n,g,h1,h2,c⟩;have:=m.2 (-g) ((o3 same).mpr ⟨n,h1,by rw[dG];exact c⟩);omega)
theorem zM (hT:ce T) (e:sK (up T) ((AT T M).map ut) (ln T M) ((ol T).map br) TD) {j s:Nat}{t:Int}:(∃x,Gk TD (ge ((AT T M).map ut)) b (-a) j s x/\x<= -t)↔hX T M b a j s t:=by(
obtain⟨ok,same,hn⟩:=jd hT e;have c:TD.chg.getD s 0=(aB T M).chg s:=same.2.2 s;constructor
·rintro⟨x,h|⟨y,h,rfl⟩,i⟩
 ·rcases(oj same).mp h with⟨rfl,rfl⟩|⟨m,h1,rfl⟩|⟨n,u,g,m,hn,h1,h2,rfl⟩
  ·exact .inl (.inl ⟨O,by omega⟩)
  ·exact .inl (.inr ⟨m,h1,by omega⟩)
  ·exact .inr ⟨n,u,g,hn,.inr ⟨m,h2,by omega⟩,h1⟩
 ·obtain⟨n,h1,h2⟩:=(o3 same).mp h;exact .inr ⟨n,s,-y,h1,.inl ⟨O,by rw[<- c];omega⟩,h2⟩
·rintro((⟨rfl,h⟩|⟨m,h1,h2⟩)|⟨n,f,g3,hn,⟨rfl,h⟩|⟨m,h1,h2⟩,d⟩)
 ·exact⟨-a,.inl ((oj same).mpr (.inl ⟨O,O⟩)),by omega⟩
 ·exact⟨-a+m,.inl ((oj same).mpr (.inr (.inl ⟨m,h1,O⟩))),by omega⟩
 ·refine⟨-g3+TD.chg.getD s 0,.inr ⟨-g3,(o3 same).mpr ⟨n,hn,by rw[dG];exact d⟩,O⟩,by rw[c];omega⟩
 ·exact⟨-g3+m,.inl ((oj same).mpr (.inr (.inr ⟨n,f,g3,m,hn,d,h1,O⟩))),by omega⟩)
theorem H3 (hT:ce T) (c:sK (up T) ((AT T M).map ut) (ln T M) ((ol T).map br) TD) {j s:Nat}(d:s<T.stops.length) {S:SS}(h:SInv TD (ge ((AT T M).map ut)) b (-a) j S) {t:Int}(e: -Gc<t):
  t<= -(S.ready.getD s 0)↔hX T M b a j s t:=by(
obtain⟨ok,same,hn⟩:=jd hT c;have m:mo (Gk TD (ge ((AT T M).map ut)) b (-a) j s) (S.ready.getD s 0):=h.mid.ready s (by rw[hn];exact d);rw[<- zM hT c];constructor
·intro q;rcases m.1 with p|p
 ·exact⟨_,p,by omega⟩
 ·omega
·rintro⟨x,h1,h2⟩;have:=m.2 x h1;omega)
theorem xw (hT:ce T) {N:Nt}(c:sK (up T) (AT T M) (ln T M) (ol T) N) (e:sK (up T) ((AT T M).map ut) (ln T M) ((ol T).map br) TD) {r:Nat}(hr:r<N.runs.length):
  r<TD.runs.length/\TD.len r=N.len r/\∀i,i<N.len r->TD.stop r i=N.stop r (N.len r-1-i)/\ge ((AT T M).map ut) r i= -(N.comes r (N.len r-1-i)):=by(
have f:r<(AT T M).length:=by rw[<- c.eU];exact hr
have g:=getD_mem f ([],[],[]);have d:((AT T M).map ut).getD r ([],[],[])=ut ((AT T M).getD r ([],[],[])):=by
 simp[nw,pr,im f]
have h:=(jA hT M).comes _ g;refine⟨by rw[e.eU];simpa using f,?_,λi hi=>⟨?_,?_⟩⟩
·rw[e.len,c.len,d];simp[ut]
·rw[c.len]at hi⊢;rw[e.stop,c.stop,d];simp only[ut];rw[rev_getD hi]
·rw[c.len]at hi⊢;rw[c.comes];unfold ge;rw[d];simp only[ut];rw[oM (by rw[fG];omega),rev_getD (by omega),h])
theorem zR (hT:ce T) {N:Nt}(p:sK (up T) (AT T M) (ln T M) (ol T) N) (l:sK (up T) ((AT T M).map ut) (ln T M) ((ol T).map br) TD) {j r c:Nat}(hr:r<N.runs.length) {S:SS}(h:SInv TD (ge ((AT T M).map ut)) b (-a) (j+1) S):
  c<N.len r-1-S.aa.getD r 0↔∃off,c<off/\off<N.len r/\hX T M b a j (N.stop r off) (N.comes r off):=by(
obtain⟨e,m,n⟩:=xw hT p l hr;have g:=h.gp r e;have d:=h.gq r e;have k:=λi=>h.lY r i e;rw[m]at g d;simp only[m]at k;have f:∀i,i<N.len r->(bd TD (ge ((AT T M).map ut)) b (-a) j r i↔hX T M b a j (N.stop r (N.len r-1-i)) (N.comes r (N.len r-1-i))):=by
 intro i hi;rw[<- zM hT l];unfold bd;rw[(n i hi).1,(n i hi).2]
constructor
·intro q;rcases d with d|⟨_,d⟩
 ·omega
 ·rw[show j+1-1=j by omega,f _ g]at d;exact⟨_,q,by omega,d⟩
·rintro⟨off,h1,h2,o⟩;have:=k (N.len r-1-off) (by omega) (by omega) (by
  rw[show j+1-1=j by omega,f _ (by omega),show N.len r-1-(N.len r-1-off)=off by omega];exact o)
 omega)
def Fin (T:Go) (M b:Nat) (a:Int) (n:Nat) (x:Place):Prop:=∃m c w,cd T M x m=some ⟨b,c,w⟩/\c<=a/\rides m<=n
theorem lU:∀(n s:Nat) (g:Int),Dr (aB T M) b a n s g->∀x:Place,x.halt=s->x.time+chg T x<=g->∃m e w,cd T M x m=some ⟨b,e,w⟩/\e<=a/\rides m=n+1
 |0,s,g,⟨t,c,⟨⟨p,k,tr⟩,H,i,j,h1,h2,h,l,o,r⟩,d⟩,x,ex,D=>by
  obtain⟨u,A,C⟩:=c'.mp H;simp only at h2 h l o r;have f:go T M x (.ride p k i j)=some ⟨t,c,1⟩:=bH.mpr ⟨tr,u,A,C,h1,h2,by rw[ex,h],by rw[<- l];exact D,by rw[o,r]⟩;rcases d with⟨rfl,d⟩|⟨m,⟨w,J,L,N,Q⟩,d⟩
  ·exact⟨[.ride p k i j],c,1,by rw[ij];exact f,d,by rw[fX];rfl⟩
  ·obtain⟨q,E⟩:=fD.mp J;refine⟨[.ride p k i j,.walk q],c+m,2,?_,d,by rw[fX,iw];rfl⟩;rw[gs f,ij];exact aH.mpr ⟨w,E,L,by simp,by rw[N,Q]⟩
 |n+1,s,g,⟨t,c,Nk,g3,⟨⟨p,k,tr⟩,H,i,j,h1,h2,h,l,o,r⟩,d,hd⟩,x,ex,D=>by
  obtain⟨u,A,C⟩:=c'.mp H;simp only at h2 h l o r;have f:go T M x (.ride p k i j)=some ⟨t,c,1⟩:=bH.mpr ⟨tr,u,A,C,h1,h2,by rw[ex,h],by rw[<- l];exact D,by rw[o,r]⟩;rcases d with⟨rfl,d⟩|⟨m,⟨w,J,L,N,Q⟩,d⟩
  ·obtain⟨z,e,v,U,Y,Nj⟩:=lU n _ _ hd ⟨t,c,1⟩ rfl (by simpa [chg,aB]using d);exact⟨.ride p k i j::z,e,v,by rw[gs f];exact U,Y,by rw[fX,Nj]⟩
  ·obtain⟨q,E⟩:=fD.mp J;obtain⟨z,e,v,U,Y,Nj⟩:=lU n _ _ hd ⟨Nk,c+m,2⟩ rfl (by simpa [chg]using d);refine⟨.ride p k i j:: .walk q::z,e,v,?_,Y,by rw[fX,iw,Nj]⟩;rw[gs f,gs (y:=⟨Nk,c+m,2⟩) (aH.mpr ⟨w,E,L,by simp,by rw[N,Q]⟩)];exact U
theorem oh:∀(m:List Leg) (n:Nat) (x:Place) (d:Int) (w:Nat),cd T M x m=some ⟨b,d,w⟩->d<=a->rides m<=n->
  (x.way=2->(x.halt=b/\x.time<=a)\/LeftW T M b a n x.halt x.time)/\(x.way=1->hX T M b a n x.halt x.time)
 |[],n,x,d,w,f,h,hr=>by
  cases f;exact⟨λ_=>.inl ⟨O,h⟩,λ_=>.inl (.inl ⟨O,h⟩)⟩
 |.walk q::m,n,x,d,w,f,h,hr=>by
  obtain⟨y,g,f⟩:=c6 f;obtain⟨wk,r,s,t,rfl⟩:=aH.mp g;rw[iw]at hr;have e:=(oh m n _ d w f h hr).1 rfl;have hw:(aB T M).walk x.halt wk.to (wk.minutes:Int):=⟨wk,pi r,s,O,O⟩;refine⟨λq=>absurd q t,λ_=>?_⟩;simp only at e;rcases e with⟨o,l⟩|⟨c,g',o,l,u⟩
  ·exact .inl (.inr ⟨_,by rw[<- o];exact hw,l⟩)
  ·exact .inr ⟨c,_,g',o,.inr ⟨_,hw,l⟩,u⟩
 |.ride p k i j::m,n,x,d,w,f,h,hr=>by
  obtain⟨y,g,f⟩:=c6 f;obtain⟨tr,r,s,t,A,C,D,E,rfl⟩:=bH.mp g;rw[fX]at hr;have e:=(oh m (n-1) _ d w f h (by omega)).2 rfl;simp only at e;have z:(aB T M).ride x.halt (tr.goes M k i) (tr.stopAt j) (tr.comes M k j):=⟨(p,k,tr),c'.mpr ⟨r,s,t⟩,i,j,A,C,D.symm,O,O,O⟩;have hd:∃c,c<n/\Dr (aB T M) b a c x.halt (tr.goes M k i):=by
   rcases e with e|⟨c,H,g3,o,l,u⟩
   ·exact⟨0,by omega,_,_,z,e⟩
   ·exact⟨c+1,by omega,_,_,H,g3,z,l,u⟩
  obtain⟨c,h1,h2⟩:=hd;refine⟨λq=>.inr ⟨c,_,h1,?_,h2⟩,λq=>.inr ⟨c,x.halt,_,h1,.inl ⟨O,?_⟩,h2⟩⟩
  ·have:=xZ T x;omega
  ·have:chg T x=(aB T M).chg x.halt:=by simp[chg,q,aB]
   rw[<- this];exact E
theorem Ft {n:Nat}{x:Place}(hw:x.way=2):Fin T M b a n x↔(x.halt=b/\x.time<=a)\/LeftW T M b a n x.halt x.time:=by(
constructor
·rintro⟨m,c,w,h1,h2,d⟩;exact(oh m n x c w h1 h2 d).1 hw
·rintro(⟨h1,h2⟩|⟨e,g,h1,h2,d⟩)
 ·exact⟨[],x.time,x.way,by rw[<- h1];rfl,h2,g1 _⟩
 ·obtain⟨m,c,w,f,h,i⟩:=lU e _ g d x rfl (by simp[chg,hw];exact h2);exact⟨m,c,w,f,h,by omega⟩)
theorem yi {n:Nat}{x:Place}(hw:x.way=1):Fin T M b a n x↔hX T M b a n x.halt x.time:=by(
have r:chg T x=(aB T M).chg x.halt:=by simp[chg,hw,aB]
constructor
·rintro⟨m,c,w,h1,h2,d⟩;exact(oh m n x c w h1 h2 d).2 hw
·rintro((⟨h1,h2⟩|⟨e,⟨w,i,j,k,l⟩,h2⟩)|⟨o,p,g3,h1,⟨rfl,h2⟩|⟨e,⟨w,i,j,k,l⟩,h2⟩,d⟩)
 ·exact⟨[],x.time,x.way,by rw[<- h1];rfl,h2,g1 _⟩
 ·obtain⟨q,f⟩:=fD.mp i;refine⟨[.walk q],x.time+e,2,?_,h2,g1 _⟩;rw[ij];exact aH.mpr ⟨w,f,j,by rw[hw];decide,by rw[k,l]⟩
 ·obtain⟨m,c,w,g,h,s⟩:=lU o _ g3 d x rfl (by rw[r];exact h2);exact⟨m,c,w,g,h,by omega⟩
 ·obtain⟨q,f⟩:=fD.mp i;obtain⟨m,c,v,g,h,s⟩:=lU o _ g3 d ⟨p,x.time+e,2⟩ rfl (by simp[chg];exact h2);refine⟨.walk q::m,c,v,?_,h,by rw[iw];omega⟩;rw[gs (y:=⟨p,x.time+e,2⟩) (aH.mpr ⟨w,f,j,by rw[hw];decide,by rw[k,l]⟩)];exact g)
end
section
variable {T:Go}{M b:Nat}{a:Int}{r:Nat}{x0:Place}
structure j6 (T:Go) (M b:Nat) (a:Int) (r:Nat) (x0:Place):Prop where
 early:∀m c w,cd T M x0 m=some ⟨b,c,w⟩->a<=c
 dj:∀m w,cd T M x0 m=some ⟨b,a,w⟩->r<=rides m
theorem pT:∀(l m:List Leg) {x y:Place},cd T M x l=some y->ci T M x (l++m)=ci T M x l++ci T M y m
 |[],m,x,y,h=>by cases h;rfl
 |c::l,m,x,y,h=>by
  obtain⟨z,g,f⟩:=c6 h;rw[lA,iD g,iD g,pT l m f,dd]
structure e6 (T:Go) (M b:Nat) (a:Int) (r:Nat) (x0:Place) (pre:List Leg) (x:Place) (left:Nat):Prop where
 at_:cd T M x0 pre=some x
 rides:rides pre+left=r
 fin:Fin T M b a left x
 least:∀m,Ok T M b a r x0 m->(∃c,m=pre++c)\/∀z,cd T M x z≠none->fr (ci T M x0 (pre++z)) (ci T M x0 m)=true
theorem e6.exact (o:j6 T M b a r x0) {pre:List Leg}{x:Place}{left:Nat}(h1:cd T M x0 pre=some x) (h2:eg pre+left=r) {m:List Leg}{c:Int}{w:Nat}(f:cd T M x m=some ⟨b,c,w⟩) (h:c<=a) (hr:eg m<=left):Ok T M b a left x m:=by(
have d:cd T M x0 (pre++m)=some ⟨b,c,w⟩:=by rw[ki,h1];exact f
have g:=o.early _ _ _ d;have:c=a:=by omega
subst this;have e:=o.dj _ _ d;rw[kM]at e;exact⟨⟨w,f⟩,by omega⟩)
theorem e6.done (o:j6 T M b a r x0) {pre:List Leg}{x:Place}{left:Nat}(h:e6 T M b a r x0 pre x left) (e:x.halt=b) (d:x.time<=a):Ok T M b a r x0 pre/\∀m,Ok T M b a r x0 m->cR (ci T M x0 pre) (ci T M x0 m):=by(
have f:cd T M x []=some ⟨b,x.time,x.way⟩:=by rw[<- e];rfl
have k:=e6.exact o h.at_ h.rides f d (g1 _);obtain⟨⟨w,g⟩,c⟩:=k;have c:0=left:=c;refine⟨⟨⟨w,?_⟩,by have:=h.rides;omega⟩,λm hm=>?_⟩
·rw[h.at_];exact g
·rcases h.least m hm with⟨i,rfl⟩|q
 ·rw[pT _ _ h.at_];have:ci T M x0 pre=ci T M x0 pre++[]:=by simp
  conv=>lhs;rw[this]
  refine zX ?_;cases ci T M x i with
  |nil=>exact .inl rfl
  |cons=>exact .inr rfl
 ·have:=q [] (by intro z;cases z);rw[e4]at this;exact .inr this)
theorem e6.step (o:j6 T M b a r x0) {pre:List Leg}{x y:Place}{left:Nat}(h:e6 T M b a r x0 pre x left) (A:¬(x.halt=b/\x.time<=a)) {c:Leg}(g:go T M x c=some y) (D:eg [c]+bY left c=left) (hf:Fin T M b a (bY left c) y)
  (hm:∀d l,go T M x d=some l->eg [d]<=left->Fin T M b a (bY left d) l->d=c\/l9 c d):e6 T M b a r x0 (pre++[c]) y (bY left c):=by(
refine⟨by rw[ki,h.at_];show cd T M x [c]=_;rw[ij];exact g,by rw[kM];have:=h.rides;omega,hf,λm p=>?_⟩;rcases h.least m p with⟨s,rfl⟩|q
·obtain⟨⟨w,f⟩,hr⟩:=p;rw[ki,h.at_]at f;have f:cd T M x s=some ⟨b,a,w⟩:=f;rw[kM]at hr;have E:=h.rides;cases s with
 |nil=>
  cases f;exact absurd ⟨O,e2 _⟩ A
 |cons d e=>
  obtain⟨l,g',t⟩:=c6 f;have C:eg [d]+eg e=left:=by
   have:eg (d::e)=eg [d]+eg e:=by rw[<- kM];rfl
   omega
  have hn:eg e<=bY left d:=by
   cases d with
   |walk v=>simp only[bY];omega
   |ride n k i j=>
    have:eg [Leg.ride n k i j]=1:=rfl;simp only[bY];omega
  rcases hm d l g' (by omega) ⟨e,a,w,t,e2 _,hn⟩with rfl|u
  ·exact .inl ⟨e,by simp⟩
  ·refine .inr λz hz=>?_;rw[dd,pT _ _ h.at_,pT _ _ h.at_,rj];show fr (ci T M x (c::z)) _=true;rw[iD g,iD g'];exact y' u g g' _ _
·refine .inr λz hz=>?_;rw[dd];refine q ([c]++z) ?_;show cd T M x (c::z)≠none;rw[gs g];exact hz)
end
section
variable {T:Go}{M b:Nat}{a:Int}{N TD:Nt}
theorem ou (d:sK (up T) (AT T M) (ln T M) (ol T) N) {r:Nat}(h:r<(v2 T M).length):
  N.aU.getD r (0,0)=((v2 T M)[r].1,(v2 T M)[r].2.1)/\N.len r=(v2 T M)[r].2.2.calls.length/\(∀i,N.stop r i=(v2 T M)[r].2.2.stopAt i)/\
  ∀i,i<(v2 T M)[r].2.2.calls.length->N.comes r i=(v2 T M)[r].2.2.comes M (v2 T M)[r].2.1 i/\ge (AT T M) r i=(v2 T M)[r].2.2.goes M (v2 T M)[r].2.1 i:=by(
obtain⟨e,c⟩:=yz h;refine⟨by rw[d.aU];exact e,by rw[d.len,c];simp[aJ],λi=>by rw[d.stop,c];exact jm _ _,λi hi=>⟨?_,?_⟩⟩
·rw[d.comes,c];exact range_getD hi _
·unfold ge;rw[c];exact range_getD hi _)
theorem o6 (c:sK (up T) (AT T M) (ln T M) (ol T) N):N.runs.length=(v2 T M).length:=by rw[c.eU];simp[AT]
def e' (S:SS) (b:Nat) (a:Int) (g:Nat) (t:Int):Bool:=(decide (g=b)&&decide (t<=a))||decide (t<= -(S.ab.getD g 0))
theorem rP (d:sK (up T) (AT T M) (ln T M) (ol T) N) {s:Nat}(f:s<T.stops.length) {g q:Nat}{m:Int}:(g,m,q)∈N.foot.getD s []↔∃w,T.walks[q]?=some w/\w.from_=s/\w.to=g/\m=(w.minutes:Int):=by(
rw[d.foot s (by simpa [up]using f),sg];unfold ol;rw[pr];constructor
·intro h;cases e:T.walks[q]? with
 |none=>rw[e]at h;cases h
 |some w=>
  rw[e]at h;injection h with h;injection h with h1 h2;injection h2 with h2 c;exact⟨w,O,h1,h2,c.symm⟩
·rintro⟨w,h1,rfl,rfl,rfl⟩;rw[h1];rfl)
theorem FA (c:sK (up T) (AT T M) (ln T M) (ol T) N) {s:Nat}(d:s<T.stops.length):(N.foot.getD s []).Pairwise λx y=>x.2.2<y.2.2:=by
 rw[c.foot s (by simpa [up]using d)];unfold c7;rw[iX];refine List.Pairwise.filter _ ?_;rw[jX];intro i j hi e h;simp[Bh];exact h
theorem u' (hT:ce T) (c:sK (up T) ((AT T M).map ut) (ln T M) ((ol T).map br) TD) {left g:Nat}{t:Int}{S:SS}(h:SInv TD (ge ((AT T M).map ut)) b (-a) left S) (hg:g<T.stops.length) (d: -Gc<t):
  e' S b a g t=true↔Fin T M b a left ⟨g,t,2⟩:=by
 rw[Ft rfl];unfold e';simp only[gN,ga,f4];rw[Ef hT c hg h d]
theorem LZ (hT:ce T) (e:sK (up T) (AT T M) (ln T M) (ol T) N) (u:sK (up T) ((AT T M).map ut) (ln T M) ((ol T).map br) TD) {left:Nat}{S:SS}(h:SInv TD (ge ((AT T M).map ut)) b (-a) left S) {x:Place}(l:x.halt<T.stops.length) (L: -Gc<x.time) (hw:x.way≠2)
  {s C:List (Nat×Int×Nat)}{g q:Nat}{m:Int}(t:N.foot.getD x.halt []=s++(g,m,q)::C) (h1:∀f,f∈s->e' S b a f.1 (x.time+f.2.1)=false) (h2:e' S b a g (x.time+m)=true):
  go T M x (.walk q)=some ⟨g,x.time+m,2⟩/\bK T M x (.walk q)=[-1,(q:Int),(x.halt:Int),(g:Int),x.time+m]/\g<T.stops.length/\0<=m/\Fin T M b a left ⟨g,x.time+m,2⟩/\
  ∀c r,go T M x c=some r->eg [c]<=left->Fin T M b a (bY left c) r->c=.walk q\/l9 (.walk q) c:=by(
obtain⟨w,o,z,p,A⟩:=(rP e l (g:=g) (q:=q) (m:=m)).mp (by rw[t];simp);have wr:=hT.right.2 w (pi o);have hg:g<T.stops.length:=by rw[<- p];exact wr.2
refine⟨aH.mpr ⟨w,o,z,hw,by rw[p,A]⟩,by simp only[bK,o];rw[z,p,A],hg,by omega,(u' hT u h hg (by omega)).mp h2,λc r g' hr hf=>?_⟩;cases c with
|ride n k i j=>exact .inr trivial
|walk E=>
 obtain⟨d,y,H,Q,rfl⟩:=aH.mp g';have hm:(d.to,(d.minutes:Int),E)∈N.foot.getD x.halt []:=(rP e l).mpr ⟨d,y,H,O,O⟩;have J:=hT.right.2 d (pi y);have D:=(u' hT u h J.2 (by omega)).mpr hf;have ps:=FA e l;rw[t]at hm ps;rw[vh]at ps;rcases f1.mp hm with hm|hm
 ·have:=h1 _ hm;simp only at this;rw[D]at this;cases this
 ·rcases s1.mp hm with hm|hm
  ·injection hm with _ hm;injection hm with _ hm;subst hm;exact .inl rfl
  ·exact .inr ((nD.mp ps.2.1).1 _ hm))
theorem LY (hT:ce T) (i:sK (up T) (AT T M) (ln T M) (ol T) N) (g:sK (up T) ((AT T M).map ut) (ln T M) ((ol T).map br) TD) {left:Nat}{S:SS}(h:SInv TD (ge ((AT T M).map ut)) b (-a) left S) {x:Place}(k:x.halt<T.stops.length) (n: -Gc<x.time)
  (h1:∀f,f∈N.foot.getD x.halt []->e' S b a f.1 (x.time+f.2.1)=false):∀q d,go T M x (.walk q)=some d->¬Fin T M b a left d:=by
 intro q d g' hf;obtain⟨c,e,l,o,rfl⟩:=aH.mp g';have hm:(c.to,(c.minutes:Int),q)∈N.foot.getD x.halt []:=(rP i k).mpr ⟨c,e,l,O,O⟩;have m:=hT.right.2 c (pi e);have j:=(u' hT g h m.2 (by omega)).mpr hf;have:=h1 _ hm;simp only at this;rw[j]at this;cases this
def a0 (N:Nt) (S:SS) (ready:Int) (e:s3):Bool:=decide (ready<=e.1)&&decide (e.2.2<N.len e.2.1-1-S.aa.getD e.2.1 0)
def eN (N:Nt) (S:SS) (r j:Nat):Bool:=decide (N.comes r j<= -(S.ready.getD (N.stop r j) 0))
theorem so (hT:ce T) (d:sK (up T) (AT T M) (ln T M) (ol T) N) (k:sK (up T) ((AT T M).map ut) (ln T M) ((ol T).map br) TD) {n:Nat}{S:SS}(h:SInv TD (ge ((AT T M).map ut)) b (-a) n S) {r j:Nat}(hr:r<N.runs.length) (c:j<N.len r):
  eN N S r j=true↔hX T M b a n (N.stop r j) (N.comes r j):=by
 have e:=hr;rw[o6 d]at e;obtain⟨o,g,p,i⟩:=ou d e;obtain⟨ok,_,hn⟩:=dq hT d;have f:=ok.ew r j hr c;rw[hn]at f;unfold eN;rw[f4];refine H3 hT k f h ?_;rw[g]at c;rw[(i j c).1];have mi:((v2 T M)[r].1,(v2 T M)[r].2.1,(v2 T M)[r].2.2)∈v2 T M:=eH e;obtain⟨l,m,q⟩:=c'.mp mi;have:=k1 hT (pi l) M m c;unfold Gc;omega
theorem zQ (hT:ce T) (d:sK (up T) (AT T M) (ln T M) (ol T) N) (z:sK (up T) ((AT T M).map ut) (ln T M) ((ol T).map br) TD) {n:Nat}{S t:SS}(h:SInv TD (ge ((AT T M).map ut)) b (-a) (n+1) S) (h':SInv TD (ge ((AT T M).map ut)) b (-a) n t) {x y:Place}(L:x.halt<T.stops.length)
  {p:Nat}{k:Int}{i j:Nat}(g:go T M x (.ride p k i j)=some y) (hf:Fin T M b a n y):
  ∃r,∃hr:r<(v2 T M).length,(v2 T M)[r].1=p/\(v2 T M)[r].2.1=k/\i<j/\j<N.len r/\eN N t r j=true/\∃e,e∈N.af.getD x.halt []/\e.2=(r,i)/\a0 N S (x.time+chg T x) e=true:=by(
obtain⟨tr,C,D,E,u,f,H,J,rfl⟩:=bH.mp g;obtain⟨r,hr⟩:=fD.mp (c'.mpr ⟨C,D,E⟩);obtain⟨o,q⟩:=ay.mp hr;obtain⟨A,c,l,m⟩:=ou d o;have s:r<N.runs.length:=by rw[o6 d];exact o
rw[q]at A c l m;simp only at A c l m;obtain⟨ok,_,hn⟩:=dq hT d;have w:hX T M b a n (N.stop r j) (N.comes r j):=by
 rw[l,(m j f).1];exact(yi (x:=⟨tr.stopAt j,tr.comes M k j,1⟩) rfl).mp hf
refine⟨r,o,by rw[q],by rw[q],u,by rw[c];exact f,(so hT d z h' s (by rw[c];exact f)).mpr w,(ge (AT T M) r i,r,i),?_,O,?_⟩
·exact(ok.af x.halt (by rw[hn];exact L) _ r i).mpr ⟨s,by rw[c];omega,by rw[l];exact H,O⟩
·unfold a0;simp only[ga,f4];refine⟨by rw[(m i (by omega)).2];exact J,?_⟩;exact(zR hT d z s h).mpr ⟨j,u,by rw[c];exact f,w⟩)
theorem Ke (hT:ce T) (m:sK (up T) (AT T M) (ln T M) (ol T) N) (C:sK (up T) ((AT T M).map ut) (ln T M) ((ol T).map br) TD) {n:Nat}{S s:SS}(h:SInv TD (ge ((AT T M).map ut)) b (-a) (n+1) S) (h':SInv TD (ge ((AT T M).map ut)) b (-a) n s) {x:Place}(E:x.halt<T.stops.length)
  {e:s3}{j:Nat}(Nu:e∈N.af.getD x.halt []) (u:a0 N S (x.time+chg T x) e=true) (Ny:∀d,d∈N.af.getD x.halt []->a0 N S (x.time+chg T x) d=true->e.2.1<d.2.1\/(e.2.1=d.2.1/\e.2.2<=d.2.2))
  (Nv:e.2.2<j) (w:j<N.len e.2.1) (Nw:eN N s e.2.1 j=true) (Nx:∀f,e.2.2<f->f<j->eN N s e.2.1 f=false) (hw:∀q l,go T M x (.walk q)=some l->¬Fin T M b a (n+1) l):
  ∃p k,N.aU.getD e.2.1 (0,0)=(p,k)/\go T M x (.ride p k e.2.2 j)=some ⟨N.stop e.2.1 j,N.comes e.2.1 j,1⟩/\bK T M x (.ride p k e.2.2 j)=[(p:Int),k,(e.2.2:Int),(j:Int),N.comes e.2.1 j]/\N.stop e.2.1 j<T.stops.length/\Fin T M b a n ⟨N.stop e.2.1 j,N.comes e.2.1 j,1⟩/\
  ∀c l,go T M x c=some l->eg [c]<=n+1->Fin T M b a (bY (n+1) c) l->c=.ride p k e.2.2 j\/l9 (.ride p k e.2.2 j) c:=by(
obtain⟨g,r,i⟩:=e;simp only at*;obtain⟨ok,_,hn⟩:=dq hT m;obtain⟨t,NH,L,Q⟩:=(ok.af x.halt (by rw[hn];exact E) g r i).mp Nu;have hr:=t;rw[o6 m]at hr;obtain⟨NC,ND,H,y⟩:=ou m hr;have mi:((v2 T M)[r].1,(v2 T M)[r].2.1,(v2 T M)[r].2.2)∈v2 T M:=eH hr;obtain⟨A,J,NG⟩:=c'.mp mi;unfold a0 at u;simp only[ga,f4]at u;have o:=w;rw[ND]at o;have D:=ok.ew r j t w;rw[hn]at D;refine⟨_,_,NC,bH.mpr ⟨_,A,J,NG,Nv,o,by rw[<- H];exact L,by rw[<- (y i (by omega)).2,<-Q];exact u.1,by rw[H,(y j o).1]⟩,by simp only[bK,A];rw[(y j o).1],D,(yi rfl).mpr ((so hT m C h' t w).mp Nw),λc l g' NK hf=>?_⟩;cases c with
|walk q=>exact absurd hf (hw q l g')
|ride NM NL NA f=>
 obtain⟨NF,Nz,U,Y,Nj,NI,Nk,d,Nl,Nm,Nn⟩:=zQ hT m C h h' E g' (by simpa [bY]using hf);have:=Ny d Nl Nn;rw[Nm]at this;simp only at this;rcases this with lt|⟨rfl,le⟩
 ·refine .inr ?_;have:=jX.mp (r5 (T:=T) (M:=M)) r NF hr Nz lt;rcases this with z|⟨A,J⟩
  ·exact .inl (by omega)
  ·exact .inr ⟨by omega,.inl (by omega)⟩
 ·subst U Y;by_cases Np:i=NA
  ·subst Np;by_cases Nq:f<j
   ·have:=Nx f Nj Nq;rw[Nk]at this;cases this
   ·by_cases Nr:f=j
    ·subst Nr;exact .inl rfl
    ·exact .inr (.inr ⟨O,.inr ⟨O,.inr ⟨O,by omega⟩⟩⟩)
  ·exact .inr (.inr ⟨O,.inr ⟨O,.inl (by omega)⟩⟩))
theorem Kf (hT:ce T) (t:sK (up T) (AT T M) (ln T M) (ol T) N) (s:sK (up T) ((AT T M).map ut) (ln T M) ((ol T).map br) TD) {left:Nat}{S:Nat->SS}(h:∀k,SInv TD (ge ((AT T M).map ut)) b (-a) k (S k)) {x:Place}(z:x.halt<T.stops.length)
  (hf:Fin T M b a left x) (u:x.halt≠b) (hw:∀q l,go T M x (.walk q)=some l->¬Fin T M b a left l):∃n,left=n+1/\∃e,e∈N.af.getD x.halt []/\a0 N (S left) (x.time+chg T x) e=true:=by(
obtain⟨m,c,w,f,d,hr⟩:=hf
match m,f,hr with
|[],f,hr=>cases f;exact absurd rfl u
|.walk q::m,f,hr=>
 obtain⟨y,g,f⟩:=c6 f;exact absurd ⟨m,c,w,f,d,by rw[iw]at hr;exact hr⟩ (hw q y g)
|.ride p k i j::m,f,hr=>
 obtain⟨y,g,f⟩:=c6 f;rw[fX]at hr;obtain⟨n,rfl⟩:∃n,left=n+1:=⟨left-1,by omega⟩;obtain⟨r,_,_,_,_,_,_,e,h1,_,o⟩:=zQ hT t s (h (n+1)) (h n) z g ⟨m,c,w,f,d,by omega⟩;exact⟨n,O,e,h1,o⟩)
theorem H4 (hT:ce T) (d:sK (up T) (AT T M) (ln T M) (ol T) N) (l:sK (up T) ((AT T M).map ut) (ln T M) ((ol T).map br) TD) {n:Nat}{S k:SS}(h:SInv TD (ge ((AT T M).map ut)) b (-a) (n+1) S) (h':SInv TD (ge ((AT T M).map ut)) b (-a) n k) {s:Nat}(p:s<T.stops.length) {ready:Int}{e:s3}(o:e∈N.af.getD s []) (f:a0 N S ready e=true):
  e.2.1<N.runs.length/\∃j,e.2.2<j/\j<N.len e.2.1/\eN N k e.2.1 j=true:=by
 obtain⟨g,r,i⟩:=e;obtain⟨ok,_,hn⟩:=dq hT d;obtain⟨c,q,t,u⟩:=(ok.af s (by rw[hn];exact p) g r i).mp o;unfold a0 at f;simp only[ga,f4]at f;obtain⟨j,h1,h2,m⟩:=(zR hT d l c h).mp f.2;exact⟨c,j,h1,h2,(so hT d l h' c h2).mpr m⟩
end
theorem Jb {T:Go}(hT:ce T) {M a b:Nat}{t:Int}{N:Nt}(j:sK (up T) (AT T M) (ln T M) (ol T) N) (o:a<T.stops.length) (d:b<T.stops.length) {k:Nat}{S:SS}(h:SInv N (ge (AT T M)) a t k S) (p:S.ae=[]) (r:t+240<Gc) (hn:S.arr.getD b 0≠Gc):
  j6 T M b (S.arr.getD b 0) (S.rides.getD b 0) ⟨a,t,0⟩/\e6 T M b (S.arr.getD b 0) (S.rides.getD b 0) ⟨a,t,0⟩ [] ⟨a,t,0⟩ (S.rides.getD b 0)/\S.rides.getD b 0<=k:=by(
obtain⟨ok,same,c⟩:=dq hT j;obtain⟨h1,h2⟩:=rS ok same h p (s:=b) (by rw[c];exact d);have lt:S.arr.getD b 0<Gc:=by
 rcases h1.1 with⟨n,q⟩|q
 ·obtain⟨w,q⟩:=gE.mp q;exact(ir ok (by rw[c];exact o) r (d_.mpr (same.gj.mpr q))).1
 ·exact absurd q hn
obtain⟨g,i⟩:=h2 lt;refine⟨⟨λm e w f=>h1.2 e ⟨_,iC.mpr ⟨m,w,f,O⟩⟩,λm w f=>?_⟩,⟨O,by rw[Kh,qD],?_,λm _=>.inl ⟨m,O⟩⟩,(h.rides b (by rw[c];exact d) lt).1⟩
·by_cases q:rides m<S.rides.getD b 0
 ·exact absurd (iC.mpr ⟨m,w,f,O⟩) (i _ q)
 ·omega
·obtain⟨l,w,f,hr⟩:=iC.mp g;exact⟨l,_,w,f,e2 _,by omega⟩)
theorem Gn {T:Go}(hT:bj T) {M b:Nat}{a:Int}{r:Nat}{x0 x:Place}{pre:List Leg}{left:Nat}(o:j6 T M b a r x0) (h:e6 T M b a r x0 pre x left) (d:x.halt=b) (c:x.time<=a):
  ∃l',eh T M b a (v2 T M) (2*r+3) r x0=some l'/\ci T M x0 l'=ci T M x0 pre/\l'.length=pre.length:=by
 obtain⟨h1,h2⟩:=h.done o d c;exact K1 hT h1 h2 (by omega)
def d8 (T:Go) (M:Nat):Place->List Leg->List (List Int)
 |_,[]=>[]
 |x,c::l=>bK T M x c::(match go T M x c with
  |some y=>d8 T M y l
  |none=>[])
theorem r_ {T:Go}{M:Nat}:∀(l:List Leg) (c:Leg) {x y:Place},cd T M x l=some y->d8 T M x (l++[c])=d8 T M x l++[bK T M y c]
 |[],c,x,y,h=>by
  cases h;show bK T M x c::_=[bK T M x c];cases go T M x c<;>rfl
 |d::l,c,x,y,h=>by
  obtain⟨z,g,f⟩:=c6 h;show bK T M x d::(match go T M x d with|some y=>d8 T M y (l++[c])|none=>[])=(bK T M x d::(match go T M x d with|some y=>d8 T M y l|none=>[]))++_;rw[g];simp only;rw[r_ l c f];rfl
theorem oA {T:Go}{M:Nat}:∀(l:List Leg) {x y:Place},cd T M x l=some y->(d8 T M x l).flatten=ci T M x l/\(d8 T M x l).length=l.length
 |[],x,y,h=>⟨O,O⟩
 |d::l,x,y,h=>by
  obtain⟨z,g,f⟩:=c6 h;rw[iD g];show(bK T M x d::(match go T M x d with|some y=>d8 T M y l|none=>[])).flatten=_/\(bK T M x d::(match go T M x d with|some y=>d8 T M y l|none=>[])).length=_;rw[g];simp only[jZ,bh];rw[(oA l f).1,(oA l f).2];exact⟨O,O⟩
inductive BJ (N:Nt) (goes:Nat->Nat->Int) (UV:Nat->Nat->Prop):Nat->Nat->Int->Prop
 |first {r i j:Nat}:UV r i->r<N.runs.length->i<j->j<N.len r->BJ N goes UV 1 (N.stop r j) (N.comes r j)
 |walk {w s g:Nat}{x m:Int}:BJ N goes UV w s x->w≠2->(g,m)∈N.ft s->BJ N goes UV 2 g (x+m)
 |ride {w s r i j:Nat}{x:Int}:BJ N goes UV w s x->r<N.runs.length->i<j->j<N.len r->N.stop r i=s->x+(if w=1 then N.chg.getD s 0 else 0)<=goes r i->BJ N goes UV 1 (N.stop r j) (N.comes r j)
def bB (N:Nt) (goes:Nat->Nat->Int) (UV:Nat->Nat->Prop) (r i:Nat):Prop:=UV r i\/∃w x,BJ N goes UV w (N.stop r i) x/\x+(if w=1 then N.chg.getD (N.stop r i) 0 else 0)<=goes r i
def i1 (N:Nt) (F:List Nat) (s:Nat) (x:Int):Prop:=Behind N F s x\/∃u y m,Behind N F u y/\(s,m)∈N.ft u/\x=y+m
def nJ (N:Nt) (F:List Nat) (s:Nat) (x:Int):Prop:=(∃y,Behind N F s y/\x=y+N.chg.getD s 0)\/∃u y m,Behind N F u y/\(s,m)∈N.ft u/\x=y+m
def rH (N:Nt) (goes:Nat->Nat->Int) (UV:Nat->Nat->Prop) (e:s3):Prop:=e.2.1<N.runs.length/\e.2.2+1<N.len e.2.1/\bB N goes UV e.2.1 e.2.2
structure eK (N:Nt) (goes:Nat->Nat->Int) (UV:Nat->Nat->Prop) (S:SS):Prop where
 mid:aG N (i1 N S.aa) (λ_ _ _=>True) (rH N goes UV) (λe=>S.aa.getD e.2.1 0<=e.2.2) (i1 N S.aa) (nJ N S.aa) S
 eT:S.ab.length=N.n
 ab:∀s,s<N.n->mo (Behind N S.aa s) (S.ab.getD s 0)
 cO:S.aa.length=N.runs.length
 gp:∀r,r<N.runs.length->S.aa.getD r 0<N.len r
 gq:∀r,r<N.runs.length->S.aa.getD r 0+1=N.len r\/(S.aa.getD r 0+1<N.len r/\bB N goes UV r (S.aa.getD r 0))
 cover:∀r i,r<N.runs.length->i+1<N.len r->UV r i->S.aa.getD r 0<=i\/∃g,(g,r,i)∈S.ae
section
variable {N:Nt}{goes:Nat->Nat->Int}{UV:Nat->Nat->Prop}
theorem Ec {d:Nat->Nat->Prop}(f:∀r i,UV r i->d r i) {w s:Nat}{x:Int}(h:BJ N goes UV w s x):BJ N goes d w s x:=by(
induction h with
|first h1 h2 a b=>exact .first (f _ _ h1) h2 a b
|walk _ h2 a c=>exact .walk c h2 a
|ride _ h1 h2 a b e c=>exact .ride c h1 h2 a b e)
theorem xu {a:Nat->Nat->Prop}(b:∀r i,UV r i->a r i) {r i:Nat}(h:bB N goes UV r i):bB N goes a r i:=by(
rcases h with h|⟨w,x,h1,h2⟩
·exact .inl (b _ _ h)
·exact .inr ⟨w,x,Ec b h1,h2⟩)
theorem D_ {r i j:Nat}(h:bB N goes UV r i) (hr:r<N.runs.length) (hi:i<j) (a:j<N.len r):BJ N goes UV 1 (N.stop r j) (N.comes r j):=by(
rcases h with h|⟨w,x,h1,h2⟩
·exact .first h hr hi a
·exact .ride h1 hr hi a rfl h2)
theorem xB {F:List Nat}(h2:∀r,r<N.runs.length->F.getD r 0+1=N.len r\/(F.getD r 0+1<N.len r/\bB N goes UV r (F.getD r 0))) {s:Nat}{x:Int}(h:Behind N F s x):BJ N goes UV 1 s x:=by(
obtain⟨r,j,a,b,c,rfl,rfl⟩:=h;rcases h2 r a with p|⟨_,p⟩
·omega
·exact D_ p a b c)
theorem rm (ok:bp N goes) {F:List Nat}{s:Nat}{x:Int}(h:Behind N F s x):x+240<Gc/\s<N.n:=by
 obtain⟨r,j,a,c,b,rfl,rfl⟩:=h;exact⟨ok.ie r j a b,ok.ew r j a b⟩
theorem Eb {F a:List Nat}(c:∀r,r<N.runs.length->a.getD r 0<=F.getD r 0) {s:Nat}{x:Int}(h:Behind N F s x):Behind N a s x:=by
 obtain⟨r,j,b,f,d,e⟩:=h;exact⟨r,j,b,by have:=c r b;omega,d,e⟩
theorem Ed (ok:bp N goes):eK N goes (λ_ _=>False) (gl N):=by(
have rep:∀ {y:Type}(n s:Nat) (x d:y),s<n->(g2 n x).getD s d=x:=λn s x d a=>by simp[nw,ny,a]
have l:∀s,s<N.n->(N.af.map cm).getD s 0=(N.af.getD s []).length:=λs a=>by
 simp only[nw,pr];rw[im (by rw[ok.ha];exact a)];rfl
have m:∀s,s<N.n->∀e,e∈N.af.getD s []->e.1<Gc:=λs a e c=>by
 obtain⟨g,r,i⟩:=e;obtain⟨h1,h2,_,z⟩:=(ok.af s a g r i).mp c;have:=ok.ku r i h1 (by omega);simp only;omega
have k:∀r,r<N.runs.length->(gl N).aa.getD r 0=N.len r-1:=λr hr=>by
 show(N.runs.map λr=>r.1.length-1).getD r 0=_;simp only[nw,pr,Nt.len];rw[im hr];rfl
have f:∀s x,¬Behind N (gl N).aa s x:=by
 rintro s x ⟨r,j,u,w,A,_⟩;rw[k r u]at w;omega
have o:∀s x,¬i1 N (gl N).aa s x:=by
 rintro s x (q|⟨_,_,_,q,_⟩)
 ·exact f _ _ q
 ·exact f _ _ q
have t:∀s x,¬nJ N (gl N).aa s x:=by
 rintro s x (⟨_,q,_⟩|⟨_,_,_,q,_⟩)
 ·exact f _ _ q
 ·exact f _ _ q
refine⟨{
 c9:=by simp[gl],c_:=by simp[gl],dr:=by simp[gl],dt:=by simp[gl,ok.ha]
 arr:=λs a=>by show mo _ ((g2 N.n Gc).getD s 0);rw[rep _ _ _ _ a];exact mo.never (o s)
 sub:=λ_ _ _ q=>q
 rides:=λs a hn=>by
  have hn:(g2 N.n Gc).getD s 0<Gc:=hn;rw[rep _ _ _ _ a]at hn;omega
 ready:=λs a=>by show mo _ ((g2 N.n Gc).getD s 0);rw[rep _ _ _ _ a];exact mo.never (t s)
 bw:=λs a=>jU (l s a)
 dV:=λs a p b=>by
  have b:p<(N.af.map cm).getD s 0:=b;rw[l s a]at b;show _<(g2 N.n Gc).getD s 0;rw[rep _ _ _ _ a];exact m s a _ (getD_mem b _)
 dc:=λs a p b h=>by
  have b:(N.af.map cm).getD s 0<=p:=b;rw[l s a]at b;omega
 dJ:=λe c=>by simp[gl]at c
 cN:=λs a e c h=>by
  have h:(g2 N.n Gc).getD s 0<=e.1:=h;rw[rep _ _ _ _ a]at h;have:=m s a e c;omega},by simp[gl],λs a=>?_,by simp[gl],λr hr=>?_,λr hr=>?_,λ_ _ _ _ q=>q.elim⟩
·show mo _ ((g2 N.n Gc).getD s 0);rw[rep _ _ _ _ a];exact mo.never (f s)
·rw[k r hr];have:=ok.l_ r hr;omega
·rw[k r hr];have:=ok.l_ r hr;exact .inl (by omega))
theorem eK.push {S:SS}(h:eK N goes UV S) {a:Nat->Nat->Prop}{e:s3}(f:∀r i,UV r i->a r i) (j:∀r i,a r i->UV r i\/(r=e.2.1/\i=e.2.2)) (l:a e.2.1 e.2.2) (h1:e.2.1<N.runs.length) (h2:e.2.2+1<N.len e.2.1):eK N goes a {S with ae:=S.ae++[e]}:=by(
have m:=h.mid;refine⟨{c9:=m.c9,c_:=m.c_,dr:=m.dr,dt:=m.dt,arr:=m.arr,sub:=m.sub,rides:=m.rides,ready:=m.ready,bw:=m.bw,dV:=m.dV,dc:=m.dc,dJ:=λd hd=>?_,cN:=λs o d hd n=>?_},h.eT,h.ab,h.cO,h.gp,λr hr=>?_,λr i hr hi k=>?_⟩
·rcases f1.mp hd with hd|hd
 ·rcases m.dJ d hd with⟨b,c,p⟩|q
  ·exact .inl ⟨b,c,xu f p⟩
  ·exact .inr q
 ·simp only[ss]at hd;subst hd;exact .inl ⟨h1,h2,.inl l⟩
·rcases m.cN s o d hd n with q|q
 ·exact .inl q
 ·exact .inr (f_ _ q)
·rcases h.gq r hr with q|⟨b,c⟩
 ·exact .inl q
 ·exact .inr ⟨b,xu f c⟩
·rcases j r i k with q|⟨rfl,rfl⟩
 ·rcases h.cover r i hr hi q with q|⟨g,q⟩
  ·exact .inl q
  ·exact .inr ⟨g,f_ _ q⟩
 ·exact .inr ⟨e.1,fE _ (ss.mpr rfl)⟩)
theorem eK.ride (ok:bp N goes) {S:SS}(h:eK N goes UV S):eK N goes UV (cj N S):=by(
have hm:=h.mid;have J:∀ {s x},Behind N S.aa s x->BJ N goes UV 1 s x:=λq=>xB h.gq q;have E:∀e,e∈S.ae->e.2.1<N.runs.length/\e.2.2+1<N.len e.2.1/\bB N goes UV e.2.1 e.2.2:=by
 rintro⟨g,r,i⟩ j;rcases hm.dJ _ j with q|⟨s,d,h1,h2⟩
 ·exact q
 ·have h2:S.ready.getD s 0<=g:=h2;obtain⟨a,b,f,Nn⟩:=(ok.af s d g r i).mp h1;refine⟨a,b,.inr ?_⟩;have hg:=ok.ku r i a (by omega);have f:N.stop r i=s:=f;show ∃w x,BJ N goes UV w (N.stop r i) x/\x+(if w=1 then N.chg.getD (N.stop r i) 0 else 0)<=goes r i;rw[f];rcases(hm.ready s d).1 with(⟨y,A,p2⟩|⟨u,y,m,A,p2,C⟩)|p
  ·exact⟨1,y,J A,by rw[No rfl];omega⟩
  ·exact⟨2,y+m,.walk (J A) (by decide) p2,by rw[Ps (by decide)];omega⟩
  ·omega
have c:fO N S.ab S.aa ([]++S.ae) (bt N S):=by
 refine fO.fold ok h.gp S.ae [] (λe j=>(E e j).1) ?_;exact {off:= {len:=h.eT,min:=h.ab,le:=λs d=>e2 _,ai:=λs=>by simp},cO:=h.cO,ff:=λr hr=>t1 _,leB:=λe j=>by simp at j,from_:=λr hr=>.inl rfl}
rw[lB]at c;generalize Nk:bt N S=o at c;have mono:∀ {s x},Behind N S.aa s x->Behind N o.aa s x:=λq=>Eb c.ff q;have Y:∀r,r<N.runs.length->o.aa.getD r 0+1=N.len r\/(o.aa.getD r 0+1<N.len r/\bB N goes UV r (o.aa.getD r 0)):=by
 intro r hr;rcases c.from_ r hr with q|⟨e,a,b,f⟩
 ·rw[q];exact h.gq r hr
 ·obtain⟨A,p2,C⟩:=E e a;rw[b,f]at C p2;exact .inr ⟨p2,C⟩
have Nm:aG N (i1 N S.aa) (λ_ _ _=>True) (rH N goes UV) (λe=>o.aa.getD e.2.1 0<=e.2.2) (i1 N S.aa) (nJ N S.aa) {S with taken:=S.taken+1,aa:=o.aa,ab:=o.ab,ae:=[]}:= {
 c9:=hm.c9,c_:=hm.c_,dr:=hm.dr,dt:=hm.dt,arr:=hm.arr,sub:=λ_ _ _ q=>q
 rides:=λs d hn=>by
  have hn:S.arr.getD s 0<Gc:=hn;refine .inl ⟨?_,trivial⟩;rcases(hm.arr s d).1 with q|q
  ·exact q
  ·omega
 ready:=hm.ready,bw:=hm.bw,dV:=hm.dV,dc:=hm.dc
 dJ:=λe j=>by simp at j
 cN:=λs d e j l=>by
  obtain⟨g,r,i⟩:=e;obtain⟨a,b,f,Nn⟩:=(ok.af s d g r i).mp j;rcases hm.cN s d _ j l with q|q
  ·have q:S.aa.getD r 0<=i:=q;have:=c.ff r a;exact .inl (by simp only;omega)
  ·exact .inl (c.leB _ q)}
have dY:∀u,u∈o.ai->u<N.n/\Behind N o.aa u (o.ab.getD u 0)/\o.ab.getD u 0+240<Gc:=by
 intro u hu;obtain⟨h1,h2⟩:=(c.off.ai u).mp hu;have D:Behind N o.aa u (o.ab.getD u 0):=by
  rcases(c.off.min u h1).1 with q|q
  ·exact q
  ·rcases(h.ab u h1).1 with p|p
   ·have:=(rm ok p).1;omega
   ·omega
 exact⟨h1,D,(rm ok D).1⟩
have m1:=sr ok o.ab o.ai (S:= {S with taken:=S.taken+1,aa:=o.aa,ab:=o.ab,ae:=[]}) rfl (λu hu=>⟨(dY u hu).1,(dY u hu).2.2⟩) Nm;have T:cj N S=o.ai.foldl (a8 N) {S with taken:=S.taken+1,aa:=o.aa,ab:=o.ab,ae:=[]}:=by
 unfold cj;rw[Nk]
have keep:∀(U:List Nat) (Z:SS),(U.foldl (a8 N) Z).ab=Z.ab/\(U.foldl (a8 N) Z).aa=Z.aa:=by
 intro U
 induction U with
 |nil=>intro Z;exact⟨O,O⟩
 |cons u U Nl=>
  intro Z;rw[dF];obtain⟨a2,a3⟩:=Nl (a8 N Z u);obtain⟨Np,L,Q⟩:=su (N:=N) Z u;exact⟨a2.trans L,a3.trans Q⟩
obtain⟨t,k⟩:=keep o.ai {S with taken:=S.taken+1,aa:=o.aa,ab:=o.ab,ae:=[]};rw[<- T]at m1 t k;simp only at t k;have aA:∀u y,u∉o.ai->Behind N o.aa u y->∃z,Behind N S.aa u z/\z<=y:=by
 intro u y hr H;obtain⟨l,hu⟩:=rm ok H;have h1:=(c.off.min u hu).2 y H;have h2:¬o.ab.getD u 0<S.ab.getD u 0:=λq=>hr ((c.off.ai u).mpr ⟨hu,q⟩);rcases(h.ab u hu).1 with q|q
 ·exact⟨_,q,by omega⟩
 ·omega
have m2:aG N (i1 N S.aa) (λ_ _ _=>True) (rH N goes UV) (λe=>o.aa.getD e.2.1 0<=e.2.2) (i1 N o.aa) (nJ N o.aa) (cj N S):=by
 refine m1.widen (λs d x q=>?_) (λs d x q=>?_) (λs d x q=>?_) (λs d x q=>?_)
 ·rcases q with(q|⟨u,y,m,a,b,f⟩)|⟨a,b⟩|⟨u,m,a,b,f⟩
  ·exact .inl (mono q)
  ·exact .inr ⟨u,y,m,mono a,b,f⟩
  ·rw[b];exact .inl (dY s a).2.1
  ·exact .inr ⟨u,_,m,(dY u a).2.1,b,f⟩
 ·rcases q with q|⟨u,y,m,a,b,f⟩
  ·by_cases e:s∈o.ai
   ·exact⟨_,.inr (.inl ⟨e,O⟩),(c.off.min s d).2 x q⟩
   ·obtain⟨z,hz,l⟩:=aA s x e q;exact⟨z,.inl (.inl hz),l⟩
  ·by_cases e:u∈o.ai
   ·have:=(c.off.min u (dY u e).1).2 y a;exact⟨_,.inr (.inr ⟨u,m,e,b,O⟩),by omega⟩
   ·obtain⟨z,hz,l⟩:=aA u y e a;exact⟨z+m,.inl (.inr ⟨u,z,m,hz,b,O⟩),by omega⟩
 ·rcases q with(⟨y,q,e⟩|⟨u,y,m,a,b,f⟩)|⟨a,b⟩|⟨u,m,a,b,f⟩
  ·exact .inl ⟨y,mono q,e⟩
  ·exact .inr ⟨u,y,m,mono a,b,f⟩
  ·exact .inl ⟨_,(dY s a).2.1,b⟩
  ·exact .inr ⟨u,_,m,(dY u a).2.1,b,f⟩
 ·rcases q with⟨y,q,Nq⟩|⟨u,y,m,a,b,f⟩
  ·by_cases e:s∈o.ai
   ·have:=(c.off.min s d).2 y q;exact⟨_,.inr (.inl ⟨e,O⟩),by omega⟩
   ·obtain⟨z,hz,l⟩:=aA s y e q;exact⟨z+N.chg.getD s 0,.inl (.inl ⟨z,hz,O⟩),by omega⟩
  ·by_cases e:u∈o.ai
   ·have:=(c.off.min u (dY u e).1).2 y a;exact⟨_,.inr (.inr ⟨u,m,e,b,O⟩),by omega⟩
   ·obtain⟨z,hz,l⟩:=aA u y e a;exact⟨z+m,.inl (.inr ⟨u,z,m,hz,b,O⟩),by omega⟩
refine⟨?_,by rw[t];exact c.off.len,λs d=>by rw[t,k];exact c.off.min s d,by rw[k];exact c.cO,λr hr=>?_,λr hr=>by rw[k];exact Y r hr,λr i hr hi Nj=>?_⟩
·rw[k];exact {c9:=m2.c9,c_:=m2.c_,dr:=m2.dr,dt:=m2.dt,arr:=m2.arr,sub:=λ_ _ _ q=>q,rides:=λs d hn=>.inl ⟨(m2.arr s d).1.elim id (λq=>by omega),trivial⟩,ready:=m2.ready,bw:=m2.bw,dV:=m2.dV,dc:=m2.dc,dJ:=m2.dJ,cN:=m2.cN}
·rw[k];have:=c.ff r hr;have:=h.gp r hr;omega
·rw[k];refine .inl ?_;rcases h.cover r i hr hi Nj with q|⟨g,q⟩
 ·have:=c.ff r hr;omega
 ·exact c.leB _ q)
theorem eK.fin (ok:bp N goes) {S:SS}(h:eK N goes UV S) (L:∀r i j,UV r i->i<j->j<N.len r->i+1<N.len r) (t:S.ae=[]) {s:Nat}(a:s<N.n):mo (λx=>∃w,BJ N goes UV w s x) (S.arr.getD s 0):=by(
have hm:=h.mid;have key:∀w s x,BJ N goes UV w s x->s<N.n/\((w=1/\S.ab.getD s 0<=x/\x+240<Gc)\/(w=2/\S.ready.getD s 0<=x/\S.arr.getD s 0<=x)):=by
 intro w s x q;have C:∀r i j,r<N.runs.length->i<j->j<N.len r->S.aa.getD r 0<=i->N.stop r j<N.n/\((1=1/\S.ab.getD (N.stop r j) 0<=N.comes r j/\N.comes r j+240<Gc)\/(1=2/\S.ready.getD (N.stop r j) 0<=N.comes r j/\S.arr.getD (N.stop r j) 0<=N.comes r j)):=by
  intro r i j hr hi o hf;have z:=ok.ew r j hr o;exact⟨z,.inl ⟨O,(h.ab _ z).2 _ ⟨r,j,hr,by omega,o,O,O⟩,ok.ie r j hr o⟩⟩
 induction q with
 |@first r i j h1 h2 f k=>
  refine C r i j h2 f k ?_;rcases h.cover r i h2 (by omega) h1 with q|⟨g,q⟩
  ·exact q
  ·rw[t]at q;simp at q
 |@walk w s g x m _ hw hf b=>
  obtain⟨a,b⟩:=b;have l:=ok.foot s g m a hf;rcases b with⟨_,d,A⟩|⟨e,_⟩
  ·have c:Behind N S.aa s (S.ab.getD s 0):=by
    rcases(h.ab s a).1 with q|q
    ·exact q
    ·omega
   have a1:=(hm.ready g l.1).2 (S.ab.getD s 0+m) (.inr ⟨s,_,m,c,hf,O⟩);have a2:=(hm.arr g l.1).2 (S.ab.getD s 0+m) (.inr ⟨s,_,m,c,hf,O⟩);exact⟨l.1,.inr ⟨O,by omega,by omega⟩⟩
  ·exact absurd e hw
 |@ride w s r i j x _ h1 h2 f k p b=>
  obtain⟨a,b⟩:=b;refine C r i j h1 h2 f ?_;have hr:S.ready.getD s 0<=goes r i:=by
   rcases b with⟨rfl,d,A⟩|⟨rfl,d,_⟩
   ·have c:Behind N S.aa s (S.ab.getD s 0):=by
     rcases(h.ab s a).1 with q|q
     ·exact q
     ·omega
    have a1:=(hm.ready s a).2 (S.ab.getD s 0+N.chg.getD s 0) (.inl ⟨_,c,O⟩);rw[No rfl]at p;omega
   ·rw[Ps (by decide)]at p;omega
  rcases hm.cN s a (goes r i,r,i) ((ok.af s a _ r i).mpr ⟨h1,by omega,k,O⟩) hr with q|q
  ·exact q
  ·rw[t]at q;simp at q
have D:∀ {s x},Behind N S.aa s x->BJ N goes UV 1 s x:=λq=>xB h.gq q;refine⟨?_,?_⟩
·rcases(hm.arr s a).1 with(q|⟨u,y,m,E,H,J⟩)|q
 ·exact .inl ⟨1,D q⟩
 ·exact .inl ⟨2,by rw[J];exact .walk (D E) (by decide) H⟩
 ·exact .inr q
·rintro x ⟨w,q⟩;obtain⟨_,⟨_,d,A⟩|⟨_,_,d⟩⟩:=key w s x q
 ·have c:Behind N S.aa s (S.ab.getD s 0):=by
   rcases(h.ab s a).1 with q|q
   ·exact q
   ·omega
  have:=(hm.arr s a).2 _ (.inl c);omega
 ·exact d)
end
section
variable {N:Nt}{goes:Nat->Nat->Int}{a:Nat}{t:Int}
def Dx (N:Nt) (a s:Nat) (o:Option Int):Prop:=ev (λf=>(s=a/\f=0)\/(s,f)∈N.ft a) o
def lD (N:Nt) (goes:Nat->Nat->Int) (a:Nat) (t:Int) (r i:Nat):Prop:=r<N.runs.length/\i+1<N.len r/\∃f,((N.stop r i=a/\f=0)\/(N.stop r i,f)∈N.ft a)/\t+f<=goes r i
theorem rp {w s:Nat}{x:Int}:BJ N goes (lD N goes a t) w s x↔∃n,NJ N goes a t (n+1) w s x:=by(
constructor
·intro h
 induction h with
 |first h1 h2 b e=>
  obtain⟨_,_,f,d|d,g⟩:=h1
  ·obtain⟨l,rfl⟩:=d;exact⟨0,.ride .start h2 b e l (by simpa using g)⟩
  ·exact⟨0,.ride (.walk .start (by decide) d) h2 b e rfl (by simpa using g)⟩
 |walk _ h2 b c=>obtain⟨n,c⟩:=c;exact⟨n,.walk c h2 b⟩
 |ride _ h1 h2 b e d c=>obtain⟨n,c⟩:=c;exact⟨n+1,.ride c h1 h2 b e d⟩
·rintro⟨n,h⟩;generalize o:n+1=k at h
 induction h generalizing n with
 |start=>omega
 |walk _ h2 b c=>exact .walk (c n o) h2 b
 |@ride p w s r i j x h h1 h2 b e d c=>
  cases p with
  |succ m=>exact .ride (c m rfl) h1 h2 b e d
  |zero=>
   refine .first ⟨h1,by omega,?_⟩ h1 h2 b
   rw[e];rcases sk h with⟨_,rfl,rfl,rfl⟩|rfl|rfl
   ·exact⟨0,.inl ⟨O,O⟩,by simpa using d⟩
   ·exact absurd h me
   ·rw[Ps (by decide)]at d;rcases rL.mp ⟨0,2,t1 _,by decide,h⟩with⟨rfl,rfl⟩|⟨m,q,u⟩
    ·exact⟨0,.inl ⟨O,O⟩,by omega⟩
    ·exact⟨m,.inr q,by omega⟩)
def arrOf (arr:Int) (t:Int) (o:Option Int):Int:=min arr (t+o.getD Gc)
theorem JH (ok:bp N goes) (k:a<N.n) (h0:0<=t) (l:t+240<Gc) {s:Nat}{o:Option Int}(hf:Dx N a s o) {v:Int}(h:mo (λx=>∃w,BJ N goes (lD N goes a t) w s x) v):mo (λx=>∃n w,NJ N goes a t n w s x) (arrOf v t o):=by(
have lt:∀n w x,NJ N goes a t n w s x->x<Gc:=λn w x q=>(ir ok k l q).1;have h1:∀x,(∃n w,NJ N goes a t n w s x)↔(∃w,BJ N goes (lD N goes a t) w s x)\/∃f,((s=a/\f=0)\/(s,f)∈N.ft a)/\x=t+f:=by
 intro x;constructor
 ·rintro⟨n,w,q⟩;cases n with
  |succ n=>exact .inl ⟨w,rp.mpr ⟨n,q⟩⟩
  |zero=>
   right;by_cases e:w=1
   ·subst e;exact absurd q me
   ·rcases rL.mp ⟨0,w,t1 _,e,q⟩with⟨rfl,rfl⟩|⟨m,d,i⟩
    ·exact⟨0,.inl ⟨O,O⟩,by omega⟩
    ·exact⟨m,.inr d,i⟩
 ·rintro(⟨w,q⟩|⟨f,⟨rfl,rfl⟩|q,rfl⟩)
  ·obtain⟨n,q⟩:=rp.mp q;exact⟨_,w,q⟩
  ·exact⟨0,0,by rw[CT];exact .start⟩
  ·exact⟨0,2,.walk .start (by decide) q⟩
have hv:v<=Gc:=by
 rcases h.1 with⟨w,q⟩|q
 ·obtain⟨n,q⟩:=rp.mp q;have:=lt _ _ _ q;omega
 ·omega
unfold arrOf;cases o with
|none=>
 have e:min v (t+(none:Option Int).getD Gc)=v:=by show min v (t+Gc)=v;omega
 rw[e];refine h.congr λx=>?_;rw[h1];exact⟨.inl,λq=>q.elim id λ⟨f,q,_⟩=>absurd q (hf f)⟩
|some b=>
 show mo _ (min v (t+b));obtain⟨g,j⟩:=hf;have:=(h.put (y:=t+b)).resolve_right λq=>q (lt _ _ _ ((h1 (t+b)).mpr (.inr ⟨b,g,O⟩)).choose_spec.choose_spec);have e:(if t+b<v then t+b else v)=min v (t+b):=by split<;>omega
 rw[e]at this;refine this.widen (λy c=>?_) λy c=>?_
 ·rw[h1];rcases c with q|rfl
  ·exact .inl q
  ·exact .inr ⟨b,g,O⟩
 ·rcases(h1 y).mp c with q|⟨f,d,i⟩
  ·exact⟨y,.inl q,e2 _⟩
  ·exact⟨t+b,.inr rfl,by have:=j f d;omega⟩)
end
theorem JI {T:Go}(hT:ce T) {M a b:Nat}{u v:Int}{N:Nt}(h:sK (up T) (AT T M) (ln T M) (ol T) N) (e:a<T.stops.length) (j:b<T.stops.length) (hv:v+241<Gc) {E:Int->Int}
  (d:∀m,u<=m->m<=v+1->mo (λx=>∃n w,NJ N (ge (AT T M)) a m n w b x) (E m)):
  ((s5 (v-u+1).toNat).filterMap λ(i:Nat)=>match lg (az T M a (u+(i:Int)) (aD T M)) b,lg (az T M a (u+(i:Int)+1) (aD T M)) b with
   |some x,some y=>if x<y then some [u+(i:Int),x]else none
   |some x,none=>some [u+(i:Int),x]
   |none,_=>none)=(s5 (v-u+1).toNat).filterMap λ(i:Nat)=>if E (u+(i:Int))<E (u+(i:Int)+1)then some [u+(i:Int),E (u+(i:Int))]else none:=by
 obtain⟨ok,same,k⟩:=dq hT h;have c:∀m,u<=m->m<=v+1->lg (az T M a m (aD T M)) b=cS (E m)/\E m<=Gc:=by
  intro m h1 h2;have lt:∀x,(∃n w,NJ N (ge (AT T M)) a m n w b x)->x<Gc:=λx ⟨n,w,q⟩=>(ir ok (by rw[k];exact e) (by omega) q).1;have q:=(d m h1 h2).minOf lt;refine⟨(nZ (M:=M) (t:=m) hT.right e j).uniq (q.congr λx=>?_),?_⟩
  ·constructor
   ·rintro⟨n,w,z⟩;exact⟨n,gE.mpr ⟨w,same.gj.mp (d_.mp z)⟩⟩
   ·rintro⟨n,z⟩;obtain⟨w,z⟩:=gE.mp z;exact⟨n,w,d_.mpr (same.gj.mpr z)⟩
  ·rcases(d m h1 h2).1 with z|z
   ·have:=lt _ z;omega
   ·omega
 refine kh λi hi=>?_;rw[bJ]at hi;obtain⟨f,l⟩:=c (u+(i:Int)) (by omega) (by omega);obtain⟨g,o⟩:=c (u+(i:Int)+1) (by omega) (by omega);rw[f,g];unfold cS;by_cases c1:E (u+(i:Int))=Gc
 ·have c3:¬(E (u+(i:Int))<E (u+(i:Int)+1)):=by omega
  rw[No c1,Ps c3]
 ·rw[Ps c1];by_cases c2:E (u+(i:Int)+1)=Gc
  ·rw[No c2,No (by omega)]
  ·rw[Ps c2]
theorem Fs {a:Type}(f:Nat->Option a) (n:Nat):((s5 n).filterMap f).reverse=(s5 n).filterMap λi=>f (n-1-i):=by(
rw[<- List.filterMap_reverse];have:(s5 n).reverse=(s5 n).map λi=>n-1-i:=by
 apply p4
 ·simp
 ·intro i h1 h2;simp
rw[this,q2];rfl)
end Tw
namespace L2
open PySem PySem.Spec PyProof.Rows
abbrev wS:=Sum Int Str
def ip:wS->Wp->Bool
 |.inl k,v=>qJ k v
 |.inr x,v=>CD x v
def GS (w:rs):wS->Int
 |.inl k=>vQ k
 |.inr x=>hashStr w x
theorem gx:∀ {k:wS}{v:Wp},ip k v=true->(∃i t,k=it i/\v=hN i t)\/(∃x t,k=iR x/\v=Value.str x t)
 |.inl i,v,h=>by
  obtain⟨t,e⟩:=Value.isInt_shape (k:=i) (v:=v) h;exact .inl ⟨i,t,O,e⟩
 |.inr x,v,h=>by
  obtain⟨t,e⟩:=Value.isStrOf_shape (x:=x) (v:=v) h;exact .inr ⟨x,t,O,e⟩
theorem GU (i:Int) (t:Tok):ip (.inl i) (.int i t)=true:=by simp[ip,qJ]
theorem GV (x:Str) (t:Tok):ip (.inr x) (.str x t)=true:=by simp[ip,CD]
theorem GW (a b:Int):decide ((it a:wS)=it b)=(a==b):=by(
by_cases e:a=b
·subst e;simp
·have h:¬(it a:wS)=it b:=λq=>e (Sum.inl.inj q);rw[sw h];exact(lC.mpr e).symm)
theorem GZ (a b:Str):decide ((iR a:wS)=iR b)=decide (a=b):=by(
by_cases e:a=b
·subst e;simp
·have h:¬(iR a:wS)=iR b:=λq=>e (Sum.inr.inj q);rw[sw h,sw e])
theorem GX (a:Int) (b:Str):decide ((it a:wS)=iR b)=false:=sw (λq=>nomatch q)
theorem GY (a:Str) (b:Int):decide ((iR a:wS)=it b)=false:=sw (λq=>nomatch q)
def b5 (prog:pu) (w:rs):PySem.KeyKind prog w wS where
 is:=ip
 hash:=GS w
 inj:=λv a b f d=>by
  rcases gx f with⟨i,t,rfl,rfl⟩|⟨x,t,rfl,rfl⟩
  ·rcases gx d with⟨j,u,rfl,e⟩|⟨y,u,rfl,e⟩
   ·injection e with c _;rw[c]
   ·exact nomatch e
  ·rcases gx d with⟨j,u,rfl,e⟩|⟨y,u,rfl,e⟩
   ·exact nomatch e
   ·injection e with c _;rw[c]
 byValue:=λk v h=>by
  rcases gx h with⟨i,t,rfl,rfl⟩|⟨x,t,rfl,rfl⟩<;>rfl
 pyHash:=λhv h=>by
  rcases gx hv with⟨i,t,rfl,rfl⟩|⟨x,t,rfl,rfl⟩
  ·exact wpAny_pyHash_int h
  ·exact wpAny_pyHash_str h
 eqBool:=λhu hv h=>by
  rcases gx hu with⟨i,t,rfl,rfl⟩|⟨x,t,rfl,rfl⟩
  ·rcases gx hv with⟨j,u,rfl,rfl⟩|⟨y,u,rfl,rfl⟩
   ·rw[GW]at h;exact BL h
   ·rw[GX]at h;exact SeqAt.EqAt.int_str i t y u _ _ _ _ h
  ·rcases gx hv with⟨j,u,rfl,rfl⟩|⟨y,u,rfl,rfl⟩
   ·rw[GY]at h;exact SeqAt.EqAt.str_int x t j u _ _ _ _ h
   ·rw[GZ]at h;exact wpAny_eqBool_str h
 «strs» :=λk x t v h=>by
  rcases gx h with⟨i,u,rfl,e⟩|⟨y,u,rfl,e⟩
  ·exact nomatch e
  ·injection e with c _;subst c;cases v<;>rfl
theorem Hq (prog:pu) (w:rs) (i:Int) (t:Tok):(b5 prog w).is (.inl i) (.int i t)=true:=GU i t
theorem Hr (prog:pu) (w:rs) (x:Str) (t:Tok):(b5 prog w).is (.inr x) (.str x t)=true:=GV x t
inductive XV where
 |ak|bl (b:Bool)|int (i:Int)|str (x:Str)|e_ (b:Array UInt8)|oq (b:UInt64)|ref (a:B)|ty (n:String)
 deriving DecidableEq
def RelV:XV->Wp->Prop
 |.ak,u=>u=Value.none
 |.bl b,u=>u=qK b
 |.int i,u=>∃t,u=hN i t
 |.str x,u=>∃t,u=Value.str x t
 |.e_ b,u=>∃t,u=CF b t
 |.oq b,u=>∃t,u=CH b t
 |.ref a,u=>u=f8 a
 |.ty n,u=>u=CI n
abbrev wP:List XV->List Wp->Prop:=Paired RelV
theorem wP.length {xs:List XV}{us:List Wp}(r:wP xs us):xs.length=us.length:=Paired.length r
theorem wP.get:∀ {xs:List XV}{us:List Wp}{i:Nat}{x:XV},wP xs us->xs[i]?=some x->∃u,us[i]?=some u/\RelV x u
 |_,_,_,_,.nil,e=>by simp at e
 |_,_,0,_,.cons r _,e=>by simp at e;subst e;exact⟨_,O,r⟩
 |_,_,i+1,x,.cons _ t,e=>by
  obtain⟨u,h1,h2⟩:=wP.get (i:=i) (x:=x) t (by simpa using e);exact⟨u,by simpa using h1,h2⟩
theorem wP.set {x:XV}{u:Wp}(r:RelV x u):∀ {xs:List XV}{us:List Wp}(i:Nat),wP xs us->wP (xs.set i x) (us.set i u)
 |_,_,_,.nil=>.nil
 |_,_,0,.cons _ t=>.cons r t
 |_,_,i+1,.cons q t=>.cons q (wP.set r i t)
theorem wP.append:∀ {xs ys:List XV}{us a:List Wp},wP xs us->wP ys a->wP (xs++ys) (us++a)
 |_,_,_,_,.nil,s=>s
 |_,_,_,_,.cons r t,s=>.cons r (wP.append t s)
theorem wP.take:∀ {xs:List XV}{us:List Wp}(n:Nat),wP xs us->wP (xs.take n) (us.take n)
 |_,_,0,_=>.nil
 |_,_,_+1,.nil=>.nil
 |_,_,n+1,.cons r t=>.cons r (wP.take n t)
theorem wP.drop:∀ {xs:List XV}{us:List Wp}(n:Nat),wP xs us->wP (xs.drop n) (us.drop n)
 |_,_,0,r=>r
 |_,_,_+1,.nil=>.nil
 |_,_,n+1,.cons _ t=>wP.drop n t
theorem wP.none_of:∀ {xs:List XV}{us:List Wp}{i:Nat},wP xs us->xs[i]?=none->us[i]?=none:=λ{xs us i} r e=>by
 have h1:=r.length;have h2:xs.length<=i:=qZ.mp e;exact qZ.mpr (by omega)
def cZ:Option XV->Option Wp->Prop
 |some v,some u=>RelV v u
 |none,none=>True
 |_,_=>False
def KV {κ:Type}:List (κ×XV)->List (κ×Wp)->Prop:=Paired λ(p:κ×XV) (q:κ×Wp)=>p.1=q.1/\RelV p.2 q.2
def kV:wS->XV
 |.inl i=>.int i
 |.inr x=>.str x
inductive HO where
 |lst (xs:List XV)
 |tup (xs:List XV)
 |dK (UF:List (wS×XV))|dT (UF:List (List wS×XV))
 |set (S:Int->Bool) (n:Nat)
 |ins (C dx:B) (fs:List (Str×XV))
 |own (x:B)
 |xd (fs:List (Str×XV))
 |met (f x:B)
 |sX (lo hi:Int)
 |av (o:Obj) (u:HO)
 |jF (ps:Array Wp)
 |ext (a:wn->Prop)
abbrev Hp:=B->Option HO
def T0 (H:Hp) (a:B) (o:HO):Hp:=λb=>if b=a then some o else H b
theorem KE {H:Hp}{a:B}{o:HO}:T0 H a o a=some o:=by unfold T0;rw[No rfl]
theorem Uf {H:Hp}{a b:B}{o:HO}(h:b≠a):T0 H a o b=H b:=by unfold T0;rw[Ps h]
theorem gF {H:Hp}{a:B}{o u:HO}:T0 (T0 H a o) a u=T0 H a u:=by
 funext b;unfold T0;split<;>rfl
theorem y6 {H:Hp}{a b:B}{o u:HO}(h:H a=some o) (h':H b=some u) (d:o≠u):a≠b:=by
 intro e;subst e;rw[h]at h';exact d (bT h')
theorem v0 {H:Hp}{a b:B}{o:HO}(h:H a=some o) (h':H b=none):a≠b:=by
 intro e;subst e;rw[h]at h';cases h'
section
variable (P:pu) (w:rs)
def bq (H:Hp) (h:wn) (a:B):HO->Prop
 |.lst xs=>xs.length<=Is/\∃(Op:List Wp) (n:Nat),wP xs Op/\h.get? a=some {cls:=.type "list",data:=.seq Op.toArray n}
 |.tup xs=>xs.length<=Is/\∃Op:List Wp,wP xs Op/\iU h a Op.toArray
 |.dK UF=>UF.length<=Is/\(a==eA)=false/\∃vs,KV UF vs/\h.DictOf (b5 P w) a vs
 |.dT UF=>UF.length<=Is/\(a==eA)=false/\∃xs:List (List wS×B×Wp),
   Paired (λ(p:List wS×XV) (q:List wS×B×Wp)=>p.1=q.1/\H q.2.1=some (.tup (p.1.map kV))/\RelV p.2 q.2.2) UF xs/\
   ∃o es ep,h.get? a=some o/\o.ExactDict/\o.data=.dict es ep/\es.toList=xs.map (entryOfKey (k6 (b5 P w)))/\(xs.map (·.1)).Nodup
 |.set S n=>h.SetOf (intKind P w) a S n
 |.ins C dx fs=>H dx=some (.own a)/\fs.length<=1000/\dx≠a/\h.get? a=some (iO C dx)/\
   ∃mA,h.Ns1 dx mA/\(∀f,cZ (fs.lookup f) (mA f))/\vD mA (fs.map (·.1))
 |.own _=>∃o,h.get? a=some o
 |.xd fs=>∃mA,h.Ns1 a mA/\∀f,cZ (fs.lookup f) (mA f)
 |.sX lo hi=>∃t u v,h.get? a=some {cls:=.type "range",data:=.fields #[.int lo t,.int hi u,.int 1 v]}
 |.av o u=>h.get? a=some o/\bq H h a u
 |.jF ps=>h.get? a=some {cls:=.none,data:=.fields ps}
 |.met f x=>h.get? a=some (v7 (.ref f) (.ref x))
 |.ext b=>b h/\(∃o,h.get? a=some o)/\∀h1 h2:wn,b h1->(∀o,h1.get? a=some o->h2.get? a=some o)->b h2
def aQ (H:Hp) (h:wn):Prop:=∀a o,H a=some o->bq P w H h a o
end
section
variable {P:pu}{w:rs}{H V:Hp}{h h':wn}{a:B}{o:HO}
theorem bq.lt (x:bq P w H h a o):a<h.objs.size:=by(
cases o with
|lst xs=>obtain⟨_,_,_,_,e⟩:=x;exact f0 e
|tup xs=>obtain⟨_,_,_,p⟩:=x;exact p.lt
|dK UF=>obtain⟨_,_,_,_,o,_,_,e,_⟩:=x;exact f0 e
|dT UF=>obtain⟨_,_,_,_,o,_,_,e,_⟩:=x;exact f0 e
|set S n=>obtain⟨o,_,_,_,e,_⟩:=x;exact f0 e
|ins C dx fs=>obtain⟨_,_,_,e,_⟩:=x;exact f0 e
|own y=>obtain⟨_,e⟩:=x;exact f0 e
|xd fs=>obtain⟨_,⟨_,_,_,e,_⟩,_⟩:=x;exact f0 e
|sX lo hi=>obtain⟨_,_,_,e⟩:=x;exact f0 e
|av ob u=>obtain⟨e,_⟩:=x;exact f0 e
|jF ps=>exact f0 (show h.get? a=some _ from x)
|met f y=>exact f0 (show h.get? a=some _ from x)
|ext b=>obtain⟨_,⟨_,e⟩,_⟩:=x;exact f0 e)
theorem Paired.se {d e:Type}{F G:d->e->Prop}:∀ {c:List d}{l₂:List e},Paired F c l₂->(∀a b,F a b->G a b)->Paired G c l₂
 |_,_,.nil,_=>.nil
 |_,_,.cons r t,f=>.cons (f _ _ r) (Paired.se t f)
theorem bq.gD (x:bq P w H h a o) (k:∀b u,(b=a\/H b=some (.own a))->h.get? b=some u->h'.get? b=some u)
  (j:∀b,H b=some (.own a)->V b=some (.own a)) (l:∀b xs,H b=some (.tup xs)->V b=some (.tup xs)):bq P w V h' a o:=by(
induction o with
|lst xs=>obtain⟨z,Op,n,r,e⟩:=x;exact⟨z,Op,n,r,k _ _ (.inl rfl) e⟩
|tup xs=>obtain⟨z,Op,r,ob,e,c⟩:=x;exact⟨z,Op,r,ob,k _ _ (.inl rfl) e,c⟩
|dK UF=>obtain⟨z,y,vs,r,ob,es,ep,e,c⟩:=x;exact⟨z,y,vs,r,ob,es,ep,k _ _ (.inl rfl) e,c⟩
|dT UF=>
 obtain⟨z,y,xs,r,ob,es,ep,e,c⟩:=x;exact⟨z,y,xs,Paired.se r λp q z=>⟨z.1,l _ _ z.2.1,z.2.2⟩,ob,es,ep,k _ _ (.inl rfl) e,c⟩
|set S n=>obtain⟨ob,es,ep,t,e,c⟩:=x;exact⟨ob,es,ep,t,k _ _ (.inl rfl) e,c⟩
|ins C dx fs=>
 obtain⟨d,z,ne,e,mA,⟨g,es,ep,i,c⟩,r⟩:=x;exact⟨j _ d,z,ne,k _ _ (.inl rfl) e,mA,⟨g,es,ep,k _ _ (.inr d) i,c⟩,r⟩
|own y=>obtain⟨ob,e⟩:=x;exact⟨ob,k _ _ (.inl rfl) e⟩
|xd fs=>obtain⟨mA,⟨g,es,ep,e,c⟩,r⟩:=x;exact⟨mA,⟨g,es,ep,k _ _ (.inl rfl) e,c⟩,r⟩
|sX lo hi=>obtain⟨t,u,v,e⟩:=x;exact⟨t,u,v,k _ _ (.inl rfl) e⟩
|av ob u m=>obtain⟨e,q⟩:=x;exact⟨k _ _ (.inl rfl) e,m q⟩
|jF ps=>
 have e:h.get? a=some {cls:=.none,data:=.fields ps}:=x;show h'.get? a=some {cls:=.none,data:=.fields ps};exact k a _ (.inl rfl) e
|met f y=>
 have e:h.get? a=some (v7 (.ref f) (.ref y)):=x;show h'.get? a=some (v7 (.ref f) (.ref y));exact k a _ (.inl rfl) e
|ext s=>obtain⟨p,⟨o,e⟩,st⟩:=x;exact⟨st _ _ p λo q=>k _ _ (.inl rfl) q,⟨o,k _ _ (.inl rfl) e⟩,st⟩)
theorem aQ.lt (x:aQ P w H h) (e:H a=some o):a<h.objs.size:=(x a o e).lt
theorem aQ.fresh (x:aQ P w H h) (e:h.objs.size<=a):H a=none:=by(
cases q:H a with
|none=>rfl
|some u=>exact absurd (cT (x.lt q) e) (gM _))
theorem aQ.kept (x:aQ P w H h) (k:∀b u,h.get? b=some u->h'.get? b=some u):aQ P w H h':=λa o e=>
 (x a o e).gD (λb u _ q=>k b u q) (λ_ q=>q) λ_ _ q=>q
theorem aQ.laid (x:aQ P w H h) (k:∀b u,h.get? b=some u->h'.get? b=some u) (f:h.objs.size<=a) (new:bq P w (T0 H a o) h' a o):aQ P w (T0 H a o) h':=λb u e=>by
 have hn:=x.fresh f;by_cases d:b=a
 ·subst d;rw[KE]at e;cases e;exact new
 ·rw[Uf d]at e;exact(x b u e).gD (λc v _ q=>k c v q) (λc q=>by rw[Uf (v0 q hn)];exact q) λc xs q=>by rw[Uf (v0 q hn)];exact q
end
def Rd (H:Hp) (a:B) (u:HO):Prop:=H a=some u\/∃o,H a=some (.av o u)
theorem Rd.ok {P:pu}{w:rs}{H:Hp}{h:wn}{a:B}{u:HO}(r:Rd H a u) (x:aQ P w H h):bq P w H h a u:=by(
rcases r with r|⟨o,r⟩
·exact x a u r
·obtain⟨_,q⟩:=x a _ r;exact q)
def hZ:Option HO->Prop
 |some (.lst _)=>True
 |some (.dK _)=>True
 |some (.dT _)=>True
 |some (.set _ _)=>True
 |some (.ins _ _ _)=>True
 |some (.ext _)=>True
 |_=>False
section
variable {P:pu}{w:rs}{H:Hp}{h h':wn}{x e:B}{o':HO}
theorem aQ.write (ok:aQ P w H h) (g:hZ (H x)) (i:e=x\/H e=some (.own x)) (k:∀b u,b≠e->h.get? b=some u->h'.get? b=some u) (m:∃u,h'.get? e=some u)
  (new:bq P w (T0 H x o') h' x o'):aQ P w (T0 H x o') h':=λb u q=>by
 have j:∀c y,H c=some (.own y)->c≠x:=λc y r z=>by subst z;rw[r]at g;exact g
 have n:∀c xs,H c=some (.tup xs)->c≠x:=λc xs r z=>by subst z;rw[r]at g;exact g
 by_cases a:b=x
 ·subst a;rw[KE]at q;cases q;exact new
 ·rw[Uf a]at q;by_cases d:b=e
  ·have l:H b=some (.own x):=by
    rcases i with z|z
    ·exact absurd (d.trans z) a
    ·rw[d];exact z
   rw[q]at l;cases l;obtain⟨v,hv⟩:=m;exact⟨v,by rw[d];exact hv⟩
  ·refine(ok b u q).gD (λc v f r=>k c v ?_ r) (λc r=>by rw[Uf (j c b r)];exact r) λc xs r=>by rw[Uf (n c xs r)];exact r
   rcases f with rfl|f
   ·exact d
   ·rintro rfl;rcases i with z|z
    ·exact j c b f z
    ·rw[f]at z;cases z;exact a rfl
end
structure Un (fs ex:List B) (H V:Hp) (h h':wn):Prop where
 keep:∀b o,h.get? b=some o->H b=none->b∉fs->b∉ex->h'.get? b=some o
 slot:∀b o,h.get? b=some o->H b=none->b∈fs->b∉ex->∃a,h'.get? b=some {o with slots:=a}
 free:∀b o,h.get? b=some o->H b=none->b∉ex->V b=none
 there:∀b o,h.get? b=some o->b∉ex->∃o',h'.get? b=some o'
 eX:∀b xs,H b=some (.tup xs)->V b=some (.tup xs)
 fT:∀b o u,H b=some (.av o u)->V b=some (.av o u)
 hA:∀b ps,H b=some (.jF ps)->∃more,V b=some (.jF (ps++more))
section
variable {fs kn ex Ni:List B}{H H1 H2:Hp}{h h1 h2 h':wn}{a x e:B}{o:HO}
theorem Un.any (u:Un fs ex H H1 h h1) {b:B}{ob:Obj}(q:h.get? b=some ob) (n:H b=none) (d:b∉ex):∃f,h1.get? b=some {ob with slots:=f}:=by(
by_cases c:b∈fs
·exact u.slot b ob q n c d
·exact⟨ob.slots,u.keep b ob q n c d⟩)
theorem Un.kept (k:∀b u,h.get? b=some u->h'.get? b=some u):Un fs ex H H h h':=
 ⟨λb ob q _ _ _=>k b ob q,λb ob q _ _ _=>⟨ob.slots,k b ob q⟩,λ_ _ _ n _=>n,λb ob q _=>⟨ob,k b ob q⟩,λ_ _ q=>q,λ_ _ _ q=>q,λ_ ps q=>⟨#[],by rw[q];simp⟩⟩
theorem Un.refl:Un fs ex H H h h:=Un.kept λ_ _ q=>q
theorem Un.laid (k:∀b u,h.get? b=some u->h'.get? b=some u) (c:h.objs.size<=a) (hn:H a=none):Un fs ex H (T0 H a o) h h' where
 keep:=λb u q _ _ _=>k b u q
 slot:=λb u q _ _ _=>⟨u.slots,k b u q⟩
 free:=λb u q n _=>by rw[Uf (b1 (cT (f0 q) c))];exact n
 there:=λb u q _=>⟨u,k b u q⟩
 eX:=λb xs q=>by rw[Uf (v0 q hn)];exact q
 fT:=λb u xs q=>by rw[Uf (v0 q hn)];exact q
 hA:=λb ps q=>⟨#[],by rw[Uf (v0 q hn),q];simp⟩
theorem Un.write (c:hZ (H x)) (i:e=x\/H e=some (.own x)) (k:∀b u,b≠e->h.get? b=some u->h'.get? b=some u) (j:∃u,h'.get? e=some u):Un fs ex H (T0 H x o) h h':=by(
have g:∀b,H b=none->b≠x:=λb n z=>by subst z;rw[n]at c;exact c
have d:∀b,H b=none->b≠e:=λb n z=>by
 subst z;rcases i with r|r
 ·exact g b n r
 ·rw[n]at r;cases r
have hm:∀b u,H b=some u->¬hZ (some u)->b≠x:=λb u q l z=>by subst z;rw[q]at c;exact l c
refine⟨λb u q n _ _=>k b u (d b n) q,λb u q n _ _=>⟨u.slots,k b u (d b n) q⟩,λb u q n _=>by rw[Uf (g b n)];exact n,λb u q _=>?_,
 λb xs q=>by rw[Uf (hm b _ q λz=>z)];exact q,λb u xs q=>by rw[Uf (hm b _ q λz=>z)];exact q,λb ps q=>⟨#[],by rw[Uf (hm b _ q λz=>z),q];simp⟩⟩
by_cases f:b=e
·subst f;exact j
·exact⟨u,k b u f q⟩)
end
def pU (h:wn) (H:Hp):List B:=(s5 h.objs.size).filter λa=>(H a).isSome
def fU (h:wn) (H:Hp):wn:=Mz h (pU h H)
theorem FY (h:wn) (H:Hp):(fU h H).objs.size=h.objs.size:=Mc _ _
theorem FX {h:wn}{H:Hp}{b:B}{o:Obj}(e:h.get? b=some o) (n:H b=none):(fU h H).get? b=some o:=
 Mf _ e λhm=>by
  have q:(H b).isSome=true:=(fJ.mp hm).2;rw[n]at q;simp at q
theorem HY {h:wn}{H:Hp}{b:B}{o:Obj}(e:(fU h H).get? b=some o):h.get? b=some o/\H b=none:=by(
have a:h.get? b=some o:=Mi (pU h H) e;refine⟨a,?_⟩;cases q:H b with
|none=>rfl
|some x=>
 have hm:b∈pU h H:=fJ.mpr ⟨bJ.mpr (f0 a),by simp[q]⟩;have z:(fU h H).get? b=none:=Md (pU h H) hm;rw[z]at e;cases e)
def D1 (g h:wn) (L:B):List (B×Obj):=(s5 h.objs.size).filterMap λa=>if a=L\/(g.get? a).isSome=true then none else(h.get? a).map λo=>(a,o)
def dS (g h:wn) (L d:B):List (B×Obj):=(D1 g h L).filter λp=>decide (p.1≠d)
structure Mod (K:xz) (mg:Str->Option Wp) (base:wn):Prop where
 l6:K.In base
 glob:base.Ns cI mg
 blt:∃a,base.Ns vG a/\∀x:Str,x≠ "__name__"->a x=k4 x
 nolimit:base.NoLimit
structure Cx where
 prog:pu
 w:rs
 K:xz
 mg:Str->Option Wp
 base:wn
 A:cs
 N:List Str
 da:Rs
 i3:Hp
 env:Env
 outer:List Env
 stack:List Env
 ex:List B
 fn:Str->Bool
 calm:Bool
 pn:List (B×Obj)
 xe:Wp->Rs->Prop
def fS (l:List Env):List B:=l.filterMap (·.frame)
abbrev Cx.fs (X:Cx):List B:=fS X.outer
def j9 (a:b7) (x:Str):Prop:=a.names.lookup x=some .local\/a.names.lookup x=some .cell\/a.names.lookup x=some .free
def Loc (a:b7) (x:Str):Prop:=a.names.lookup x=some .local\/a.names.lookup x=some .cell
def Look (env:Env) (h:wn) (m:Str->Option Wp) (x:Str) (u:Wp):Prop:=
 (env.kindOf x=some .local/\m x=some u)\/((env.kindOf x=some .cell\/env.kindOf x=some .free)/\∃c,env.cells.lookup x=some c/\h.IsCell c (some u))
structure Cx.Ok (X:Cx):Prop where
 mod:Mod X.K X.mg X.base
 kind:X.env.scope.kind=.function
 glob:X.env.globals=cI
 blt:X.env.builtins=vG
 above:X.da.heap.objs.size<=X.env.locals
 inj:∀x y c,X.env.cells.lookup x=some c->X.env.cells.lookup y=some c->x=y
 has:∀x,(X.env.kindOf x=some .cell\/X.env.kindOf x=some .free)->∃c,X.env.cells.lookup x=some c
 lQ:∀x c,X.fn x=true->X.env.cells.lookup x=some c->X.da.heap.objs.size<=c
 hd:X.calm=true->X.A.handled=none
 frames:X.A.frames=some X.stack
 pI:X.stack=X.outer\/(X.stack=X.env::X.outer/\X.env.frame=some X.env.locals)
 oe:∀b∈X.ex,b≠X.env.locals/\∀x c,X.env.cells.lookup x=some c->c≠b
 bs:∀b o,X.base.get? b=some o->X.da.heap.get? b=some o/\X.i3 b=none
 g8:X.base.objs.size<=X.da.heap.objs.size
 mh:∀b o,X.base.get? b=some o->b∉X.ex
 lX:∀b∈X.ex,b∉X.fs
 fc:X.da.heap.FunFrames X.base X.outer
 jj:∀b∈X.fs,X.i3 b=none
structure Inv (X:Cx) (WP:List (B×Obj)) (ZB:List (Option XV)) (H:Hp) (s:Rs):Prop where
 ok:X.Ok
 os:s.os=X.da.os
 bare:iS s.gens
 base:Un X.fs X.ex X.i3 H X.da.heap s.heap
 loc:∃m,s.heap.Ns X.env.locals m/\∀(i:Nat) (x:Str) (v:XV),X.N[i]?=some x->ZB[i]?=some (some v)->j9 X.env.scope x->∃u,RelV v u/\Look X.env s.heap m x u
 cell:∀x c,X.env.cells.lookup x=some c->∃v,s.heap.IsCell c v
 free:H X.env.locals=none
 eP:∀x c,X.env.cells.lookup x=some c->H c=none
 pin:∀p∈X.pn++WP,s.heap.get? p.1=some p.2/\H p.1=none/\p.1≠X.env.locals/\p.1∉X.fs/\∀v,p.2.data≠.cell v
 ag:aQ X.prog X.w H s.heap
 len:ZB.length=X.N.length
section
variable {X:Cx}{WP:List (B×Obj)}{ZB:List (Option XV)}{H V:Hp}{s:Rs}{h':wn}
theorem Cx.Ok.HU (ok:X.Ok) {b:B}{o:Obj}(e:X.base.get? b=some o):b∉X.fs:=λa=>by
 have:=(ok.fc.mem a).1;rw[e]at this;cases this
theorem Inv.bs (W1:Inv X WP ZB H s):∀b o,X.base.get? b=some o->s.heap.get? b=some o/\H b=none:=λb o e=>
 ⟨W1.base.keep b o (W1.ok.bs b o e).1 (W1.ok.bs b o e).2 (W1.ok.HU e) (W1.ok.mh b o e),W1.base.free b o (W1.ok.bs b o e).1 (W1.ok.bs b o e).2 (W1.ok.mh b o e)⟩
theorem Inv.bk (W1:Inv X WP ZB H s):∀b o,X.base.get? b=some o->s.heap.get? b=some o:=λb o e=>(W1.bs b o e).1
theorem Inv.mod (W1:Inv X WP ZB H s):Mod X.K X.mg X.base:=W1.ok.mod
theorem Inv.dM (W1:Inv X WP ZB H s):X.K.In s.heap:=W1.ok.mod.l6.keeps W1.bk
theorem Inv.lt (W1:Inv X WP ZB H s):X.env.locals<s.heap.objs.size:=let ⟨_,hn,_⟩:=W1.loc;hn.lt
theorem Inv.sz (W1:Inv X WP ZB H s):X.da.heap.objs.size<=s.heap.objs.size:=dg W1.ok.above (d1 W1.lt)
theorem Inv.HW (W1:Inv X WP ZB H s) {a:B}(h:s.heap.objs.size<=a):a∉X.fs:=λb=>by
 obtain⟨_,o,c,_⟩:=W1.ok.fc.mem b;exact absurd (cT (f0 c) (dg W1.sz h)) (gM _)
theorem Inv.jf (W1:Inv X WP ZB H s):∀x c,X.env.cells.lookup x=some c->c≠X.env.locals:=λx c e z=>by
 obtain⟨v,o,a,hd⟩:=W1.cell x c e;obtain⟨m,⟨o',es,ep,d,b,_⟩,_⟩:=W1.loc;rw[z,d]at a;cases a;rw[b]at hd;cases hd
theorem Inv.fc (W1:Inv X WP ZB H s):s.heap.FunFrames X.base X.outer:=by(
have all:∀(l:List Env),(∀b∈fS l,b∈X.fs)->X.da.heap.FunFrames X.base l->s.heap.FunFrames X.base l:=by
 intro l
 induction l with
 |nil=>intro _ _;trivial
 |cons env r i=>
  intro d g;obtain⟨f,⟨L,o,hf,hn,h,hd⟩,hr⟩:=g;have a:L∈X.fs:=d L (by unfold fS;rw[gP,hf];exact lc);obtain⟨j,e⟩:=W1.base.slot L o h (W1.ok.jj L a) a λz=>W1.ok.lX L z a;exact⟨f,⟨L,_,hf,hn,e,hd⟩,i (λb c=>d b (by unfold fS;rw[gP,hf];exact on _ c)) hr⟩
exact all X.outer (λ_ c=>c) W1.ok.fc)
theorem Inv.stack (W1:Inv X WP ZB H s):s.heap.FunFrames X.base X.stack:=by(
rcases W1.ok.pI with e|⟨e,hf⟩
·rw[e];exact W1.fc
·rw[e];obtain⟨m,hn,_⟩:=W1.loc;refine .cons (by rw[W1.ok.kind];decide) hf hn ?_ W1.fc;exact Heap.get?_none_of_le (dg W1.ok.g8 W1.ok.above))
theorem Inv.uS (W1:Inv X WP ZB H s):∀b∈fS X.stack,b∈X.env.locals::X.fs:=λb a=>by
 rcases W1.ok.pI with e|⟨e,hf⟩
 ·rw[e]at a;exact on _ a
 ·rw[e]at a;unfold fS at a;rw[gP,hf]at a;exact a
theorem Inv.Am (W1:Inv X WP ZB H s):∀b∈fS X.stack,H b=none:=λb a=>by
 rcases s1.mp (W1.uS b a)with e|a
 ·rw[e];exact W1.free
 ·obtain⟨_,o,c,_⟩:=W1.ok.fc.mem a;exact W1.base.free b o c (W1.ok.jj b a) λz=>W1.ok.lX b z a
theorem Inv.step {g':Array GenState}{t':Nat}{d':Drawn}{ch:List B}(W1:Inv X WP ZB H s)
  (t:∀b∈ch,(b∈X.ex\/X.da.heap.objs.size<=b)/\b≠X.env.locals/\(∀x c,X.env.cells.lookup x=some c->c≠b)/\∀p∈X.pn++WP,p.1≠b)
  (keep:∀b o,b≠X.env.locals->b∉X.fs->b∉ch->s.heap.get? b=some o->H b=none->h'.get? b=some o)
  (slot:∀b o,b≠X.env.locals->b∈X.fs->b∉ch->s.heap.get? b=some o->H b=none->∃C,h'.get? b=some {o with slots:=C}) (free:∀b o,b∉ch->s.heap.get? b=some o->H b=none->V b=none)
  (there:∀b o,b∉ch->s.heap.get? b=some o->∃o',h'.get? b=some o')
  (eX:∀b xs,H b=some (.tup xs)->V b=some (.tup xs)) (fT:∀b o u,H b=some (.av o u)->V b=some (.av o u)) (hA:∀b ps,H b=some (.jF ps)->∃more,V b=some (.jF (ps++more)))
  (ns:∀m,s.heap.Ns X.env.locals m->h'.Ns X.env.locals m) (ag:aQ X.prog X.w V h') (hg:iS g'):
  Inv X WP ZB V {s with heap:=h',gens:=g',drawn:=d',toks:=t'}:=by(
have L:∀b o,X.da.heap.get? b=some o->b≠X.env.locals:=λb o e=>b1 (cT (f0 e) W1.ok.above);have A:∀b o,X.da.heap.get? b=some o->b∉X.ex->b∉ch:=λb o e a g=>by
 rcases(t b g).1 with z|z
 ·exact a z
 ·exact absurd (cT (f0 e) z) (gM _)
have D:∀x c,X.env.cells.lookup x=some c->∀v,s.heap.IsCell c v->h'.IsCell c v:=λx c e v ⟨o,h,hd⟩=>by
 have y:c∉ch:=λz=>(t c z).2.2.1 x c e rfl;by_cases E:c∈X.fs
 ·obtain⟨C,q⟩:=slot c o (W1.jf x c e) E y h (W1.eP x c e);exact⟨_,q,hd⟩
 ·exact⟨o,keep c o (W1.jf x c e) E y h (W1.eP x c e),hd⟩
refine⟨W1.ok,W1.os,hg,⟨λb o e n g a=>?_,λb o e n g a=>?_,λb o e n a=>?_,λb o e a=>?_,λb xs e=>eX b xs (W1.base.eX b xs e),λb o xs e=>fT b o xs (W1.base.fT b o xs e),λb ps e=>?_⟩,?_,λx c e=>?_,?_,λx c e=>?_,λp J=>?_,ag,W1.len⟩
·exact keep b o (L b o e) g (A b o e a) (W1.base.keep b o e n g a) (W1.base.free b o e n a)
·obtain⟨C,f⟩:=W1.base.slot b o e n g a;obtain⟨T,j⟩:=slot b _ (L b o e) g (A b o e a) f (W1.base.free b o e n a);exact⟨T,j⟩
·obtain⟨o',f⟩:=W1.base.there b o e a;exact free b o' (A b o e a) f (W1.base.free b o e n a)
·obtain⟨o',f⟩:=W1.base.there b o e a;exact there b o' (A b o e a) f
·obtain⟨m1,f⟩:=W1.base.hA b ps e;obtain⟨m2,j⟩:=hA b _ f;exact⟨m1++m2,by rw[j,Array.append_assoc]⟩
·obtain⟨m,hn,Q⟩:=W1.loc;refine⟨m,ns m hn,λi x v f j N=>?_⟩;obtain⟨u,r,l⟩:=Q i x v f j N;refine⟨u,r,?_⟩;rcases l with l|⟨k,c,e,z⟩
 ·exact .inl l
 ·exact .inr ⟨k,c,e,D x c e _ z⟩
·obtain⟨v,z⟩:=W1.cell x c e;exact⟨v,D x c e v z⟩
·obtain⟨m,⟨o,_,_,h,_⟩,_⟩:=W1.loc;exact free _ o (λz=>(t _ z).2.1 rfl) h W1.free
·obtain⟨v,o,h,hd⟩:=W1.cell x c e;exact free c o (λz=>(t c z).2.2.1 x c e rfl) h (W1.eP x c e)
·obtain⟨e,n,ne,nf,d⟩:=W1.pin p J;have y:p.1∉ch:=λz=>(t p.1 z).2.2.2 p J rfl;exact⟨keep p.1 p.2 ne nf y e n,free p.1 p.2 y e n,ne,nf,d⟩)
theorem Inv.un {t':Nat}(W1:Inv X WP ZB H s) (u:Un X.fs [] H V s.heap h') (ag:aQ X.prog X.w V h'):Inv X WP ZB V {s with heap:=h',toks:=t'}:=by(
obtain⟨m,⟨o,es,ep,c,r⟩,_⟩:=id W1.loc;obtain⟨k,h⟩:=u.any c W1.free (by simp);exact W1.step (g':=s.gens) (d':=s.drawn) (ch:=[]) (λ_ z=>nomatch z) (λb o _ a _ e n=>u.keep b o e n a (by simp)) (λb o _ a _ e n=>u.slot b o e n a (by simp)) (λb o _ e n=>u.free b o e n (by simp)) (λb o _ e=>u.there b o e (by simp)) u.eX u.fT u.hA (λj hm=>by
 obtain⟨o',g,f,d,i⟩:=hm;rw[c]at d;cases d;exact⟨_,g,f,h,i⟩) ag W1.bare)
theorem Inv.call {g':Array GenState}{t':Nat}{d':Drawn}{ch:List B}(W1:Inv X WP ZB H s) (u:Un (fS X.stack) ch H V s.heap h') (ag:aQ X.prog X.w V h') (hg:iS g')
  (f:∀b∈ch,(b∈X.ex\/X.da.heap.objs.size<=b)/\b≠X.env.locals/\(∀x c,X.env.cells.lookup x=some c->c≠b)/\∀p∈X.pn++WP,p.1≠b):
  Inv X WP ZB V {s with heap:=h',gens:=g',drawn:=d',toks:=t'}:=by(
obtain⟨m,⟨o,es,ep,g,r⟩,_⟩:=id W1.loc;obtain⟨t,d⟩:=u.any g W1.free λz=>(f _ z).2.1 rfl;exact W1.step (ch:=ch) f (λb o d k a e n=>u.keep b o e n (λz=>(s1.mp (W1.uS b z)).elim d k) a) (λb o _ _ a e n=>u.any e n a) (λb o a e n=>u.free b o e n a) (λb o a e=>u.there b o e a) u.eX u.fT u.hA (λq hm=>by
 obtain⟨o',j,i,h,l⟩:=hm;rw[g]at h;cases h;exact⟨_,j,i,d,l⟩) ag hg)
theorem Inv.turned {t':Nat}{a:B}(W1:Inv X WP ZB H s) (k:∀b o,b≠a->s.heap.get? b=some o->h'.get? b=some o) (hn:H a=none) (f:a≠X.env.locals)
  (h1:a∈X.ex\/X.da.heap.objs.size<=a) (h2:∀x c,X.env.cells.lookup x=some c->c≠a) (h:∀p∈X.pn++WP,p.1≠a):Inv X WP ZB H {s with heap:=h',toks:=t'}:=by(
have g:∀b u,H b=some u->b≠a:=λb u e z=>by rw[z,hn]at e;cases e
refine W1.step (g':=s.gens) (d':=s.drawn) (ch:=[a]) (λb i=>?_) (λb o _ _ d e _=>k b o (λz=>d (by simp[z])) e) (λb o _ _ d e _=>⟨o.slots,k b o (λz=>d (by simp[z])) e⟩) (λ_ _ _ _ n=>n)
 (λb o d e=>⟨o,k b o (λz=>d (by simp[z])) e⟩) (λ_ _ e=>e) (λ_ _ _ e=>e) (λb ps e=>⟨#[],by rw[e];simp⟩) (λm hm=>?_) (λb u e=>?_) W1.bare
·have e:b=a:=by simpa using i
 subst e;exact⟨h1,f,h2,h⟩
·obtain⟨o,es,ep,j,r⟩:=hm;exact⟨o,es,ep,k _ o (Ne.symm f) j,r⟩
·refine(W1.ag b u e).gD (λc v d q=>k c v ?_ q) (λ_ q=>q) λ_ _ q=>q;rcases d with z|z
 ·rw[z];exact g b u e
 ·exact g c _ z)
theorem Inv.tok (W1:Inv X WP ZB H s) (t:Nat):Inv X WP ZB H {s with toks:=t}:=W1.un (h':=s.heap) (t':=t) Un.refl W1.ag
theorem Inv.kept {t':Nat}(W1:Inv X WP ZB H s) (k:∀b u,s.heap.get? b=some u->h'.get? b=some u):Inv X WP ZB H {s with heap:=h',toks:=t'}:=W1.un (Un.kept k) (W1.ag.kept k)
theorem Inv.laid {a:B}{o:HO}{t':Nat}(W1:Inv X WP ZB H s) (k:∀b u,s.heap.get? b=some u->h'.get? b=some u) (c:s.heap.objs.size<=a) (new:bq X.prog X.w (T0 H a o) h' a o):
  Inv X WP ZB (T0 H a o) {s with heap:=h',toks:=t'}:=W1.un (Un.laid k c (W1.ag.fresh c)) (W1.ag.laid k c new)
theorem Inv.write {x e:B}{o:HO}{t':Nat}(W1:Inv X WP ZB H s) (d:hZ (H x)) (a:e=x\/H e=some (.own x)) (k:∀b u,b≠e->s.heap.get? b=some u->h'.get? b=some u) (c:∃u,h'.get? e=some u)
  (new:bq X.prog X.w (T0 H x o) h' x o):Inv X WP ZB (T0 H x o) {s with heap:=h',toks:=t'}:=W1.un (Un.write d a k c) (W1.ag.write d a k c new)
theorem Inv.weak {a:List (Option XV)}(W1:Inv X WP ZB H s) (e:a.length=ZB.length) (w:∀(i:Nat) v,a[i]?=some (some v)->ZB[i]?=some (some v)):Inv X WP a H s:=
 ⟨W1.ok,W1.os,W1.bare,W1.base,let ⟨m,hn,f⟩:=W1.loc;⟨m,hn,λi x v b c d=>f i x v b (w i v c) d⟩,W1.cell,W1.free,W1.eP,W1.pin,W1.ag,e.trans W1.len⟩
theorem Inv.zA {a:List (B×Obj)}(W1:Inv X WP ZB H s) (h:∀p∈a,s.heap.get? p.1=some p.2/\H p.1=none/\p.1≠X.env.locals/\p.1∉X.fs/\∀v,p.2.data≠.cell v):Inv X a ZB H s:=
 ⟨W1.ok,W1.os,W1.bare,W1.base,W1.loc,W1.cell,W1.free,W1.eP,λp b=>(f1.mp b).elim (λz=>W1.pin p (f_ _ z)) (h p),W1.ag,W1.len⟩
theorem sl {N:List Str}(e:N.Nodup) {i j:Nat}{x:Str}(a:N[i]?=some x) (b:N[j]?=some x):i=j:=by
 obtain⟨h1,c⟩:=ay.mp a;obtain⟨h2,d⟩:=ay.mp b;exact(p5 e).mp (c.trans d.symm)
theorem Ao {TD:eE}{A:cs}{E:Wp->Rs->Prop}{i:Nat}{x:Str}{v:XV}{u:Wp}{Q:Unit->Rs->Prop}(W1:Inv X WP ZB H s) (Nq:X.N.Nodup) (hi:X.N[i]?=some x) (t:Loc X.env.scope x) (r:RelV v u)
  (h:∀s',Inv X WP (ZB.set i (some v)) H s'->(∃a,k_ a s.heap s'.heap/\(a=X.env.locals\/X.env.cells.lookup x=some a))->Q () s') (hf:X.fn x=true\/X.env.scope.names.lookup x=some .local:=by first|exact .inl rfl|exact .inr rfl|assumption):wpAny TD A (vK X.env x u) Q E s:=by(
obtain⟨m,hn,Nx⟩:=id W1.loc;have ND:(X.env.scope.kind== .class||(X.env.scope.kind== .module&&X.env.locals != X.env.globals))=false:=by rw[W1.ok.kind];rfl
have Nw:i<ZB.length:=by rw[W1.len];exact(ay.mp hi).1
have jf:=W1.jf;have NA:∀ {a:B}{h':wn},(∃o,s.heap.get? a=some o/\H a=none)->k_ a s.heap h'->aQ X.prog X.w H h':=λ{a h'} NC f b ob e=>by
 obtain⟨_,_,Nv⟩:=NC;refine(W1.ag b ob e).gD (λc U l q=>(f.2 c ?_).trans q) (λ_ q=>q) λ_ _ q=>q;rintro rfl;rcases l with rfl|l
 ·rw[Nv]at e;cases e
 ·rw[Nv]at l;cases l
rcases t with D|D
·refine wpAny_storeName_local D hn (λh' NF f=>?_) ND;obtain⟨NI,_,_,NG,_⟩:=id hn;refine h _ ⟨W1.ok,W1.os,W1.bare,⟨λb o e n J t=>?_,λb o e n J t=>?_,W1.base.free,λb o e t=>?_,W1.base.eX,W1.base.fT,W1.base.hA⟩,⟨_,NF,λj y Np g C Y=>?_⟩,λy c e=>?_,W1.free,W1.eP,λp Nk=>?_,NA ⟨NI,NG,W1.free⟩ f,by simpa using W1.len⟩ ⟨_,f,.inl rfl⟩
 ·exact(f.2 b (b1 (cT (f0 e) W1.ok.above))).trans (W1.base.keep b o e n J t)
 ·obtain⟨Nm,g⟩:=W1.base.slot b o e n J t;exact⟨Nm,(f.2 b (b1 (cT (f0 e) W1.ok.above))).trans g⟩
 ·obtain⟨o',g⟩:=W1.base.there b o e t;exact⟨o',(f.2 b (b1 (cT (f0 e) W1.ok.above))).trans g⟩
 ·by_cases L:j=i
  ·subst L;rw[hi]at g;cases g;rw[ve Nw]at C;cases C;exact⟨u,r,.inl ⟨D,by simp⟩⟩
  ·rw[q1 (Ne.symm L)]at C;obtain⟨Nn,Nl,q⟩:=Nx j y Np g C Y;refine⟨Nn,Nl,?_⟩;rcases q with⟨k,e⟩|⟨k,c,e,z⟩
   ·refine .inl ⟨k,?_⟩;have:y≠x:=λe=>L (sl Nq g (e▸hi));simp[this,e]
   ·exact .inr ⟨k,c,e,z.sameBut f (jf y c e)⟩
 ·obtain⟨U,z⟩:=W1.cell y c e;exact⟨U,z.sameBut f (jf y c e)⟩
 ·obtain⟨e,n,ne,nf,d⟩:=W1.pin p Nk;exact⟨(f.2 p.1 ne).trans e,n,ne,nf,d⟩
·have Nj:X.fn x=true:=by
  rcases hf with z|z
  ·exact z
  ·rw[z]at D;cases D
 obtain⟨c,l⟩:=W1.ok.has x (.inl D);obtain⟨U,z⟩:=W1.cell x c l;refine wpAny_storeName_cell W1.ok.kind D l z (λh' Nr f=>?_);obtain⟨Nz,Ny,NH⟩:=id z;refine h {s with heap:=h'} ⟨W1.ok,W1.os,W1.bare,⟨λb o e n J t=>?_,λb o e n J t=>?_,W1.base.free,λb o e t=>?_,W1.base.eX,W1.base.fT,W1.base.hA⟩,⟨m,hn.sameBut f (Ne.symm (jf x c l)),λj y Np g C Y=>?_⟩,λy T e=>?_,W1.free,W1.eP,λp Nk=>?_,NA ⟨Nz,Ny,W1.eP x c l⟩ f,by simpa using W1.len⟩ ⟨c,f,.inr l⟩
 ·exact(f.2 b (b1 (cT (f0 e) (W1.ok.lQ x c Nj l)))).trans (W1.base.keep b o e n J t)
 ·obtain⟨Nm,g⟩:=W1.base.slot b o e n J t;exact⟨Nm,(f.2 b (b1 (cT (f0 e) (W1.ok.lQ x c Nj l)))).trans g⟩
 ·obtain⟨o',g⟩:=W1.base.there b o e t;exact⟨o',(f.2 b (b1 (cT (f0 e) (W1.ok.lQ x c Nj l)))).trans g⟩
 ·by_cases L:j=i
  ·subst L;rw[hi]at g;cases g;rw[ve Nw]at C;cases C;exact⟨u,r,.inr ⟨.inl D,c,l,Nr⟩⟩
  ·rw[q1 (Ne.symm L)]at C;obtain⟨Nn,Nl,q⟩:=Nx j y Np g C Y;refine⟨Nn,Nl,?_⟩;rcases q with q|⟨k,T,e,NM⟩
   ·exact .inl q
   ·refine .inr ⟨k,T,e,NM.sameBut f ?_⟩;rintro rfl;exact L (sl Nq g (W1.ok.inj _ _ _ e l▸hi))
 ·by_cases Nu:T=c
  ·subst Nu;exact⟨_,Nr⟩
  ·obtain⟨NL,NN⟩:=W1.cell y T e;exact⟨NL,NN.sameBut f Nu⟩
 ·obtain⟨e,n,ne,nf,d⟩:=W1.pin p Nk;refine⟨(f.2 p.1 ?_).trans e,n,ne,nf,d⟩;intro q;rw[q,Ny]at e;have NK:Nz=p.2:=bT e;exact d U (by rw[<- NK];exact NH))
theorem uT {TD:eE}{A:cs}{E:Wp->Rs->Prop}{i:Nat}{x:Str}{v:XV}{u:Wp}{Q:Unit->Rs->Prop}(W1:Inv X WP ZB H s) (b:X.N.Nodup) (hi:X.N[i]?=some x) (c:Loc X.env.scope x) (r:RelV v u)
  (h:∀s',Inv X WP (ZB.set i (some v)) H s'->Q () s') (hf:X.fn x=true\/X.env.scope.names.lookup x=some .local:=by first|exact .inl rfl|exact .inr rfl|assumption):wpAny TD A (vK X.env x u) Q E s:=
 Ao W1 b hi c r (λs' a _=>h s' a) hf
theorem Inv.En {s':Rs}{ch:List B}(W1:Inv X WP ZB H s) (d:s'.os=s.os) (u:Un (fS X.stack) ch H V s.heap s'.heap) (ag:aQ X.prog X.w V s'.heap) (hg:iS s'.gens)
  (a:∀b∈ch,(b∈X.ex\/X.da.heap.objs.size<=b)/\b≠X.env.locals/\(∀x c,X.env.cells.lookup x=some c->c≠b)/\∀p∈X.pn++WP,p.1≠b):Inv X WP ZB V s':=by
 obtain⟨h',g',d',t',o'⟩:=s';have e:o'=s.os:=d;subst e;exact W1.call (g':=g') (t':=t') (d':=d') u ag hg a
end
abbrev XK:=Wp->Option B->Hp->Prop
abbrev St:=List (Option XV)
abbrev VK:=XV->Hp->Prop
abbrev TE:=St->Hp->VK->Prop
abbrev TT:=St->Hp->(Bool->Hp->Prop)->Prop
abbrev TA:=St->Hp->(List XV->Hp->Prop)->Prop
structure Ends where
 nx:St->Hp->Prop
 rt:VK
 bk:St->Hp->Prop:=λ_ _=>False
 ct:St->Hp->Prop:=λ_ _=>False
abbrev TS:=Ends->St->Hp->Prop
def EP (X:Cx) (WP:List (B×Obj)) (ZB:St) (Q:VK) (u:Wp) (s':Rs):Prop:=∃v V,Inv X WP ZB V s'/\RelV v u/\Q v V
def TP (X:Cx) (WP:List (B×Obj)) (ZB:St) (Q:Bool->Hp->Prop) (b:Bool) (s':Rs):Prop:=∃V,Inv X WP ZB V s'/\Q b V
def AP (X:Cx) (WP:List (B×Obj)) (ZB:St) (Q:List XV->Hp->Prop) (us:List Wp) (s':Rs):Prop:=∃vs V,Inv X WP ZB V s'/\wP vs us/\Q vs V
def SP (X:Cx) (WP:List (B×Obj)) (D:Ends) (f:Flow) (s':Rs):Prop:=
 match f with
 |.next=>∃a V,Inv X WP a V s'/\D.nx a V
 |.brk=>∃a V,Inv X WP a V s'/\D.bk a V
 |.cont=>∃a V,Inv X WP a V s'/\D.ct a V
 |.ret u=>∃v a V,Inv X WP a V s'/\RelV v u/\D.rt v V
def PE (X:Cx) (e:ws) (t:TE):Prop:=
 ∀(WP:List (B×Obj)) (s:Rs) (ZB:St) (H:Hp) (Q:VK),Inv X WP ZB H s->t ZB H Q->wpAny (Do X.prog X.w) X.A (eval e X.env) (EP X WP ZB Q) X.xe s
def PT (X:Cx) (e:ws) (t:TT):Prop:=
 ∀(WP:List (B×Obj)) (s:Rs) (ZB:St) (H:Hp) (Q:Bool->Hp->Prop),Inv X WP ZB H s->t ZB H Q->wpAny (Do X.prog X.w) X.A (isTrue e X.env (eval e X.env)) (TP X WP ZB Q) X.xe s
def PW (X:Cx) (e:ws) (t:TT):Prop:=
 ∀(whole:Sem Wp) (WP:List (B×Obj)) (s:Rs) (ZB:St) (H:Hp) (Q:Bool->Hp->Prop),Inv X WP ZB H s->t ZB H Q->wpAny (Do X.prog X.w) X.A (isTrue e X.env whole) (TP X WP ZB Q) X.xe s
theorem PW.pt {X:Cx}{e:ws}{t:TT}(h:PW X e t):PT X e t:=h _
def PA (X:Cx) (es:List ws) (t:TA):Prop:=
 ∀(pos:Pos) (WP:List (B×Obj)) (s:Rs) (ZB:St) (H:Hp) (Q:List XV->Hp->Prop),Inv X WP ZB H s->t ZB H Q->wpAny (Do X.prog X.w) X.A (spliced (dX pos (bi es X.env))) (AP X WP ZB Q) X.xe s
def PS (X:Cx) (st:v1) (t:TS):Prop:=
 ∀(WP:List (B×Obj)) (s:Rs) (ZB:St) (H:Hp) (D:Ends),Inv X WP ZB H s->t D ZB H->wpAny (Do X.prog X.w) X.A (exec st X.env) (SP X WP D) X.xe s
def eL (X:Cx) (st:List v1) (t:TS):Prop:=
 ∀(WP:List (B×Obj)) (s:Rs) (ZB:St) (H:Hp) (D:Ends),Inv X WP ZB H s->t D ZB H->wpAny (Do X.prog X.w) X.A (execs st X.env) (SP X WP D) X.xe s
theorem xL {c:Type}{t:Sem c}{Q b:c->Rs->Prop}{TD:eE}{A:cs}{E:Wp->Rs->Prop}{s:Rs}(h:wpAny TD A t Q E s) (d:∀a s,Q a s->b a s):wpAny TD A t b E s:=eB h d λ_ _ x=>x
section
variable {X:Cx}
def bQ (i:Nat):TE:=λZB H Q=>∃v,ZB[i]?=some (some v)/\Q v H
def tC (v:XV):TE:=λ_ H Q=>Q v H
theorem Jy {i:Nat}{x:Str}{pos:Pos}(f:X.N[i]?=some x) (hv:j9 X.env.scope x) (hd:(x==("__debug__":Str))=false:=by decide) (g:(x==("__classdict__":Str))=false:=by decide):PE X (.Name x pos) (bQ i):=by(
intro WP s ZB H Q W1 h;obtain⟨v,e,h⟩:=h;obtain⟨m,hn,j⟩:=W1.loc;obtain⟨u,r,l⟩:=j i x v f e hv;have fin:EP X WP ZB Q u s:=⟨v,H,W1,r,h⟩;rcases l with⟨a,hm⟩|⟨a,c,b,d⟩
·exact vH (BF W1.ok.kind a hn hm fin) hd
·rcases a with a|a
 ·exact vH (BG W1.ok.kind a b d fin) hd
 ·exact vH (wpAny_loadName_free W1.ok.kind a b d fin g) hd)
theorem Fa {i j pos}:PE X (.Constant (.int i) j pos) (tC (.int i)):=λ_ _ _ H _ W1 h=>wpAny_Constant_int ⟨.int i,H,W1.tok _,⟨_,O⟩,h⟩
theorem mn {b j pos}:PE X (.Constant (.bool b) j pos) (tC (.bl b)):=λ_ _ _ H _ W1 h=>Constant_bool ⟨.bl b,H,W1,O,h⟩
theorem sH {j pos}:PE X (.Constant .none j pos) (tC .ak):=λ_ _ _ H _ W1 h=>Constant_none ⟨.ak,H,W1,O,h⟩
theorem zw {x j pos}:PE X (.Constant (.str x) j pos) (tC (.str x)):=λ_ _ _ H _ W1 h=>Calls.Constant_str ⟨.str x,H,W1.tok _,⟨_,O⟩,h⟩
def Gl (X:Cx) (x:Str):Prop:=X.env.kindOf x=some .globalImplicit
theorem l8 {E:Wp->Rs->Prop}{WP:List (B×Obj)}{s:Rs}{ZB:St}{H:Hp}{x:Str}{u:Wp}{pos:Pos}{Q:Wp->Rs->Prop}(W1:Inv X WP ZB H s) (hg:Gl X x) (hm:X.mg x=some u) (h:Q u s)
  (hd:(x==("__debug__":Str))=false:=by decide):wpAny (Do X.prog X.w) X.A (eval (.Name x pos) X.env) Q E s:=
 Df W1.ok.kind hg (Calls.loadGlobal_global (by rw[W1.ok.glob];exact W1.mod.glob.keeps W1.bk) hm h) hd
theorem kv {E:Wp->Rs->Prop}{WP:List (B×Obj)}{s:Rs}{ZB:St}{H:Hp}{x:Str}{u:Wp}{pos:Pos}{Q:Wp->Rs->Prop}(W1:Inv X WP ZB H s) (hg:Gl X x) (hm:X.mg x=none) (hv:k4 x=some u) (h:Q u s)
  (hn:x≠ "__name__":=by decide) (hd:(x==("__debug__":Str))=false:=by decide):wpAny (Do X.prog X.w) X.A (eval (.Name x pos) X.env) Q E s:=by
 obtain⟨a,h1,h2⟩:=W1.mod.blt;exact Df W1.ok.kind hg (Calls.loadGlobal_builtin (by rw[W1.ok.glob];exact W1.mod.glob.keeps W1.bk) hm (by rw[W1.ok.blt];exact h1.keeps W1.bk) ((h2 x hn).trans hv) h) hd
theorem Ju {x:Str}{v:XV}{u:Wp}{pos:Pos}(hg:Gl X x) (hm:X.mg x=some u) (r:RelV v u) (hd:(x==("__debug__":Str))=false:=by decide):PE X (.Name x pos) (tC v):=
 λ_ _ _ H _ W1 h=>l8 W1 hg hm ⟨v,H,W1,r,h⟩ hd
variable {a b:ws}{ta tb:TE}{pos:Pos}
def PC (X:Cx) (op:iL) (a b:ws) (t:TE):Prop:=
 ∀(WP:List (B×Obj)) (s:Rs) (ZB:St) (H:Hp) (Q:VK),Inv X WP ZB H s->t ZB H Q->
  wpAny (Do X.prog X.w) X.A (eval a X.env) (λv c=>wpAny (Do X.prog X.w) X.A (eval b X.env) (λu d=>wpAny (Do X.prog X.w) X.A (dD op v u) (EP X WP ZB Q) X.xe d) X.xe c) X.xe s
theorem HQ (b:ws) {op:iL}(h:op≠.In) (h2:op≠.NotIn):jN op b=false:=by(
have c:(op==CmpOp.In)=false:=by cases op<;>first|rfl|exact absurd rfl h
have d:(op==CmpOp.NotIn)=false:=by cases op<;>first|rfl|exact absurd rfl h2
cases b<;>simp[jN,c,d])
def tB (t:TE):TT:=λZB H Q=>t ZB H λx H1=>∃c,x=.bl c/\Q c H1
theorem zC {op:iL}{t:TE}(h:PC X op a b t) (h1:jN op b=false:=by first|exact HQ _ (by decide) (by decide)|rfl):PT X (.Compare a [op] [b] pos) (tB t):=by
 intro WP s ZB H Q W1 hw;refine BC (xL (h WP s ZB H _ W1 hw) λv i h1=>xL h1 λu j h2=>xL h2 λc k ⟨x,H1,e,g,f⟩=>?_) h1;obtain⟨d,rfl,q⟩:=f;cases g;exact iF ⟨H1,e,q⟩
theorem cg {e:ws}{t:TE}(h:PE X e t) (f:∀whole,isTrue e X.env whole=(do let v <-whole;qu e.pos;jP [v] (truthy v)):=by intro _;rfl):PT X e (tB t):=by
 intro WP s ZB H Q W1 hw;refine isTrue_plain (xL (h WP s ZB H _ W1 hw) λv j ⟨x,H1,c,i,g⟩=>?_) (f _);obtain⟨d,rfl,q⟩:=g;cases i;exact iF ⟨H1,c,q⟩
variable {tA pL:TT}{dS:List ws}
def Lf (t u:TT):TT:=λZB H Q=>t ZB H λc H1=>if c=true then u ZB H1 Q else Q false H1
def Ax (t u:TT):TT:=λZB H Q=>t ZB H λc H1=>if c=true then Q true H1 else u ZB H1 Q
def Aw (t:TT):TT:=λZB H Q=>t ZB H λc H1=>Q (!c) H1
theorem my (d:PT X a tA):PW X (.BoolOp .And [a] pos) tA:=by(
intro g WP s ZB H Q W1 h;refine C2 (xL (d WP s ZB H Q W1 h) λc f e=>?_);cases c with
|true=>exact isTrue_and_nil e
|false=>exact e)
theorem gA (d:PT X a tA):PW X (.BoolOp .Or [a] pos) tA:=by(
intro g WP s ZB H Q W1 h;refine isTrue_or (xL (d WP s ZB H Q W1 h) λc f e=>?_);cases c with
|false=>exact isTrue_or_nil e
|true=>exact e)
theorem mx (f:PT X a tA) (g:PW X (.BoolOp .And (b::dS) pos) pL):PW X (.BoolOp .And (a::b::dS) pos) (Lf tA pL):=by(
intro j WP s ZB H Q W1 h;refine C2 (xL (f WP s ZB H _ W1 h) λc i ⟨H1,d,e⟩=>?_);cases c with
|true=>exact g j WP i ZB H1 Q d e
|false=>exact⟨H1,d,e⟩)
theorem eb (f:PT X a tA) (g:PW X (.BoolOp .Or (b::dS) pos) pL):PW X (.BoolOp .Or (a::b::dS) pos) (Ax tA pL):=by(
intro j WP s ZB H Q W1 h;refine isTrue_or (xL (f WP s ZB H _ W1 h) λc i ⟨H1,d,e⟩=>?_);cases c with
|true=>exact⟨H1,d,e⟩
|false=>exact g j WP i ZB H1 Q d e)
theorem bI (d:PT X a tA):PT X (.UnaryOp .Not a pos) (Aw tA):=by
 intro WP s ZB H Q W1 h;exact isTrue_not (d WP s ZB H (λc H1=>Q (!c) H1) W1 h)
def Lg (ta tb:TE):TE:=λZB H Q=>ta ZB H λx H1=>∃c,x=.bl c/\if c=true then tb ZB H1 Q else Q (.bl false) H1
theorem Jx {op} {t:TE}(h:PE X a t):PE X (.BoolOp op [a] pos) t:=λWP s ZB H Q W1 hw=>BoolOp_one (h WP s ZB H Q W1 hw)
theorem sE (f:PE X a ta) (g:PE X (.BoolOp .And (b::dS) pos) tb):PE X (.BoolOp .And (a::b::dS) pos) (Lg ta tb):=by(
intro WP s ZB H Q W1 h;refine BoolOp_and (xL (f WP s ZB H _ W1 h) λv j ⟨x,H1,e,i,d⟩=>?_);obtain⟨c,rfl,d⟩:=d;cases i;refine iF ?_;cases c with
|true=>exact g WP j ZB H1 Q e d
|false=>exact⟨.bl false,H1,e,O,d⟩)
def Ls (t:TT) (ta tb:TE):TE:=λZB H Q=>t ZB H λc H1=>if c=true then ta ZB H1 Q else tb ZB H1 Q
theorem Jv {c:ws}(k:PT X c tA) (i:PE X a ta) (j:PE X b tb):PE X (.IfExp c a b pos) (Ls tA ta tb):=by(
intro WP s ZB H Q W1 h;refine wpAny_IfExp (xL (k WP s ZB H _ W1 h) λd g ⟨H1,e,f⟩=>?_);cases d with
|true=>exact i WP g ZB H1 Q e f
|false=>exact j WP g ZB H1 Q e f)
end
def TW (K:xz) (H:Hp) (a:B) (xs:List XV):Prop:=
 Rd H a (.lst xs)\/
  ∃(o:Obj) (Op:Array Wp) (n:Nat),K.lookup a=some o/\o.cls=.type "list" /\o.dict=none/\o.data=.seq Op n/\Op.size<=Is/\wP xs Op.toList
def pm (K:xz) (H:Hp) (a:B) (xs:List XV):Prop:=
 Rd H a (.tup xs)\/
  ∃(o:Obj) (Op:Array Wp) (n:Nat),K.lookup a=some o/\o.cls=.type "tuple" /\o.data=.seq Op n/\Op.size<=Is/\wP xs Op.toList
def DZ:Wp->Option XV
 |.none=>some .ak
 |.bool b=>some (.bl b)
 |.int i _=>some (.int i)
 |.str x _=>some (.str x)
 |.bytes b _=>some (.e_ b)
 |.float b _=>some (.oq b)
 |.ref a=>some (.ref a)
 |.type n=>some (.ty n)
 |_=>none
theorem RelV.abs {x:XV}{u:Wp}(r:RelV x u):DZ u=some x:=by(
cases x with
|ak=>cases r;rfl
|bl _=>cases r;rfl
|int _=>obtain⟨t,rfl⟩:=r;rfl
|str _=>obtain⟨t,rfl⟩:=r;rfl
|e_ _=>obtain⟨t,rfl⟩:=r;rfl
|oq _=>obtain⟨t,rfl⟩:=r;rfl
|ref _=>cases r;rfl
|ty _=>cases r;rfl)
theorem RelV.inj {x y:XV}{u:Wp}(r:RelV x u) (q:RelV y u):x=y:=bT (r.abs.symm.trans q.abs)
theorem wP.inj:∀ {xs ys:List XV}{us:List Wp},wP xs us->wP ys us->xs=ys
 |_,_,_,.nil,.nil=>rfl
 |_,_,_,.cons r t,.cons a t'=>by rw[r.inj a,wP.inj t t']
section
variable {X:Cx}{WP:List (B×Obj)}{ZB:St}{H:Hp}{s:Rs}{a:B}{xs ys:List XV}
theorem TW.of {K:xz}(h:H a=some (.lst xs)):TW K H a xs:=.inl (.inl h)
theorem pm.of {K:xz}(h:H a=some (.tup xs)):pm K H a xs:=.inl (.inl h)
theorem Inv.list (W1:Inv X WP ZB H s) (h:TW X.K H a xs):∃Op:List Wp,wP xs Op/\PlainL s.heap a Op.toArray/\xs.length<=Is:=by(
rcases h with h|⟨o,Op,n,c,b,hd,d,hz,r⟩
·obtain⟨z,Op,n,r,e⟩:=h.ok W1.ag;exact⟨Op,r,⟨_,n,e,O,O,O⟩,z⟩
·refine⟨Op.toList,r,⟨o,n,W1.dM a o c,b,hd,by simpa using d⟩,?_⟩;have e:=r.length;simp only[qV]at e;omega)
theorem Inv.tuple (W1:Inv X WP ZB H s) (h:pm X.K H a xs):∃Op:List Wp,wP xs Op/\iU s.heap a Op.toArray/\xs.length<=Is:=by(
rcases h with h|⟨o,Op,n,c,b,d,hz,r⟩
·obtain⟨z,Op,r,p⟩:=h.ok W1.ag;exact⟨Op,r,p,z⟩
·refine⟨Op.toList,r,⟨o,W1.dM a o c,b,n,by simpa using d⟩,?_⟩;have e:=r.length;simp only[qV]at e;omega)
theorem Inv.oD (W1:Inv X WP ZB H s) (h:TW X.K H a xs) (h':TW X.K H a ys):xs=ys:=by(
obtain⟨Op,r,⟨o,n,e,_,_,d⟩,_⟩:=W1.list h;obtain⟨its',f,⟨o',g,b,_,_,d'⟩,_⟩:=W1.list h';rw[e]at b;cases b;rw[d]at d';injection d' with c _;have:Op=its':=by simpa using cB C5 c
subst this;exact r.inj f)
theorem Inv.u4 (W1:Inv X WP ZB H s) (h:pm X.K H a xs) (h':pm X.K H a ys):xs=ys:=by(
obtain⟨Op,r,⟨o,e,_,n,d⟩,_⟩:=W1.tuple h;obtain⟨its',f,⟨o',b,_,g,d'⟩,_⟩:=W1.tuple h';rw[e]at b;cases b;rw[d]at d';injection d' with c _;have:Op=its':=by simpa using cB C5 c
subst this;exact r.inj f)
end
abbrev Cx.gH (X:Cx) (E:Wp->Rs->Prop):Cx:= {X with xe:=E}
abbrev Cx.oO (X:Cx):Cx:=X.gH λ_ _=>False
theorem Cx.Ok.gH {X:Cx}(ok:X.Ok) (E:Wp->Rs->Prop):(X.gH E).Ok:=
 ⟨ok.mod,ok.kind,ok.glob,ok.blt,ok.above,ok.inj,ok.has,ok.lQ,ok.hd,ok.frames,ok.pI,ok.oe,ok.bs,ok.g8,ok.mh,ok.lX,ok.fc,ok.jj⟩
theorem Cx.Ok.iE {X:Cx}{E:Wp->Rs->Prop}(ok:(X.gH E).Ok):X.Ok:=
 ⟨ok.mod,ok.kind,ok.glob,ok.blt,ok.above,ok.inj,ok.has,ok.lQ,ok.hd,ok.frames,ok.pI,ok.oe,ok.bs,ok.g8,ok.mh,ok.lX,ok.fc,ok.jj⟩
section
variable {X:Cx}{WP:List (B×Obj)}{ZB:St}{H:Hp}{s:Rs}{E:Wp->Rs->Prop}
theorem Inv.gH (W1:Inv X WP ZB H s) (E:Wp->Rs->Prop):Inv (X.gH E) WP ZB H s:=⟨W1.ok.gH E,W1.os,W1.bare,W1.base,W1.loc,W1.cell,W1.free,W1.eP,W1.pin,W1.ag,W1.len⟩
theorem Inv.iE (W1:Inv (X.gH E) WP ZB H s):Inv X WP ZB H s:=⟨W1.ok.iE,W1.os,W1.bare,W1.base,W1.loc,W1.cell,W1.free,W1.eP,W1.pin,W1.ag,W1.len⟩
theorem SP.iE {D:Ends}{f:Flow}{s':Rs}(h:SP (X.gH E) WP D f s'):SP X WP D f s':=by(
cases f with
|next=>obtain⟨a,V,W1,q⟩:=h;exact⟨a,V,W1.iE,q⟩
|brk=>obtain⟨a,V,W1,q⟩:=h;exact⟨a,V,W1.iE,q⟩
|cont=>obtain⟨a,V,W1,q⟩:=h;exact⟨a,V,W1.iE,q⟩
|ret u=>obtain⟨v,a,V,W1,r,q⟩:=h;exact⟨v,a,V,W1.iE,r,q⟩)
theorem eL.oO {st:List v1}{t:TS}(h:eL X.oO st t):eL X st t:=λWP s ZB H D W1 hw=>
 eB (h WP s ZB H D (W1.gH _) hw) (λ_ _ q=>q.iE) λ_ _ z=>d3 z
end
section
variable {X:Cx}{st:v1}{dS:List v1}{t u:TS}{e:ws}{te:TE}{pos:Pos}
def pP:TS:=λD ZB H=>D.nx ZB H
def kY (t u:TS):TS:=λD ZB H=>t {D with nx:=u D} ZB H
theorem io:eL X [] pP:=λ_ _ ZB H _ W1 h=>qf ⟨ZB,H,W1,h⟩
theorem On (h1:PS X st t) (h2:eL X dS u):eL X (st::dS) (kY t u):=by(
intro WP s ZB H D W1 h;refine BM (xL (h1 WP s ZB H {D with nx:=u D} W1 h) λf b q=>?_);cases f with
|next=>
 obtain⟨c,V,a,q⟩:=q;exact h2 WP b c V D a q
|ret v=>exact q
|brk=>exact q
|cont=>exact q)
theorem FM (h1:PS X st t):eL X [st] t:=by(
intro WP s ZB H D W1 h;refine BM (xL (h1 WP s ZB H D W1 h) λf a q=>?_);cases f with
|next=>exact qf q
|ret v=>exact q
|brk=>exact q
|cont=>exact q)
theorem Inv.quiet {WP:List (B×Obj)}{ZB:St}{H:Hp}{s:Rs}(W1:Inv X WP ZB H s):B6 X.env=false:=by simp[B6,W1.ok.kind]
def Au (te:TE):TS:=λD ZB H=>te ZB H λ_ H1=>D.nx ZB H1
theorem dL (b:PE X e te) (c:mU e none pos.line X.env=pure false:=by rfl):PS X (.Expr e pos) (Au te):=by
 intro WP s ZB H D W1 h;exact wpAny_Expr_any (xL (b WP s ZB H _ W1 h) λv g ⟨x,H1,a,f,d⟩=>⟨ZB,H1,a,d⟩) W1.quiet c
def Ay (te:TE):TS:=λD ZB H=>te ZB H D.rt
theorem tz (b:PE X e te):PS X (.Return (some e) pos) (Ay te):=by
 intro WP s ZB H D W1 h;exact wpAny_Return_some (xL (b WP s ZB H _ W1 h) λv f ⟨x,H1,a,d,c⟩=>⟨x,ZB,H1,a,d,c⟩)
def uU (c:TT) (t u:TS):TS:=λD ZB H=>c ZB H λb H1=>if b=true then t D ZB H1 else u D ZB H1
theorem kt {c:ws}{a b:List v1}{tc:TT}(l:PT X c tc) (j:eL X a t) (k:eL X b u):PS X (.If c a b pos) (uU tc t u):=by(
intro WP s ZB H D W1 h;refine wpAny_If (xL (l WP s ZB H _ W1 h) λd i ⟨H1,f,g⟩=>?_);cases d with
|true=>exact j WP i ZB H1 D f g
|false=>exact k WP i ZB H1 D f g)
end
abbrev TG:=XV->St->Hp->(St->Hp->Prop)->Prop
abbrev i9:=List XV->St->Hp->(St->Hp->Prop)->Prop
def PG (X:Cx) (b:ws) (t:TG):Prop:=
 ∀(WP:List (B×Obj)) (s:Rs) (ZB:St) (H:Hp) (v:XV) (u:Wp) (Q:St->Hp->Prop),Inv X WP ZB H s->RelV v u->t v ZB H Q->
  wpAny (Do X.prog X.w) X.A (jQ b X.env u) (λ_ s'=>∃a V,Inv X WP a V s'/\Q a V) X.xe s
def nN (X:Cx) (ts:List ws) (t:i9):Prop:=
 ∀(WP:List (B×Obj)) (s:Rs) (ZB:St) (H:Hp) (vs:List XV) (us:List Wp) (Q:St->Hp->Prop),Inv X WP ZB H s->wP vs us->t vs ZB H Q->
  wpAny (Do X.prog X.w) X.A (assignInOrder ((k5 ts X.env).map (·.2)) us) (λ_ s'=>∃a V,Inv X WP a V s'/\Q a V) X.xe s
abbrev rb:=XV->XV->XV->Hp->(Hp->Prop)->Prop
def xh (X:Cx) (t:rb):Prop:=
 ∀(WP:List (B×Obj)) (s:Rs) (ZB:St) (H:Hp) (o i v:XV) (ov a u:Wp) (Q:Hp->Prop),Inv X WP ZB H s->RelV o ov->RelV i a->RelV v u->t o i v H Q->
  wpAny (Do X.prog X.w) X.A (vR ov a u) (λ_ s'=>∃V,Inv X WP ZB V s'/\Q V) X.xe s
abbrev nQ:=XV->XV->Hp->VK->Prop
def q' (X:Cx) (op:mV) (t:nQ):Prop:=
 ∀(WP:List (B×Obj)) (s:Rs) (ZB:St) (H:Hp) (x y:XV) (v u:Wp) (Q:VK),Inv X WP ZB H s->RelV x v->RelV y u->t x y H Q->
  wpAny (Do X.prog X.w) X.A (vL op v u) (EP X WP ZB Q) X.xe s
section
variable {X:Cx}{pos:Pos}
def bG (i:Nat):TG:=λv ZB H Q=>Q (ZB.set i (some v)) H
theorem v4 {i:Nat}{x:Str}(b:X.N.Nodup) (hi:X.N[i]?=some x) (c:Loc X.env.scope x) (hf:X.fn x=true\/X.env.scope.names.lookup x=some .local:=by first|exact .inl rfl|exact .inr rfl|assumption):PG X (.Name x pos) (bG i):=by
 intro WP s ZB H v u Q W1 r h;exact BI (uT W1 b hi c r (λs' a=>⟨_,H,a,h⟩) hf)
def rT:i9:=λvs ZB H Q=>vs=[]/\Q ZB H
def ko (t:TG) (u:i9):i9:=λvs ZB H Q=>∃v r,vs=v::r/\t v ZB H λa V=>u r a V Q
theorem cc:nN X [] rT:=by
 intro WP s ZB H vs us Q W1 r h;obtain⟨e,h⟩:=h;subst e;cases r;exact assignInOrder_nil ⟨ZB,H,W1,h⟩
theorem re {e:ws}{es:List ws}{t:TG}{u:i9}(h1:PG X e t) (h2:nN X es u)
  (c:(k5 (e::es) X.env).map (·.2)=jQ e X.env::(k5 es X.env).map (·.2):=by rfl):nN X (e::es) (ko t u):=by(
intro WP s ZB H vs us Q W1 r h;obtain⟨v,j,b,h⟩:=h;subst b;cases r with
|cons r f=>
 rw[c];refine assignInOrder_cons (xL (h1 WP s ZB H _ _ _ W1 r h) λ_ g ⟨i,H1,a,d⟩=>?_);exact h2 WP g i H1 _ _ Q a f d)
def rW (K:xz) (n:Nat) (t:i9):TG:=λv ZB H Q=>∃a xs,v=.ref a/\pm K H a xs/\xs.length=n/\t xs ZB H Q
theorem cb {es:List ws}{k:Nat}{t:i9}{n:Nat}(g:X.calm=true) (h:nN X es t)
  (hn:(k5 es X.env).length=n:=by rfl) (l:(k5 es X.env).findIdx? (·.1)=none:=by rfl):PG X (.Tuple es k pos) (rW X.K n t):=by
 intro WP s ZB H v u Q W1 r hw;obtain⟨a,xs,f,j,i,hw⟩:=hw;subst f;cases r;obtain⟨Op,c,m,hz⟩:=W1.tuple j;refine assign_Tuple_tuple (W1.ok.hd g) m (by simp[hn,<-i,c.length]) l λh' p=>?_;have d:Inv X WP ZB H {s with heap:=h'}:=W1.kept (t':=s.toks) λb o e=>p b o (b1 (f0 e)) e;exact h WP _ ZB H xs _ Q d (by simpa using c) hw
def rV (to b:TE) (t:rb):TG:=λv ZB H Q=>to ZB H λo H1=>b ZB H1 λi H2=>t o i v H2 λa=>Q ZB a
theorem kJ {o i:ws}{to b:TE}{t:rb}(j:PE X o to) (hi:PE X i b) (k:xh X t)
  (g:∀v,jQ (.Subscript o i pos) X.env v=(do
   let ov <-jP [v] (eval o X.env)
   let a <-jP [v,ov] (eval i X.env)
   qu pos
   jP [v,ov,a] (vR ov a v)
   release [v,ov,a] []):=by intro _;rfl):PG X (.Subscript o i pos) (rV to b t):=by
 intro WP s ZB H v u Q W1 r h;rw[g];refine IR (iH (xL (j WP s ZB H _ W1 h) λov w ⟨x,H1,d,p,l⟩=>?_));refine IR (iH (xL (hi WP w ZB H1 _ d l) λa z ⟨y,H2,e,q,m⟩=>?_));refine IR (vC (IR (iH (xL (k WP z ZB H2 x y v ov a u _ e p q r m) λ_ A ⟨c,f,n⟩=>?_))));exact wpAny_release ⟨ZB,c,f,n⟩
def iA (te:TE) (g:TG):TS:=λD ZB H=>te ZB H λx H1=>g x ZB H1 D.nx
theorem du {tg e:ws}{te:TE}{g:TG}(b:PE X e te) (hg:PG X tg g) (c:swapsWithSole [tg] e pos.line X.env=pure false:=by rfl) (hw:swappedStores [tg] e X.env=pure none:=by rfl)
  (h1:(k5 [tg] X.env).map (·.2)=[jQ tg X.env]:=by rfl):PS X (.Assign [tg] e pos) (iA te g):=by
 intro WP s ZB H D W1 h;refine wpAny_Assign_stores (xL (b WP s ZB H _ W1 h) λv i ⟨x,H1,a,f,d⟩=>?_) c hw;rw[h1];exact xL (hg WP i ZB H1 x v _ a f d) λ_ j q=>q
theorem tt {i:Nat}{x:Str}{e:ws}{te:TE}{fk:Pos}(c:X.N.Nodup) (hi:X.N[i]?=some x) (g:Loc X.env.scope x) (d:PE X e te) (f:mU e (some (.Name x fk)) pos.line X.env=pure false:=by rfl) (hf:X.fn x=true\/X.env.scope.names.lookup x=some .local:=by first|exact .inl rfl|exact .inr rfl|assumption):
  PS X (.Assign [.Name x fk] e pos) (iA te (bG i)):=by
 intro WP s ZB H D W1 h;refine wpAny_Assign_Name (xL (d WP s ZB H _ W1 h) λv l ⟨y,H1,a,k,j⟩=>?_) f;exact uT a c hi g k (λm b=>⟨_,H1,b,j⟩) hf
def Lh (i:Nat) (te:TE) (a:nQ):TS:=λD ZB H=>∃x,ZB[i]?=some (some x)/\te ZB H λy H1=>a x y H1 λz H2=>D.nx (ZB.set i (some z)) H2
theorem sJ {i:Nat}{x:Str}{e:ws}{te:TE}{op:mV}{d:nQ}{fk:Pos}(o:X.N.Nodup) (hi:X.N[i]?=some x) (b:Loc X.env.scope x) (t:PE X e te) (E:q' X op d) (hf:X.fn x=true\/X.env.scope.names.lookup x=some .local:=by first|exact .inl rfl|exact .inr rfl|assumption):
  PS X (.AugAssign (.Name x fk) op e pos) (Lh i te d):=by(
intro WP s ZB H D W1 h;obtain⟨v,n,h⟩:=h;obtain⟨m,hn,C⟩:=W1.loc;have Nk:j9 X.env.scope x:=by rcases b with k|k;exact .inl k;exact .inr (.inl k)
obtain⟨u,r,l⟩:=C i x v hi n Nk;refine wpAny_AugAssign_Name ?_;have go:wpAny (Do X.prog X.w) X.A (eval e X.env) (λw Y=>wpAny (Do X.prog X.w) X.A (vL op u w) (λr Nj=>wpAny (Do X.prog X.w) X.A (vK X.env x r) (λ_=>SP X WP D .next) X.xe Nj) X.xe Y) X.xe s:=by
 refine xL (t WP s ZB H _ W1 h) λw U ⟨y,H1,f,Q,J⟩=>?_;refine xL (E WP U ZB H1 v y u w _ f r Q J) λz Nl ⟨Nn,H2,g,T,L⟩=>?_;exact uT g o hi b T (λNm j=>⟨_,H2,j,L⟩) hf
rcases l with⟨a,hm⟩|⟨a,c,p,q⟩
·exact BF W1.ok.kind a hn hm go
·rcases a with a|a
 ·exact BG W1.ok.kind a p q go
 ·rcases b with k|k
  ·have:X.env.scope.names.lookup x=some .free:=a;rw[k]at this;cases this
  ·have:X.env.scope.names.lookup x=some .free:=a;rw[k]at this;cases this)
def yA (f:Int->Int->Int):nQ:=λx y H Q=>∃i j,x=.int i/\y=.int j/\Q (.int (f i j)) H
theorem Ga:q' X .Add (yA λi j=>i+j):=by
 intro WP s ZB H x y v u Q W1 c d h;obtain⟨i,j,a,b,q⟩:=h;subst a;subst b;obtain⟨t,rfl⟩:=c;obtain⟨t',rfl⟩:=d;exact C0 ⟨.int _,H,W1.tok _,⟨_,O⟩,q⟩
theorem yB:q' X .Sub (yA λi j=>i-j):=by
 intro WP s ZB H x y v u Q W1 c d h;obtain⟨i,j,a,b,q⟩:=h;subst a;subst b;obtain⟨t,rfl⟩:=c;obtain⟨t',rfl⟩:=d;exact isub_int ⟨.int _,H,W1.tok _,⟨_,O⟩,q⟩
end
section
variable {X:Cx}{pos:Pos}
def Lw (c:TT) (tb:TS):TS:=λD ZB H=>∃W:Nat->St->Hp->Prop,(∃m,W m ZB H)/\∀m ZB H,W m ZB H->
 c ZB H λb H1=>if b=true then ∃N:St->Hp->Prop,(∀d V,N d V->∃a,a<m/\W a d V)/\tb {D with nx:=N,ct:=N,bk:=D.nx} ZB H1 else D.nx ZB H1
theorem kK {c:ws}{body:List v1}{tc:TT}{tb:TS}(p:PassesOwn (Do X.prog X.w) X.A X.env X.xe) (u:PT X c tc) (t:eL X body tb):PS X (.While c body [] pos) (Lw tc tb):=by(
intro WP s ZB H D W1 h;obtain⟨W,⟨x,C⟩,turn⟩:=h;refine wpAny_While (codeAny_whileLoop (λn s'=>∃q V,Inv X WP q V s'/\W n q V) ?_ x ⟨ZB,H,W1,C⟩);rintro n y ⟨i,H1,r,E⟩;refine jM p (xL (u WP y i H1 _ r (turn n i H1 E)) λb z ⟨H2,m,e⟩=>?_);cases b with
|true=>
 obtain⟨N,o,e⟩:=e;rw[No rfl];refine jM p (xL (t WP z i H2 _ m e) λf J g=>?_);cases f with
 |next=>
  obtain⟨d,a,j,n3⟩:=g;obtain⟨k,hm,l⟩:=o d a n3;exact⟨k,hm,d,a,j,l⟩
 |cont=>
  obtain⟨d,a,j,n3⟩:=g;obtain⟨k,hm,l⟩:=o d a n3;exact⟨k,hm,d,a,j,l⟩
 |brk=>exact g
 |ret v=>exact g
|false=>
 rw[Ps b2];exact qf ⟨i,H2,m,e⟩)
end
structure It where
 go:Nat->Hp->Prop
 ez:Nat->Hp->XV->Hp->Prop
 stop:Nat->Hp->Prop
def e5 (X:Cx) (WP:List (B×Obj)) (H:Hp) (b:B):Prop:=
 H b=none/\b≠X.env.locals/\b∉X.fs/\(b∈X.ex\/X.da.heap.objs.size<=b)/\(∀x c,X.env.cells.lookup x=some c->c≠b)/\∀p∈X.pn++WP,p.1≠b
theorem Inv.km {X:Cx}{WP:List (B×Obj)}{ZB:St}{H V:Hp}{s:Rs}{b:B}(W1:Inv X WP ZB H s) (a:s.heap.objs.size<=b) (hn:V b=none):e5 X WP V b:=by(
refine⟨hn,qE (cT W1.lt a),W1.HW a,.inr (dg W1.sz a),λx c e z=>?_,λp d z=>?_⟩
·obtain⟨v,q⟩:=W1.cell x c e;exact absurd (cT q.lt (by rw[z];exact a)) (gM _)
·exact absurd (cT (f0 (W1.pin p d).1) (by rw[z];exact a)) (gM _))
structure g0 (P:pu) (w:rs) (K:xz) (tg:ws) (J:It) (fp:List B) (c:B) (a:Nat->wn->Prop):Prop where
 mem:c∈fp
 obj:∀i h,a i h->∀b∈fp,∃o,h.get? b=some o/\∀v,o.data≠.cell v
 keep:∀i h h',a i h->(∀b∈fp,∀o,h.get? b=some o->h'.get? b=some o)->a i h'
 item:∀(X:Cx),X.prog=P->X.w=w->X.K=K->X.calm=true->∀(i:Nat) (WP:List (B×Obj)) (s:Rs) (ZB:St) (H:Hp) (E:Wp->Rs->Prop),Inv X WP ZB H s->(∀b∈fp,e5 X WP H b)->a i s.heap->J.go i H->
  wpAny (Do P w) X.A (eD (.ref c)) (λr d=>∃u,r=some u/\
   wpAny (Do P w) X.A (qg tg (.ref c) u) (λ_ e=>∃x V,Inv X WP ZB V e/\RelV x u/\J.ez i H x V/\a (i+1) e.heap/\∀b∈fp,V b=none) E d) E s
 done:∀(X:Cx),X.prog=P->X.w=w->X.K=K->X.calm=true->∀(i:Nat) (WP:List (B×Obj)) (s:Rs) (ZB:St) (H:Hp) (E:Wp->Rs->Prop),Inv X WP ZB H s->(∀b∈fp,e5 X WP H b)->a i s.heap->J.stop i H->
  wpAny (Do P w) X.A (eD (.ref c)) (λr d=>r=none/\Inv X WP ZB H d) E s
 self:∀(A:cs) (i:Nat) (s:Rs) (Q:Wp->Rs->Prop) (E:Wp->Rs->Prop),a i s.heap->Q (.ref c) s->wpAny (Do P w) A (qw (.ref c)) Q E s
abbrev TI:=St->Hp->(It->Hp->Prop)->Prop
def q_ (X:Cx) (WP:List (B×Obj)) (ZB:St) (tg:ws) (R:It->Hp->Prop) (e:Wp) (c:Rs):Prop:=
 ∃(a:B) (fp:List B) (d:Nat->wn->Prop) (J:It) (V:Hp),e=.ref a/\Inv X WP ZB V c/\g0 X.prog X.w X.K tg J fp a d/\d 0 c.heap/\(∀b∈fp,e5 X WP V b)/\R J V
def PI (X:Cx) (tg bo:ws) (b:TI):Prop:=
 ∀(WP:List (B×Obj)) (s:Rs) (ZB:St) (H:Hp) (R:It->Hp->Prop),Inv X WP ZB H s->b ZB H R->
  wpAny (Do X.prog X.w) X.A (eval bo X.env) (λv a=>wpAny (Do X.prog X.w) X.A (qw v) (q_ X WP ZB tg R) X.xe a) X.xe s
theorem kr {TD:eE}{A:cs}{E:Wp->Rs->Prop}{s:Rs}{tg:ws}{b:B}{u:Wp}{o:Obj}{n:String}{vs:Array Wp}{Q:Unit->Rs->Prop}(d:s.heap.get? b=some o) (c:o.cls=.type n) (hd:o.data=.fields vs)
  (hn:["enumerate","zip","dict_itemiterator","dict_reverseitemiterator","odict_iterator","itertools.zip_longest","itertools.pairwise"].contains n=false) (a:Q () s):wpAny TD A (qg tg (.ref b) u) Q E s:=by(
unfold qg;cases tg<;>first
 |exact t3 a
 |(cases u<;>first
   |exact t3 a
   |(refine IR (B9 d ?_);rw[c,hd];show wpAny TD A (if(["enumerate","zip","dict_itemiterator","dict_reverseitemiterator","odict_iterator","itertools.zip_longest","itertools.pairwise"].contains n&&vs[0]?==some (gK _))=true then _ else _) Q E s;rw[Ps (by intro h;rw[hn,wq]at h;cases h)];exact t3 a)))
def cD (K:xz) (a:B):It:=
 ⟨λi H=>∃xs x,TW K H a xs/\xs[i]?=some x,λi H x V=>V=H/\∀xs,TW K H a xs->xs[i]?=some x,λi H=>∃xs,TW K H a xs/\xs.length<=i⟩
def lJ (K:xz) (a:B):It:=
 ⟨λi H=>∃xs x,pm K H a xs/\xs[i]?=some x,λi H x V=>V=H/\∀xs,pm K H a xs->xs[i]?=some x,λi H=>∃xs,pm K H a xs/\xs.length<=i⟩
def i4 (lo:Int) (n:Nat):It:=⟨λi _=>i<n,λi H x V=>V=H/\x=.int (lo+i),λi _=>n<=i⟩
theorem LH {P:pu}{w:rs}{K:xz}{tg:ws}(a g:B):g0 P w K tg (cD K a) [g] g (λi h=>h.IsListIter g a i) where
 mem:=by simp
 obj:=λi h st b f=>by
  have e:b=g:=by simpa using f
  subst e;obtain⟨o,e,c,d⟩:=st;exact⟨o,e,λv z=>by rw[d]at z;cases z⟩
 keep:=λi h h' st k=>st.at λo e=>k g (by simp) o e
 item:=by
  intro X y hw t D i WP s ZB H E W1 hf st hg;subst y hw t;obtain⟨xs,x,j,A⟩:=hg;obtain⟨Op,C,p,hz⟩:=W1.list j;obtain⟨u,hu,U⟩:=C.get A;obtain⟨l,m,Q,n,q,r⟩:=hf g (by simp);refine wpAny_pyNext_list_item st p.isList (x:=u) (by simpa using hu) λh' J Y=>?_;have L:Inv X WP ZB H {s with heap:=h'}:=W1.turned (t':=s.toks) (λb o f e=>(Y.2 b f).trans e) l m n q r;obtain⟨o,e,c,d⟩:=id J;exact⟨u,O,kr (s:= {s with heap:=h'}) e c d (by decide) ⟨x,H,L,U,⟨O,λys T=>by rw[W1.oD T j];exact A⟩,J,λb f=>(hf b f).1⟩⟩
 done:=by
  intro X y hw t D i WP s ZB H E W1 hf st hg;subst y hw t;obtain⟨xs,j,A⟩:=hg;obtain⟨Op,C,p,hz⟩:=W1.list j;obtain⟨l,m,Q,n,q,r⟩:=hf g (by simp);have Nj:=C.length;exact wpAny_pyNext_list_end (W1.ok.hd D) st p.isList (by simp;omega) λh' N=>⟨O,W1.turned (t':=s.toks) (λb o f e=>N b o f e) l m n q r⟩
 self:=λ_ _ _ _ _ st h=>wpAny_pyIter_listiter st h
theorem LK {P:pu}{w:rs}{K:xz}{tg:ws}(a g:B):g0 P w K tg (lJ K a) [g] g (λi h=>h.IsTupleIter g a i) where
 mem:=by simp
 obj:=λi h st b f=>by
  have e:b=g:=by simpa using f
  subst e;obtain⟨o,e,c,d⟩:=st;exact⟨o,e,λv z=>by rw[d]at z;cases z⟩
 keep:=λi h h' st k=>st.at λo e=>k g (by simp) o e
 item:=by
  intro X y hw t D i WP s ZB H E W1 hf st hg;subst y hw t;obtain⟨xs,x,j,A⟩:=hg;obtain⟨Op,C,p,hz⟩:=W1.tuple j;obtain⟨u,hu,U⟩:=C.get A;obtain⟨l,m,Q,n,q,r⟩:=hf g (by simp);refine wpAny_pyNext_tuple_item st (show s.heap.IsTuple a Op.toArray from p) (x:=u) (by simpa using hu) λh' J Y=>?_;have L:Inv X WP ZB H {s with heap:=h'}:=W1.turned (t':=s.toks) (λb o f e=>(Y.2 b f).trans e) l m n q r;obtain⟨o,e,c,d⟩:=id J;exact⟨u,O,kr (s:= {s with heap:=h'}) e c d (by decide) ⟨x,H,L,U,⟨O,λys T=>by rw[W1.u4 T j];exact A⟩,J,λb f=>(hf b f).1⟩⟩
 done:=by
  intro X y hw t D i WP s ZB H E W1 hf st hg;subst y hw t;obtain⟨xs,j,A⟩:=hg;obtain⟨Op,C,p,hz⟩:=W1.tuple j;obtain⟨l,m,Q,n,q,r⟩:=hf g (by simp);have Nj:=C.length;exact wpAny_pyNext_tuple_end (W1.ok.hd D) st (show s.heap.IsTuple a Op.toArray from p) (by simp;omega) λh' N=>⟨O,W1.turned (t':=s.toks) (λb o f e=>N b o f e) l m n q r⟩
 self:=λ_ _ _ _ _ st h=>wpAny_pyIter_tupleiter st h
theorem LI {P:pu}{w:rs}{K:xz}{tg:ws}(a:B) (lo:Int) (n:Nat):g0 P w K tg (i4 lo n) [a] a (λi h=>qn h a (lo+(i:Nat)*1) ((n:Int)-(i:Nat)) 1) where
 mem:=by simp
 obj:=λi h st b c=>by
  have e:b=a:=by simpa using c
  subst e;exact⟨_,st,λv z=>by
   have C:Data.fields _=Data.cell v:=z;cases C⟩
 keep:=λi h h' st k=>k a (by simp) _ st
 item:=by
  intro X p hw m q i WP s ZB H E W1 hf st hg;subst p hw m;obtain⟨d,f,y,g,j,l⟩:=hf a (by simp);have W:=Walks.range (prog:=X.prog) (w:=X.w) (W1.ok.hd q) a lo 1 n;refine W.item i s _ _ hg st λv h' tk hv r A=>?_;obtain⟨t,rfl⟩:=hv;have u:Inv X WP ZB H {s with heap:=h',toks:=tk}:=W1.turned (λb o c e=>A b o (by simpa using c) e) d f g j l;refine⟨_,O,kr (s:= {s with heap:=h',toks:=tk}) (n:="range_iterator") r rfl rfl (by decide) ⟨.int (lo+i),H,u,⟨t,?_⟩,⟨O,O⟩,r,λb c=>(hf b c).1⟩⟩;rw[Int.mul_one]
 done:=by
  intro X p hw m q i WP s ZB H E W1 hf st hg;subst p hw m;obtain⟨d,f,y,g,j,l⟩:=hf a (by simp);exact BA (W1.ok.hd q) st (by have:n<=i:=hg;omega) λh' x=>⟨O,W1.turned (t':=s.toks) (λb o c e=>x b o c e) d f g j l⟩
 self:=λ_ _ _ _ _ st h=>BB st h
section
variable {X:Cx}{tg:ws}
def r2 (K:xz) (tl:TE):TI:=λZB H R=>tl ZB H λx H1=>∃a,x=.ref a/\(∃xs,TW K H1 a xs)/\R (cD K a) H1
def F3 (K:xz) (tl:TE):TI:=λZB H R=>tl ZB H λx H1=>∃a,x=.ref a/\(∃xs,pm K H1 a xs)/\R (lJ K a) H1
theorem cf {l:ws}{tl:TE}(g:PE X l tl):PI X tg l (r2 X.K tl):=by(
intro WP s ZB H R W1 h;refine xL (g WP s ZB H _ W1 h) λv d ⟨x,H1,c,k,j⟩=>?_;obtain⟨a,e,⟨xs,i⟩,q⟩:=j;subst e;cases k;obtain⟨Op,m,p,hz⟩:=c.list i;refine mP p.isList ?_;refine⟨d.heap.objs.size,[d.heap.objs.size],_,_,H1,O,c.kept (t':=d.toks) λb o e=>ls _ e,LH a _,⟨_,a9 _ rfl,O,O⟩,λb f=>?_,q⟩;have e:b=d.heap.objs.size:=by simpa using f
subst e;exact c.km (t1 _) (c.ag.fresh (t1 _)))
theorem JC {l:ws}{tl:TE}(g:PE X l tl):PI X tg l (F3 X.K tl):=by(
intro WP s ZB H R W1 h;refine xL (g WP s ZB H _ W1 h) λv c ⟨x,H1,d,k,j⟩=>?_;obtain⟨a,e,⟨xs,i⟩,q⟩:=j;subst e;cases k;obtain⟨Op,m,p,hz⟩:=d.tuple i;refine wpAny_pyIter_tuple (show c.heap.IsTuple a Op.toArray from p) ?_;refine⟨c.heap.objs.size,[c.heap.objs.size],_,_,H1,O,d.kept (t':=c.toks) λb o e=>ls _ e,LK a _,⟨_,a9 _ rfl,O,O⟩,λb f=>?_,q⟩;have e:b=c.heap.objs.size:=by simpa using f
subst e;exact d.km (t1 _) (d.ag.fresh (t1 _)))
theorem zH {WP:List (B×Obj)}{ZB:St}{H:Hp}{s:Rs}{R:It->Hp->Prop}{E:Wp->Rs->Prop}{lo hi:Int}{t u v:Tok}{tk:Nat}(W1:Inv X WP ZB H s) (h1: -(2^62)<=lo) (h2:lo<2^62) (f: -(2^62)<=hi) (g:hi<2^62)
  (q:R (i4 lo (hi-lo).toNat) H):wpAny (Do X.prog X.w) X.A (qw (.ref s.heap.objs.size)) (q_ X WP ZB tg R) E {s with heap:=s.heap.push {cls:=.type "range",data:=.fields #[.int lo t,.int hi u,.int 1 v]},toks:=tk}:=by(
refine BH (IsRange.new ..) (small_one h1 h2 f g) ?_;have a:Inv X WP ZB H {s with heap:=s.heap.push {cls:=.type "range",data:=.fields #[.int lo t,.int hi u,.int 1 v]},toks:=tk}:=W1.kept λb o e=>ls _ e;refine⟨(s.heap.push {cls:=.type "range",data:=.fields #[.int lo t,.int hi u,.int 1 v]}).objs.size,[(s.heap.push {cls:=.type "range",data:=.fields #[.int lo t,.int hi u,.int 1 v]}).objs.size],_,_,H,O,
 a.kept (t':=tk) λb o e=>ls _ e,LI _ lo (hi-lo).toNat,?_,λb h=>?_,q⟩
·have c:lo+((0:Nat):Int)*1=lo:=by simp
 have d:(((hi-lo).toNat:Nat):Int)-((0:Nat):Int)=wO lo hi 1:=by rw[rangeSize_one];split<;>omega
 show qn _ _ (lo+((0:Nat):Int)*1) ((((hi-lo).toNat:Nat):Int)-((0:Nat):Int)) 1;rw[c,d];exact a9 _ rfl
·have e:b=(s.heap.push {cls:=.type "range",data:=.fields #[.int lo t,.int hi u,.int 1 v]}).objs.size:=by simpa using h
 subst e;exact a.km (t1 _) (a.ag.fresh (t1 _)))
def F0 (ta:TA):TI:=λZB H R=>ta ZB H λvs H1=>∃j:Int,vs=[.int j]/\ -(2^62)<=j/\j<2^62/\R (i4 0 j.toNat) H1
def F1 (ta:TA):TI:=λZB H R=>ta ZB H λvs H1=>∃i j:Int,vs=[.int i,.int j]/\(-(2^62)<=i/\i<2^62/\ -(2^62)<=j/\j<2^62)/\R (i4 i (j-i).toNat) H1
theorem mr {a:ws}{ta:TA}{p pos:Pos}(hg:Gl X "range") (hm:X.mg "range"=none) (d:PA X [a] ta) (f:bi [a] X.env=[(false,eval a X.env)]:=by rfl):PI X tg (.Call (.Name "range" p) [a] [] pos) (F0 ta):=by(
intro WP s ZB H R W1 h;refine qT (kv W1 hg hm wF (ng (xL (d pos WP s ZB H _ W1 h) λus l ⟨vs,H1,c,i,b⟩=>?_) f rfl));obtain⟨j,e,b,g,q⟩:=b;subst e;cases i with
|cons r k=>
 cases k;obtain⟨t,rfl⟩:=r;exact call_range_1 (zH c (by omega) (by omega) b g (by simpa using q)))
theorem JA {a b:ws}{ta:TA}{p pos:Pos}(hg:Gl X "range") (hm:X.mg "range"=none) (k:PA X [a,b] ta) (l:bi [a,b] X.env=[(false,eval a X.env),(false,eval b X.env)]:=by rfl) (f:bi [b] X.env=[(false,eval b X.env)]:=by rfl):
  PI X tg (.Call (.Name "range" p) [a,b] [] pos) (F1 ta):=by(
intro WP s ZB H R W1 h;refine qT (kv W1 hg hm wF (ng (xL (k pos WP s ZB H _ W1 h) λus x ⟨vs,H1,g,w,c⟩=>?_) (by rw[l,f]) (by rw[f];rfl)));obtain⟨i,j,e,⟨c,m,n,o⟩,q⟩:=c;subst e;cases w with
|cons r d=>
 cases d with
 |cons u d=>
  cases d;obtain⟨t,rfl⟩:=r;obtain⟨t',rfl⟩:=u;exact call_range_2 (zH g c m n o q))
def Lr (c:TI) (g:TG) (tb:TS):TS:=λD ZB H=>c ZB H λJ H1=>∃W:Nat->Nat->St->Hp->Prop,(∃m,W 0 m ZB H1)/\∀i m ZB H,W i m ZB H->
 (J.stop i H/\D.nx ZB H)\/(J.go i H/\∃N:St->Hp->Prop,(∀b V,N b V->∃a,a<m/\W (i+1) a b V)/\∀x V,J.ez i H x V->g x ZB V λd H2=>tb {D with nx:=N,ct:=N,bk:=D.nx} d H2)
def mu (fp:List B) (h:wn):List (B×Obj):=fp.filterMap λb=>(h.get? b).map λo=>(b,o)
theorem si {fp:List B}{h:wn}{b:B}{o:Obj}(a:b∈fp) (e:h.get? b=some o):(b,o)∈mu fp h:=nE.mpr ⟨b,a,by rw[e];rfl⟩
theorem HZ {fp:List B}{h:wn}{p:B×Obj}(d:p∈mu fp h):p.1∈fp/\h.get? p.1=some p.2:=by(
obtain⟨b,c,e⟩:=nE.mp d;cases q:h.get? b with
|none=>rw[q]at e;cases e
|some o=>
 rw[q]at e;have a:(b,o)=p:=bT e;subst a;exact⟨c,q⟩)
theorem Inv.pinned {WP:List (B×Obj)}{ZB:St}{H:Hp}{s:Rs}{fp:List B}(W1:Inv X WP ZB H s) (hf:∀b∈fp,e5 X WP H b) (i:∀b∈fp,∃o,s.heap.get? b=some o/\∀v,o.data≠.cell v):Inv X (WP++mu fp s.heap) ZB H s:=
 W1.zA λp j=>(f1.mp j).elim (λz=>W1.pin p (fE _ z)) λz=>by
  obtain⟨c,e⟩:=HZ z;obtain⟨f,g,h,_⟩:=hf p.1 c;obtain⟨o,a,d⟩:=i p.1 c;rw[e]at a;cases a;exact⟨e,f,g,h,d⟩
theorem Inv.pW {WP pl:List (B×Obj)}{ZB:St}{H:Hp}{s:Rs}(W1:Inv X (WP++pl) ZB H s):Inv X WP ZB H s:=W1.zA λp a=>W1.pin p (fE _ (f_ _ a))
theorem cw {bo:ws}{body:List v1}{Nm:TI}{g:TG}{tb:TS}{pos:Pos}(p:PassesOwn (Do X.prog X.w) X.A X.env X.xe) (D:X.calm=true) (hi:PI X tg bo Nm) (hg:PG X tg g) (j:eL X body tb)
  (Nz:∀x,qd bo X.env x=pure x:=by intro _;rfl):PS X (.For tg bo body [] pos) (Lr Nm g tb):=by(
intro WP s ZB H NU W1 h;refine wpAny_For (xL (hi WP s ZB H _ W1 h) λv NY h1=>xL h1 λNX NZ h2=>?_) Nz;obtain⟨NW,fp,Nl,NV,H2,e,Np,T,NL,U,W,⟨NC,NM⟩,turn⟩:=h2;subst e;have E:∀ {V:Hp},(∀b∈fp,V b=none)->∀b∈fp,e5 X WP V b:=λhn b j=>⟨hn b j,(U b j).2⟩;refine codeAny_forLoop_any (λn s'=>∃i q V,Inv X WP q V s'/\Nl i s'.heap/\(∀b∈fp,V b=none)/\W i n q V) ?_ NC ⟨0,ZB,H2,Np,NL,λb j=>(U b j).1,NM⟩;rintro n J ⟨i,t,y,Q,Nk,Y,NN⟩;rcases turn i n t y NN with⟨stop,NF⟩|⟨go,N,Ny,step⟩
·refine jM p (xL (T.done X rfl rfl rfl D i WP J t y X.xe Q (E Y) Nk stop) λr NI ⟨hr,Nq⟩=>?_);subst hr;exact qf ⟨t,y,Nq,NF⟩
·refine jM p (xL (T.item X rfl rfl rfl D i WP J t y X.xe Q (E Y) Nk go) λr NI ⟨u,hr,Nx⟩=>?_);subst hr;refine jM p (xL Nx λ_ Nj ⟨x,L,Nr,NG,NR,C,Nw⟩=>?_);have Nu:=Nr.pinned (E Nw) (T.obj _ _ C);refine jM p (xL (hg _ Nj t L x u _ Nu NG (step x L NR)) λ_ NK ⟨NS,Nn,Nv,ND⟩=>?_);refine jM p (xL (j _ NK NS Nn _ Nv ND) λf z l=>?_);have again:∀ {k:St}{a:Hp},Inv X (WP++mu fp Nj.heap) k a z->N k a->∃m,m<n/\∃i q V,Inv X WP q V z/\Nl i z.heap/\(∀b∈fp,V b=none)/\W i m q V:=λ{k a} c n7=>by
  obtain⟨NA,hm,NO⟩:=Ny k a n7;refine⟨NA,hm,i+1,k,a,c.pW,T.keep _ _ _ C λb j o e=>(c.pin (b,o) (fE _ (fE _ (si j e)))).1,λb j=>?_,NO⟩;obtain⟨o,e,d⟩:=T.obj _ _ C b j;exact(c.pin (b,o) (fE _ (fE _ (si j e)))).2.1
 cases f with
 |next=>obtain⟨k,a,c,n7⟩:=l;exact again c n7
 |cont=>obtain⟨k,a,c,n7⟩:=l;exact again c n7
 |brk=>obtain⟨k,a,c,l⟩:=l;exact⟨k,a,c.pW,l⟩
 |ret v=>obtain⟨NQ,k,a,c,NH,l⟩:=l;exact⟨NQ,k,a,c.pW,NH,l⟩)
end
theorem gv {K:xz}{a:B}{xs:List XV}{g:TG}{tb:TS}{D:Ends}{ZB:St}{H:Hp}(Pv:Nat->St->Hp->Prop) (h0:Pv 0 ZB H) (h:∀i ZB H,i<=xs.length->Pv i ZB H->TW K H a xs)
  (j:∀i x ZB H,xs[i]?=some x->Pv i ZB H->g x ZB H λc H2=>tb {D with nx:=Pv (i+1),ct:=Pv (i+1),bk:=D.nx} c H2) (hd:∀ZB H,Pv xs.length ZB H->D.nx ZB H):
  ∃W:Nat->Nat->St->Hp->Prop,(∃m,W 0 m ZB H)/\∀i m ZB H,W i m ZB H->
   ((cD K a).stop i H/\D.nx ZB H)\/((cD K a).go i H/\∃N:St->Hp->Prop,(∀b V,N b V->∃f,f<m/\W (i+1) f b V)/\∀x V,(cD K a).ez i H x V->g x ZB V λc H2=>tb {D with nx:=N,ct:=N,bk:=D.nx} c H2):=by(
refine⟨λi m ZB H=>m=xs.length-i/\i<=xs.length/\Pv i ZB H,⟨xs.length,by simp,g1 _,h0⟩,?_⟩;rintro i m ZB H ⟨rfl,hi,p⟩;have q:=h i ZB H hi p;by_cases d:i<xs.length
·refine .inr ⟨⟨xs,xs[i],q,by simp[d]⟩,Pv (i+1),λb V k=>⟨xs.length-(i+1),by omega,O,d,k⟩,λx V y=>?_⟩;obtain⟨e,y⟩:=y;subst e;exact j i x ZB _ (y xs q) p
·have e:i=xs.length:=by omega
 subst e;exact .inl ⟨⟨xs,q,t1 _⟩,hd ZB H p⟩)
theorem FE {K:xz}{a:B}{xs:List XV}{g:TG}{tb:TS}{D:Ends}{ZB:St}{H:Hp}(Pv:Nat->St->Hp->Prop) (h0:Pv 0 ZB H) (h:∀i ZB H,i<=xs.length->Pv i ZB H->pm K H a xs)
  (j:∀i x ZB H,xs[i]?=some x->Pv i ZB H->g x ZB H λc H2=>tb {D with nx:=Pv (i+1),ct:=Pv (i+1),bk:=D.nx} c H2) (hd:∀ZB H,Pv xs.length ZB H->D.nx ZB H):
  ∃W:Nat->Nat->St->Hp->Prop,(∃m,W 0 m ZB H)/\∀i m ZB H,W i m ZB H->
   ((lJ K a).stop i H/\D.nx ZB H)\/((lJ K a).go i H/\∃N:St->Hp->Prop,(∀b V,N b V->∃f,f<m/\W (i+1) f b V)/\∀x V,(lJ K a).ez i H x V->g x ZB V λc H2=>tb {D with nx:=N,ct:=N,bk:=D.nx} c H2):=by(
refine⟨λi m ZB H=>m=xs.length-i/\i<=xs.length/\Pv i ZB H,⟨xs.length,by simp,g1 _,h0⟩,?_⟩;rintro i m ZB H ⟨rfl,hi,p⟩;have q:=h i ZB H hi p;by_cases d:i<xs.length
·refine .inr ⟨⟨xs,xs[i],q,by simp[d]⟩,Pv (i+1),λb V k=>⟨xs.length-(i+1),by omega,O,d,k⟩,λx V y=>?_⟩;obtain⟨e,y⟩:=y;subst e;exact j i x ZB _ (y xs q) p
·have e:i=xs.length:=by omega
 subst e;exact .inl ⟨⟨xs,q,t1 _⟩,hd ZB H p⟩)
theorem kl {lo:Int}{n:Nat}{g:TG}{tb:TS}{D:Ends}{ZB:St}{H:Hp}(Pv:Nat->St->Hp->Prop) (h0:Pv 0 ZB H)
  (f:∀i ZB H,i<n->Pv i ZB H->g (.int (lo+i)) ZB H λc H2=>tb {D with nx:=Pv (i+1),ct:=Pv (i+1),bk:=D.nx} c H2) (hd:∀ZB H,Pv n ZB H->D.nx ZB H):
  ∃W:Nat->Nat->St->Hp->Prop,(∃m,W 0 m ZB H)/\∀i m ZB H,W i m ZB H->
   ((i4 lo n).stop i H/\D.nx ZB H)\/((i4 lo n).go i H/\∃N:St->Hp->Prop,(∀b V,N b V->∃d,d<m/\W (i+1) d b V)/\∀x V,(i4 lo n).ez i H x V->g x ZB V λc H2=>tb {D with nx:=N,ct:=N,bk:=D.nx} c H2):=by(
refine⟨λi m ZB H=>m=n-i/\i<=n/\Pv i ZB H,⟨n,by simp,g1 _,h0⟩,?_⟩;rintro i m ZB H ⟨rfl,hi,p⟩;by_cases a:i<n
·refine .inr ⟨a,Pv (i+1),λb V h=>⟨n-(i+1),by omega,O,a,h⟩,λx V y=>?_⟩;obtain⟨e,y⟩:=y;subst e y;exact f i ZB _ a p
·have e:i=n:=by omega
 subst e;exact .inl ⟨t1 _,hd ZB H p⟩)
abbrev R2:=XV->XV->Hp->VK->Prop
def bE (X:Cx) (f:Wp->Wp->Sem Wp) (r:R2):Prop:=
 ∀(WP:List (B×Obj)) (s:Rs) (ZB:St) (H:Hp) (x y:XV) (v u:Wp) (Q:VK),Inv X WP ZB H s->RelV x v->RelV y u->r x y H Q->
  wpAny (Do X.prog X.w) X.A (f v u) (EP X WP ZB Q) X.xe s
def rd (X:Cx) (f:Wp->Sem Wp) (r:XV->Hp->VK->Prop):Prop:=
 ∀(WP:List (B×Obj)) (s:Rs) (ZB:St) (H:Hp) (x:XV) (v:Wp) (Q:VK),Inv X WP ZB H s->RelV x v->r x H Q->
  wpAny (Do X.prog X.w) X.A (f v) (EP X WP ZB Q) X.xe s
def gV (X:Cx) (f:Wp) (r:List XV->Hp->VK->Prop):Prop:=
 ∀(WP:List (B×Obj)) (s:Rs) (ZB:St) (H:Hp) (xs:List XV) (us:List Wp) (Q:VK),Inv X WP ZB H s->wP xs us->r xs H Q->
  wpAny (Do X.prog X.w) X.A (call f us) (EP X WP ZB Q) X.xe s
def hy (r:R2) (ta tb:TE):TE:=λZB H Q=>ta ZB H λx H1=>tb ZB H1 λy H2=>r x y H2 Q
def uZ (r:XV->Hp->VK->Prop) (ta:TE):TE:=λZB H Q=>ta ZB H λx H1=>r x H1 Q
def rI (C:Int->Int->Prop) (g:Int->Int->XV):R2:=λx y H Q=>∃i j,x=.int i/\y=.int j/\C i j/\Q (g i j) H
def dR (g:Int->Int->XV):R2:=λx y H Q=>∃i j,x=.int i/\y=.int j/\Q (g i j) H
def rU (g:Int->XV):XV->Hp->VK->Prop:=λx H Q=>∃i,x=.int i/\Q (g i) H
section
variable {X:Cx}{a b c:ws}{ta tb tc:TE}{pos:Pos}
theorem ro (i:PE X a ta) (j:PE X b tb) {WP:List (B×Obj)}{s:Rs}{ZB:St}{H:Hp}{R:XV->XV->Hp->Prop}(W1:Inv X WP ZB H s)
  (h:ta ZB H λx H1=>tb ZB H1 λy H2=>R x y H2) {Q:Wp->Rs->Prop}{f:Wp->Wp->Sem Wp}
  (hf:∀v u d x y H2,Inv X WP ZB H2 d->RelV x v->RelV y u->R x y H2->wpAny (Do X.prog X.w) X.A (f v u) Q X.xe d):
  wpAny (Do X.prog X.w) X.A (eval a X.env) (λv p=>wpAny (Do X.prog X.w) X.A (eval b X.env) (λu q=>wpAny (Do X.prog X.w) X.A (f v u) Q X.xe q) X.xe p) X.xe s:=by
 refine xL (i WP s ZB H _ W1 h) λv o ⟨x,H1,e,m,k⟩=>?_;refine xL (j WP o ZB H1 _ e k) λu d ⟨y,H2,g,n,l⟩=>?_;exact hf v u d x y H2 g m n l
theorem kw {op:mV}{r:R2}(g:bE X (gJ op) r) (e:PE X a ta) (f:PE X b tb):PE X (.BinOp a op b pos) (hy r ta tb):=by
 intro WP s ZB H Q W1 h;exact wpAny_BinOp (ro e f W1 h λv u k x y H2 d i j q=>g WP k ZB H2 x y v u Q d i j q)
theorem et {op:UnaryOp}{r:XV->Hp->VK->Prop}(f:rd X (unaryOp op) r) (e:PE X a ta):PE X (.UnaryOp op a pos) (uZ r ta):=by
 intro WP s ZB H Q W1 h;exact UnaryOp_ (xL (e WP s ZB H _ W1 h) λv j ⟨x,H1,d,i,g⟩=>f WP j ZB H1 x v Q d i g)
theorem oR {f:Wp->Wp->Sem Wp}{C:Int->Int->Prop}{g:Int->Int->Int}
  (rule:∀(i j:Int) (t u:Tok) (s:Rs) (Q:Wp->Rs->Prop) (E:Wp->Rs->Prop),C i j->Q (.int (g i j) s.toks) {s with toks:=s.toks+1}->wpAny (Do X.prog X.w) X.A (f (.int i t) (.int j u)) Q E s):
  bE X f (rI C λi j=>.int (g i j)):=by
 intro WP s ZB H x y v u Q W1 e k h;obtain⟨i,j,rfl,rfl,d,q⟩:=h;obtain⟨t,rfl⟩:=e;obtain⟨t',rfl⟩:=k;exact rule i j t t' s _ _ d ⟨.int (g i j),H,W1.tok _,⟨_,O⟩,q⟩
theorem sy {f:Wp->Wp->Sem Wp}{g:Int->Int->Int}
  (rule:∀(i j:Int) (t u:Tok) (s:Rs) (Q:Wp->Rs->Prop) (E:Wp->Rs->Prop),Q (.int (g i j) s.toks) {s with toks:=s.toks+1}->wpAny (Do X.prog X.w) X.A (f (.int i t) (.int j u)) Q E s):
  bE X f (dR λi j=>.int (g i j)):=by
 intro WP s ZB H x y v u Q W1 d e h;obtain⟨i,j,rfl,rfl,q⟩:=h;obtain⟨t,rfl⟩:=d;obtain⟨t',rfl⟩:=e;exact rule i j t t' s _ _ ⟨.int (g i j),H,W1.tok _,⟨_,O⟩,q⟩
theorem oQ {f:Wp->Wp->Sem Wp}{g:Int->Int->Bool}
  (rule:∀(i j:Int) (t u:Tok) (s:Rs) (Q:Wp->Rs->Prop) (E:Wp->Rs->Prop),Q (.bool (g i j)) s->wpAny (Do X.prog X.w) X.A (f (.int i t) (.int j u)) Q E s):
  bE X f (dR λi j=>.bl (g i j)):=by
 intro WP s ZB H x y v u Q W1 d e h;obtain⟨i,j,rfl,rfl,q⟩:=h;obtain⟨t,rfl⟩:=d;obtain⟨t',rfl⟩:=e;exact rule i j t t' s _ _ ⟨.bl (g i j),H,W1,O,q⟩
def Dw (i j:Int):Prop:=0<j/\j<1073741824
def q5 (i j:Int):Prop:=(-(2^64)<i/\i<2^64)\/(-(2^64)<j/\j<2^64)
theorem q5.ok {i j:Int}(h:q5 i j):IntMulOk i j:=by(
rcases h with⟨h1,h2⟩|⟨h1,h2⟩
·exact .of_left (BZ h1 h2)
·exact .of_right (BZ h1 h2))
theorem LO (k:Nat):(0:Int)<=2^k:=by
 rw[two_pow_cast];exact CQ _
theorem bu:bE X (gJ .Add) (dR λi j=>.int (i+j)):=sy λ_ _ _ _ _ _ _ q=>add_int q
theorem gy:bE X (gJ .Sub) (dR λi j=>.int (i-j)):=sy λ_ _ _ _ _ _ _ q=>sub_int q
theorem I9:bE X (gJ .Mult) (rI q5 λi j=>.int (i*j)):=oR λ_ _ _ _ _ _ _ d q=>mul_int q d.ok
theorem I7:bE X (gJ .FloorDiv) (rI Dw λi j=>.int (i/j)):=oR λi j _ _ _ _ _ d q=>by
 have h1:(0:Int)<j:=d.1;have h2:j<1073741824:=d.2;exact floordiv_int (by omega) (by rw[CO i (by omega)];exact q) (.inl (PyProof.noPylong_small (by omega)))
theorem I8:bE X (gJ .Mod) (rI (λ_ j=>0<j) λi j=>.int (i%j)):=oR λi j _ _ _ _ _ d q=>by
 have h1:(0:Int)<j:=d;exact mod_int' (by omega) (by rw[Int.fmod_eq_emod_of_nonneg i (by omega)];exact q)
theorem Ja:bE X (gJ .RShift) (rI (λ_ j=>0<=j) λi j=>.int (i/2^j.toNat)):=oR λi j _ _ _ _ _ d q=>
 rshift_int d (by rw[CO i (LO _)];exact q)
theorem I5:bE X (gJ .BitAnd) (dR λi j=>.int (qX i j)):=sy λ_ _ _ _ _ _ _ q=>and_int q
theorem LQ {f:Wp->Sem Wp}{g:Int->Int}
  (rule:∀(i:Int) (t:Tok) (s:Rs) (Q:Wp->Rs->Prop) (E:Wp->Rs->Prop),Q (.int (g i) s.toks) {s with toks:=s.toks+1}->wpAny (Do X.prog X.w) X.A (f (.int i t)) Q E s):
  rd X f (rU λi=>.int (g i)):=by
 intro WP s ZB H x v Q W1 d h;obtain⟨i,rfl,q⟩:=h;obtain⟨t,rfl⟩:=d;exact rule i t s _ _ ⟨.int (g i),H,W1.tok _,⟨_,O⟩,q⟩
theorem ey:rd X (unaryOp .USub) (rU λi=>.int (-i)):=LQ λ_ _ _ _ _ q=>neg_int q
end
def Aa:XV->XV->Bool
 |.ak,.ak=>true|.ak,.int _=>true|.int _,.ak=>true|.ak,.bl _=>true|.bl _,.ak=>true|.ak,.str _=>true|.str _,.ak=>true
 |.int _,.int _=>true|.bl _,.bl _=>true|.str _,.str _=>true|.e_ _,.e_ _=>true
 |.int _,.str _=>true|.str _,.int _=>true|.bl _,.str _=>true|.str _,.bl _=>true
 |_,_=>false
def JZ:R2:=λx y H Q=>Aa x y=true/\Q (.bl (decide (x=y))) H
def J3:R2:=λx y H Q=>Aa x y=true/\Q (.bl (!decide (x=y))) H
theorem x7 {i j:Int}:decide (XV.int i=XV.int j)=(i==j):=by
 rw[qG];simp
theorem x5 {i j:Bool}:decide (XV.bl i=XV.bl j)=(i==j):=by
 rw[qG];simp
theorem x8 {i j:Str}:decide (XV.str i=XV.str j)=(i==j):=by
 rw[qG];simp
theorem x6 {i j:Array UInt8}:decide (XV.e_ i=XV.e_ j)=(i.toList==j.toList):=by
 rw[qG];cases i;cases j;simp
section
variable {X:Cx}{a b c:ws}{ta tb tc:TE}{pos:Pos}
theorem aO {WP:List (B×Obj)}{ZB:St}{H:Hp}{s:Rs}{Q:VK}{k d:Bool}(W1:Inv X WP ZB H s) (q:Q (.bl k) H) (e:k=d):EP X WP ZB Q (.bool d) s:=by
 subst e;exact⟨.bl k,H,W1,O,q⟩
theorem cQ:bE X (dD .Eq) JZ:=by(
intro WP s ZB H x y v u Q W1 f d h;obtain⟨e,q⟩:=h;cases x with
|ak=>
 cases f;cases y with
 |ak=>cases d;exact MW (aO W1 q (by simp))
 |bl j=>cases d;exact MX (aO W1 q (by simp))
 |int j=>obtain⟨t',rfl⟩:=d;exact M3 (aO W1 q (by simp))
 |str j=>obtain⟨t',rfl⟩:=d;exact M4 (aO W1 q (by simp))
 |_=>exact absurd (show false=true from e) b2
|bl i=>
 cases f;cases y with
 |ak=>cases d;exact MY (aO W1 q (by simp))
 |bl j=>cases d;exact eq_bool (aO W1 q x5)
 |str j=>obtain⟨t',rfl⟩:=d;exact M' (aO W1 q (by simp))
 |_=>exact absurd (show false=true from e) b2
|int i=>
 obtain⟨t,rfl⟩:=f;cases y with
 |ak=>cases d;exact M5 (aO W1 q (by simp))
 |int j=>obtain⟨t',rfl⟩:=d;exact eq_int (aO W1 q x7)
 |str j=>obtain⟨t',rfl⟩:=d;exact Nd (aO W1 q (by simp))
 |_=>exact absurd (show false=true from e) b2
|str i=>
 obtain⟨t,rfl⟩:=f;cases y with
 |ak=>cases d;exact M6 (aO W1 q (by simp))
 |bl j=>cases d;exact Na (aO W1 q (by simp))
 |int j=>obtain⟨t',rfl⟩:=d;exact Nf (aO W1 q (by simp))
 |str j=>obtain⟨t',rfl⟩:=d;exact eq_str (aO W1 q x8)
 |_=>exact absurd (show false=true from e) b2
|e_ i=>
 obtain⟨t,rfl⟩:=f;cases y with
 |e_ j=>obtain⟨t',rfl⟩:=d;exact Ms (aO W1 q x6)
 |_=>exact absurd (show false=true from e) b2
|_=>cases y<;>exact absurd (show false=true from e) b2)
theorem I_:bE X (dD .NotEq) J3:=by(
intro WP s ZB H x y v u Q W1 f d h;obtain⟨e,q⟩:=h;cases x with
|ak=>
 cases f;cases y with
 |ak=>cases d;exact MZ (aO W1 q (by simp))
 |bl j=>cases d;exact M0 (aO W1 q (by simp))
 |int j=>obtain⟨t',rfl⟩:=d;exact M7 (aO W1 q (by simp))
 |str j=>obtain⟨t',rfl⟩:=d;exact M8 (aO W1 q (by simp))
 |_=>exact absurd (show false=true from e) b2
|bl i=>
 cases f;cases y with
 |ak=>cases d;exact M1 (aO W1 q (by simp))
 |bl j=>cases d;exact ne_bool (aO W1 q (cB not x5))
 |str j=>obtain⟨t',rfl⟩:=d;exact Nb (aO W1 q (by simp))
 |_=>exact absurd (show false=true from e) b2
|int i=>
 obtain⟨t,rfl⟩:=f;cases y with
 |ak=>cases d;exact M9 (aO W1 q (by simp))
 |int j=>obtain⟨t',rfl⟩:=d;exact ne_int (aO W1 q (cB not x7))
 |str j=>obtain⟨t',rfl⟩:=d;exact Ng (aO W1 q (by simp))
 |_=>exact absurd (show false=true from e) b2
|str i=>
 obtain⟨t,rfl⟩:=f;cases y with
 |ak=>cases d;exact M_ (aO W1 q (by simp))
 |bl j=>cases d;exact Nc (aO W1 q (by simp))
 |int j=>obtain⟨t',rfl⟩:=d;exact Nh (aO W1 q (by simp))
 |str j=>obtain⟨t',rfl⟩:=d;exact ne_str (aO W1 q (cB not x8))
 |_=>exact absurd (show false=true from e) b2
|e_ i=>
 obtain⟨t,rfl⟩:=f;cases y with
 |e_ j=>obtain⟨t',rfl⟩:=d;exact Mt (aO W1 q (cB not x6))
 |_=>exact absurd (show false=true from e) b2
|_=>cases y<;>exact absurd (show false=true from e) b2)
theorem dO:bE X (dD .Lt) (dR λi j=>.bl (decide (i<j))):=oQ λ_ _ _ _ _ _ _ q=>C1 q
theorem b':bE X (dD .LtE) (dR λi j=>.bl (decide (i<=j))):=oQ λ_ _ _ _ _ _ _ q=>le_int q
theorem ml:bE X (dD .Gt) (dR λi j=>.bl (decide (j<i))):=oQ λ_ _ _ _ _ _ _ q=>gt_int q
theorem kC:bE X (dD .GtE) (dR λi j=>.bl (decide (j<=i))):=oQ λ_ _ _ _ _ _ _ q=>ge_int q
theorem I':bE X (dD .IsNot) (λx y H Q=>y=.ak/\Q (.bl (!decide (x=.ak))) H):=by(
intro WP s ZB H x y v u Q W1 d e h;obtain⟨rfl,q⟩:=h;cases e;refine isnot_none_gen (aO W1 q ?_);cases x<;>first
 |(cases d;rfl)
 |(obtain⟨t,rfl⟩:=d;rfl))
theorem lm (b:ws) {op:iL}(h:op≠.In:=by decide) (h2:op≠.NotIn:=by decide):jN op b=false:=by(
have d:(op==CmpOp.In)=false:=by cases op<;>first|rfl|exact absurd rfl h
have e:(op==CmpOp.NotIn)=false:=by cases op<;>first|rfl|exact absurd rfl h2
cases b<;>simp[jN,d,e])
theorem oY {op:iL}{r:R2}(g:bE X (dD op) r) (e:PE X a ta) (f:PE X b tb) (hm:jN op b=false):PE X (.Compare a [op] [b] pos) (hy r ta tb):=by
 intro WP s ZB H Q W1 h;exact wpAny_Compare1 (ro e f W1 h λv u k x y H2 d i j q=>g WP k ZB H2 x y v u Q d i j q) hm
def pS (t:TE):TT:=λZB H Q=>t ZB H λx V=>∃k,x=.bl k/\Q k V
theorem he {op:iL}{r:R2}(m:bE X (dD op) r) (j:PE X a ta) (l:PE X b tb) (hm:jN op b=false):PT X (.Compare a [op] [b] pos) (pS (hy r ta tb)):=by(
intro WP s ZB H Q W1 h;refine BC (xL (j WP s ZB H _ W1 h) λv A ⟨x,H1,f,q,n⟩=>xL (l WP A ZB H1 _ f n) λu C ⟨y,H2,g,t,o⟩=>
 xL (m WP C ZB H2 x y v u _ g q t o) λc D ⟨z,d,i,w,k,e,p⟩=>?_) hm
subst e;cases w;exact iF ⟨d,i,p⟩)
def pM (r f:R2) (ta tb tc:TE):TE:=λZB H Q=>ta ZB H λx H1=>tb ZB H1 λy H2=>r x y H2 λz d=>∃k,z=.bl k/\
 (if k=true then tc ZB d λg e=>f y g e Q else Q (.bl false) d)
theorem oX {op f:iL}{r l:R2}(C:bE X (dD op) r) (D:bE X (dD f) l) (t:PE X a ta) (w:PE X b tb) (A:PE X c tc)
  (hm:lastMarks [op,f] [b,c]=false:=by with_unfolding_all rfl):PE X (.Compare a [op,f] [b,c] pos) (pM r l ta tb tc):=by(
intro WP s ZB H Q W1 h;refine Compare_chain (xL (t WP s ZB H _ W1 h) λv Y ⟨x,H1,o,N,E⟩=>chain_link (xL (w WP Y ZB H1 _ o E) λu Nj ⟨y,H2,p,m,J⟩=>
 xL (C WP Nj ZB H2 x y v u _ p N m J) λd Nk ⟨z,g,i,T,k,e,j⟩=>?_)) hm
subst e;cases T;refine iF ?_;cases k with
|false=>exact ite_ff ⟨.bl false,g,i,O,j⟩
|true=>exact ite_tt (chain_last (xL (A WP Nk ZB g _ i j) λNm Nl ⟨Nn,n,q,U,L⟩=>D WP Nl ZB n y Nn u Nm Q q m U L)))
theorem jx {op f:iL}{r l:R2}(L:bE X (dD op) r) (N:bE X (dD f) l) (D:PE X a ta) (E:PE X b tb) (J:PE X c tc)
  (hm:lastMarks [op,f] [b,c]=false:=by with_unfolding_all rfl):PT X (.Compare a [op,f] [b,c] pos) (pS (pM r l ta tb tc)):=by(
intro WP s ZB H Q W1 h;refine isTrue_chain (xL (D WP s ZB H _ W1 h) λv Nq ⟨x,H1,p,Nl,U⟩=>test_link (xL (E WP Nq ZB H1 _ p U) λu Nr ⟨y,H2,q,m,Y⟩=>
 xL (L WP Nr ZB H2 x y v u _ q Nl m Y) λd Nu ⟨z,g,i,Nm,k,e,j⟩=>?_)) hm
subst e;cases Nm;refine iF ?_;cases k with
|false=>
 obtain⟨Ny,A,T⟩:=j;cases A;exact ite_ff ⟨g,i,T⟩
|true=>
 refine ite_tt (test_last (xL (J WP Nu ZB g _ i j) λNw Nv ⟨Nx,n,t,Nn,Nj⟩=>xL (N WP Nv ZB n y Nx u Nw _ t m Nn Nj) λd' NA ⟨NC,o,w,Np,Nz,C,Nk⟩=>?_));subst C;cases Np;exact iF ⟨o,w,Nk⟩)
theorem oC:(Is:Nat)<2^63:=by rw[hD];decide
theorem vals1 {x:XV}{us:List Wp}(r:wP [x] us):∃u,us=[u]/\RelV x u:=by(
cases r with
|cons d e=>cases e;exact⟨_,O,d⟩)
theorem vals2 {x y:XV}{us:List Wp}(r:wP [x,y] us):∃u d,us=[u,d]/\RelV x u/\RelV y d:=by(
cases r with
|cons e f=>
 cases f with
 |cons g h=>cases h;exact⟨_,_,O,e,g⟩)
theorem xS (e:X.calm=true):gV X (.builtin "min") (λxs H Q=>∃i j,xs=[.int i,.int j]/\Q (.int (if j<i then j else i)) H):=by(
intro WP s ZB H xs us Q W1 r h;obtain⟨i,j,rfl,q⟩:=h;obtain⟨u,f,rfl,⟨t,rfl⟩,⟨t',rfl⟩⟩:=vals2 r;refine min_two_ints (W1.ok.hd e) λh' tk k=>⟨_,H,W1.kept k,?_,q⟩;by_cases d:j<i
·rw[No d,No d];exact⟨_,O⟩
·rw[Ps d,Ps d];exact⟨_,O⟩)
end
structure i8 (h:wn) (x dx C:B) (mA:Str->Option Wp):Prop where
 obj:h.get? x=some (iO C dx)
 ns:h.Ns1 dx mA
 ne:dx≠x
theorem Hf {h:wn}{dx:B}{mA:Str->Option Wp}(n:h.Ns1 dx mA):∃b,h.get? dx=some b/\∀name,qz name b=some (mA name):=by(
obtain⟨o,es,ep,g,hd,d,_,hm⟩:=n;refine⟨o,g,λname=>?_⟩;have e:=hm name;unfold nsFind findBy at e;rw[<- Array.find?_toList]at e;unfold qz;rw[hd];dsimp only;split
·rename_i y q;rw[q]at e;exact cB some e
·rename_i q;rw[q]at e;have a:es.toList.any (·.refKey)=false:=by
  rw[List.any_eq_false];intro y i;obtain⟨z,t,f⟩:=d y (lr.mp i);simp[DictEntry.refKey,f]
 have c:¬es.toList.any (·.refKey)=true:=by rw[a];exact b2
 rw[Ps c];exact cB some e)
theorem i8.look {h:wn}{x dx C:B}{mA:Str->Option Wp}(W1:i8 h x dx C mA):∃a,MB h x (iO C dx) C (some a)/\∀name,qz name a=some (mA name):=
 let ⟨a,c,b⟩:=Hf W1.ns
 ⟨a,⟨W1.obj,O,O,c⟩,b⟩
section
variable {prog:pu}{w:rs}{A:cs}{E:Wp->Rs->Prop}{s:Rs}{K:xz}{x dx C f:B}{mA:Str->Option Wp}{name:Str}{v:Wp}
theorem FO {a:Bool}{Q:Wp->Rs->Prop}(X:K.In s.heap) (W1:i8 s.heap x dx C mA) (hg:mZ K C name=true) (c:qy K C=true)
  (b:fA K (.ref C) name=some none) (hv:mA name=some v) (e:Ci v=true) (h:Q v {s with toks:=s.toks+1}):
  wpAny (Do prog w) A (vS (.ref x) name a) Q E s:=by
 obtain⟨g,J,d⟩:=W1.look;exact Mo X J (v3 hg).1 (Mg c b rfl (by rw[d,hv])) e h
theorem FP {pl:Sem Bool}{Q:Wp×List Wp->Rs->Prop}(X:K.In s.heap) (W1:i8 s.heap x dx C mA) (hg:mZ K C name=true)
  (hf:fA K (.ref C) name=some (some (.ref f))) (b:m4 K (.ref f)=true) (hv:mA name=none) (h:Q (.ref f,[.ref x]) s):
  wpAny (Do prog w) A (qr (.ref x) name pl) Q E s:=by
 obtain⟨c,J,a⟩:=W1.look;exact Mp X J (v3 hg).1 (v3 hg).2 hf (f5.mp b) (by show(qz name c).map (·.isSome)=some false;rw[a,hv];rfl) h
theorem K7 {ns:List Str}{Q:Unit->Rs->Prop}(X:K.In s.heap) (W1:i8 s.heap x dx C mA)
  (n:fA K (.ref C) "__setattr__"=some (some (.builtin "object.__setattr__"))) (m:v8 K C=true) (o:v9 K C name=some none) (k:qy K C=true)
  (hw:vD mA ns) (hsz:ns.length<=Is)
  (h:∀h',i8 h' x dx C (λy=>if y=name then some v else mA y)->k_ dx s.heap h'->Q () {s with heap:=h',toks:=s.toks+2}):
  wpAny (Do prog w) A (setAttr (.ref x) name v) Q E s:=by
 obtain⟨H,J,z⟩:=W1.look;refine Mq X J n (Mu (s:= {s with toks:=s.toks+1}) (r:=none) X J m o λb=>?_);obtain⟨q,e,i⟩:=Mv k;have p:s.heap.get? x=some ⟨.ref C,some dx,.plain,#[]⟩:=W1.obj;refine IR (t3 (IR (IR (wpAny_loadPart p (IR (PySem.W.Looks.here (s:= {s with toks:=s.toks+1}) (Mh X e) ?_))))));rw[i];refine t3 (a:=some dx) (IR (t3 (IR ?_)));refine wpAny_nsSet1 (s:= {s with toks:=s.toks+1}) W1.ns λh' c d=>?_;obtain⟨D,u,t,l,j,g⟩:=c.count (PySem.Within.cons name v hw);refine IR (wpAny_lookBehind l (by rw[j];exact pastItsLine_dict (dg g (by rw[bh];omega))) ?_);exact t3 (h _ ⟨(d.2 _ (Ne.symm W1.ne)).trans W1.obj,c,W1.ne⟩ d)
theorem Hi {R:mX->Rs->Prop}{vs:List Wp}{a:List (Str×Wp)}(X:K.In s.heap) (hm:v_ K C=true)
  (hi:fA K (.ref C) "__init__"=some (some (.ref f))) (hf:MC K (.ref f)=some (.type "function"))
  (h:codeAny (Do prog w) (A.under (.builtin "type.__call__" ⟨.ref C::vs,a⟩)) (.call (.ref f) ⟨.ref (s.heap.objs.size+1)::vs,a⟩) (Mw (s.heap.objs.size+1) R)
   {s with heap:=(s.heap.push hI).push (iO C s.heap.objs.size)}):
  codeAny (Do prog w) A (.call (.ref C) ⟨vs,a⟩) R s:=by
 obtain⟨b,g,d,t,os⟩:=s;exact Mr (Mx X hm) (Me X hi) (λself=>MA X self hf) (.inl rfl) h
end
def rc (f:Str) (v:XV):List (Str×XV)->List (Str×XV)
 |[]=>[(f,v)]
 |(g,x)::r=>if g=f then(g,v)::r else(g,x)::rc f v r
theorem y0 (f g:Str) (v:XV):∀fs:List (Str×XV),(rc f v fs).lookup g=if g=f then some v else fs.lookup g
 |[]=>by
  show i0 g [(f,v)]=_;by_cases h:g=f
  ·have a:(g==f)=true:=f5.mpr h;simp only[i0,a,No h]
  ·have a:(g==f)=false:=lC.mpr h;simp only[i0,a,Ps h]
 |(k,x)::r=>by
  have c:=y0 f g v r;rw[show rc f v ((k,x)::r)=(if k=f then(k,v)::r else(k,x)::rc f v r) from rfl];by_cases b:k=f
  ·rw[No b];by_cases h:g=k
   ·have a:(g==k)=true:=f5.mpr h;simp only[i0,a,No (h.trans b)]
   ·have a:(g==k)=false:=lC.mpr h;simp only[i0,a,Ps (λe:g=f=>h (e.trans b.symm))]
  ·rw[Ps b];by_cases h:g=k
   ·have a:(g==k)=true:=f5.mpr h;simp only[i0,a,Ps (λe:g=f=>b (h.symm.trans e))]
   ·have a:(g==k)=false:=lC.mpr h;simp only[i0,a];exact c
theorem r9 (f:Str) (v:XV):∀fs:List (Str×XV),f∈(rc f v fs).map (·.1)/\∀g,g∈fs.map (·.1)->g∈(rc f v fs).map (·.1)
 |[]=>⟨by simp[rc],λg h=>by simp at h⟩
 |(k,x)::r=>by
  obtain⟨b,c⟩:=r9 f v r;rw[show rc f v ((k,x)::r)=(if k=f then(k,v)::r else(k,x)::rc f v r) from rfl];by_cases a:k=f
  ·rw[No a];subst a;exact⟨by simp,λg h=>by simpa using h⟩
  ·rw[Ps a];refine⟨?_,λg h=>?_⟩
   ·rw[na];exact on _ b
   ·rw[na]at h⊢;rcases s1.mp h with e|e
    ·exact s1.mpr (.inl e)
    ·exact on _ (c g e)
theorem yT (f:Str) (v:XV):∀fs:List (Str×XV),(rc f v fs).length<=fs.length+1
 |[]=>by simp[rc]
 |(k,x)::r=>by
  have b:=yT f v r;rw[show rc f v ((k,x)::r)=(if k=f then(k,v)::r else(k,x)::rc f v r) from rfl];by_cases a:k=f
  ·rw[No a,bh,bh];omega
  ·rw[Ps a,bh,bh];omega
theorem cZ.some_of {v:XV}{o:Option Wp}(r:cZ (some v) o):∃u,o=some u/\RelV v u:=by(
cases o with
|none=>exact(show False from r).elim
|some u=>exact⟨u,O,r⟩)
theorem cZ.none_of {o:Option Wp}(r:cZ none o):o=none:=by(
cases o with
|none=>rfl
|some u=>exact(show False from r).elim)
theorem FW {v:XV}{u:Wp}(r:RelV v u):Ci u=true:=by(
cases v with
|ak=>cases(show u=Value.none from r);rfl
|bl b=>cases(show u=qK b from r);rfl
|int i=>obtain⟨t,e⟩:=(show ∃t,u=hN i t from r);cases e;rfl
|str x=>obtain⟨t,e⟩:=(show ∃t,u=Value.str x t from r);cases e;rfl
|e_ b=>obtain⟨t,e⟩:=(show ∃t,u=CF b t from r);cases e;rfl
|oq b=>obtain⟨t,e⟩:=(show ∃t,u=CH b t from r);cases e;rfl
|ref a=>cases(show u=f8 a from r);rfl
|ty n=>cases(show u=CI n from r);rfl)
section
variable {P:pu}{w:rs}{H V:Hp}{h h':wn}{a C dx:B}{fs kn:List (Str×XV)}
theorem r4 (ag:aQ P w H h) (e:H a=some (.ins C dx fs)):∃mA,i8 h a dx C mA/\(∀f,cZ (fs.lookup f) (mA f))/\vD mA (fs.map (·.1))/\fs.length<=1000/\H dx=some (.own a):=by
 obtain⟨d,z,ne,ob,mA,n,r,q⟩:=(show bq P w H h a (.ins C dx fs) from ag a _ e);exact⟨mA,⟨ob,n,ne⟩,r,q,z,d⟩
end
structure cp (K:xz) (C:B):Prop where
 pg:mZ K C Dk=true
 hd:qy K C=true
 po:v8 K C=true
 sa:fA K (.ref C) "__setattr__"=some (some (.builtin "object.__setattr__"))
theorem cp.get {K:xz}{C:B}(c:cp K C) (f:Str):mZ K C f=true:=c.pg
def ao (K:xz) (C:B) (f:Str):Prop:=fA K (.ref C) f=some none
theorem ao.Lz {K:xz}{C:B}{f:Str}(n:ao K C f):v9 K C f=some none:=by
 unfold v9;rw[show fA K (.ref C) f=some none from n];rfl
structure b3 (K:xz) (C:B) (m:Str) (f:B):Prop where
 at_:fA K (.ref C) m=some (some (.ref f))
 fn:m4 K (.ref f)=true
 kp:cL K (.ref f)=true
section
variable {X:Cx}{WP:List (B×Obj)}{ZB:St}{H:Hp}{s:Rs}{a C dx:B}{fs:List (Str×XV)}{f:Str}{v:XV}{A:cs}{E:Wp->Rs->Prop}
theorem yv {b:Bool}{Q:Wp->Rs->Prop}(W1:Inv X WP ZB H s) (e:H a=some (.ins C dx fs)) (c:cp X.K C) (n:ao X.K C f) (l:fs.lookup f=some v)
  (h:∀u s',Inv X WP ZB H s'->RelV v u->Q u s'):wpAny (Do X.prog X.w) A (vS (.ref a) f b) Q E s:=by
 obtain⟨mA,cq,r,_,_,_⟩:=r4 W1.ag e;obtain⟨u,hu,d⟩:=cZ.some_of (v:=v) (o:=mA f) (by rw[<- l];exact r f);exact FO W1.dM cq (c.get f) c.hd n hu (FW d) (h u _ (W1.tok _) d)
theorem yw {m:Str}{g:B}{pl:Sem Bool}{Q:Wp×List Wp->Rs->Prop}(W1:Inv X WP ZB H s) (e:H a=some (.ins C dx fs)) (c:cp X.K C) (k:b3 X.K C m g) (l:fs.lookup m=none)
  (h:Q (.ref g,[.ref a]) s):wpAny (Do X.prog X.w) A (qr (.ref a) m pl) Q E s:=by
 obtain⟨mA,cq,r,_,_,_⟩:=r4 W1.ag e;have hn:mA m=none:=cZ.none_of (by rw[<- l];exact r m);exact FP W1.dM cq (c.get m) k.at_ k.fn hn h
theorem Ac {y:XV}{u:Wp}{Q:Unit->Rs->Prop}(W1:Inv X WP ZB H s) (e:H a=some (.ins C dx fs)) (c:cp X.K C) (n:ao X.K C f) (t:fs.length<1000) (m:RelV y u)
  (h:∀s',Inv X WP ZB (T0 H a (.ins C dx (rc f y fs))) s'->Q () s'):wpAny (Do X.prog X.w) A (setAttr (.ref a) f u) Q E s:=by(
obtain⟨mA,cq,r,j,_,i⟩:=r4 W1.ag e;have hz:(fs.map (·.1)).length<=Is:=by rw[FS,hD];omega
refine K7 W1.dM cq c.sa c.po n.Lz c.hd j hz λh' d p=>h _ ?_;have hd:∃o,h'.get? dx=some o:=let ⟨o,_,_,k,_⟩:=d.ns;⟨o,k⟩;refine W1.write (x:=a) (e:=dx) (by rw[e];exact True.intro) (.inr i) (λb q l z=>(p.2 b l).trans z) hd ?_;refine⟨by rw[Uf cq.ne];exact i,?_,cq.ne,d.obj,_,d.ns,λg=>?_,λg hg=>?_⟩
·have:=yT f y fs;omega
·show cZ ((rc f y fs).lookup g) (if g=f then some u else mA g);rw[y0];by_cases q:g=f
 ·rw[No q,No q];exact m
 ·rw[Ps q,Ps q];exact r g
·by_cases q:g=f
 ·rw[q];exact(r9 f y fs).1
 ·refine(r9 f y fs).2 g (j g λz=>hg ?_);show(if g=f then some u else mA g)=none;rw[Ps q];exact z)
theorem Inv.made (W1:Inv X WP ZB H s):Inv X WP ZB (T0 (T0 H s.heap.objs.size (.own (s.heap.objs.size+1))) (s.heap.objs.size+1) (.ins C s.heap.objs.size []))
  {s with heap:=(s.heap.push hI).push (iO C s.heap.objs.size)}:=by(
have c:(s.heap.push hI).get? s.heap.objs.size=some hI:=a9 s.heap rfl;have g:((s.heap.push hI).push (iO C s.heap.objs.size)).get? (s.heap.objs.size+1)=some (iO C s.heap.objs.size):=by
 have:=a9 (s.heap.push hI) (o:=iO C s.heap.objs.size) rfl
 rwa [cK]at this
have h:(s.heap.push hI).Ns s.heap.objs.size (λ_=>none):=⟨hI,#[],_,c,O,(λe i=>absurd i (by simp)),λ_=>rfl⟩;have d:=W1.laid (a:=s.heap.objs.size) (o:=.own (s.heap.objs.size+1)) (h':=s.heap.push hI) (t':=s.toks) (λb u q=>ls _ q) (t1 _) ⟨_,c⟩;refine d.laid (a:=s.heap.objs.size+1) (o:=.ins C s.heap.objs.size []) (t':=s.toks) (λb u q=>ls _ q) (jU (cK _ _)) ?_;have ne:s.heap.objs.size≠s.heap.objs.size+1:=b1 (qC _);refine⟨by rw[Uf ne,KE],g1 _,ne,g,λ_=>none,(Heap.Ns1.of_empty h).at λo q=>ls _ q,λ_=>True.intro,λy j=>absurd rfl j⟩)
theorem D9 {prog:pu}{w:rs}{env:Env}{e:ws}{f:Str}{pos:Pos}{s:Rs}{Q:Wp->Rs->Prop}(b:mS e f env (eval e env)=eval e env)
  (h:wpAny (Do prog w) A (eval e env) (λo c=>wpAny (Do prog w) A (vS o f true) Q E c) E s):wpAny (Do prog w) A (eval (.Attribute e f pos) env) Q E s:=
 Attribute_any_ h (by rw[arm_eval_Attribute,b])
end
def pO (K:xz) (ta:TE) (f:Str):TE:=λZB H Q=>ta ZB H λx H1=>∃a C dx fs v,x=.ref a/\H1 a=some (.ins C dx fs)/\cp K C/\ao K C f/\fs.lookup f=some v/\Q v H1
def z4 (K:xz) (ta tv:TE) (f:Str):TS:=λD ZB H=>tv ZB H λy H1=>ta ZB H1 λx H2=>∃a C dx fs,x=.ref a/\H2 a=some (.ins C dx fs)/\cp K C/\ao K C f/\fs.length<1000/\
 D.nx ZB (T0 H2 a (.ins C dx (rc f y fs)))
def xc (X:Cx) (op:mV) (a:XV->XV->Hp->VK->Prop):Prop:=
 ∀(WP:List (B×Obj)) (s:Rs) (ZB:St) (H:Hp) (x y:XV) (u v:Wp) (Q:VK),Inv X WP ZB H s->RelV x u->RelV y v->a x y H Q->wpAny (Do X.prog X.w) X.A (vL op u v) (EP X WP ZB Q) X.xe s
def Kt (K:xz) (ta tv:TE) (d:XV->XV->Hp->VK->Prop) (f:Str):TS:=λD ZB H=>ta ZB H λx H1=>∃a C dx fs v,x=.ref a/\H1 a=some (.ins C dx fs)/\cp K C/\ao K C f/\fs.lookup f=some v/\
 tv ZB H1 λy H2=>d v y H2 λz b=>∃c kn,b a=some (.ins C c kn)/\kn.length<1000/\D.nx ZB (T0 b a (.ins C c (rc f z kn)))
section
variable {X:Cx}{o e dB:ws}{f:Str}{pos fk k2:Pos}{ta tv:TE}
theorem zn (j:PE X e ta) (i:mS e f X.env (eval e X.env)=eval e X.env):PE X (.Attribute e f pos) (pO X.K ta f):=by
 intro WP s ZB H Q W1 h;refine D9 i (xL (j WP s ZB H _ W1 h) λu p ⟨x,H1,b,m,a,C,dx,fs,v,ex,g,c,n,l,q⟩=>?_);subst ex;obtain rfl:u=f8 a:=m;exact yv b g c n l λt r d k=>⟨v,H1,d,k,q⟩
theorem bf (j:PE X o ta) (hv:PE X dB tv) (k:mU dB (some (.Attribute o f fk)) pos.line X.env=pure false):PS X (.Assign [.Attribute o f fk] dB pos) (z4 X.K ta tv f):=by
 intro WP s ZB H D W1 h;refine plainObj_wpAny_Assign_Attribute (xL (hv WP s ZB H _ W1 h) λu t ⟨y,H1,b,r,q⟩=>xL (j WP t ZB H1 _ b q) λov w ⟨x,H2,d,p,a,C,dx,fs,ex,i,c,n,l,m⟩=>?_) k;subst ex;obtain rfl:ov=f8 a:=p;exact Ac d i c n l r λz g=>⟨ZB,_,g,m⟩
theorem JJ {op:mV}{b:XV->XV->Hp->VK->Prop}(r:PE X o ta) (hv:PE X dB tv) (t:xc X op b):PS X (.AugAssign (.Attribute o f k2) op dB pos) (Kt X.K ta tv b f):=by
 intro WP s ZB H D W1 h;refine wpAny_AugAssign_AttributeAny (xL (r WP s ZB H _ W1 h) λov Nk ⟨x,H1,d,J,a,C,dx,fs,v,ex,m,c,n,l,q⟩=>?_);subst ex;obtain rfl:ov=f8 a:=J;refine yv d m c n l λu Q g E=>xL (hv WP Q ZB H1 _ g q) λU T ⟨y,H2,i,L,w⟩=>xL (t WP T ZB H2 v y u U _ i E L w) λNn Nl ⟨z,Y,j,N,Nj,kn,p,l',A⟩=>?_;exact Ac j p c n l' N λNm k=>⟨ZB,_,k,A⟩
def JV:XV->XV->Hp->VK->Prop:=λx y H Q=>∃i j,x=.int i/\y=.int j/\Q (.int (i+j)) H
theorem F5:xc X .Add JV:=by
 rintro WP s ZB H x y u v Q W1 a b ⟨i,j,rfl,rfl,q⟩;obtain⟨t,rfl⟩:=(show ∃t,u=hN i t from a);obtain⟨t',rfl⟩:=(show ∃t',v=hN j t' from b);exact C0 ⟨.int (i+j),H,W1.tok _,⟨_,O⟩,q⟩
end
structure bF (k:Nat) (A:cs):Prop where
 hd:A.handled=none
 dp:A.depth+3*k+5<BR
 un:A.units+16*k+200<cJ
theorem bF.mono {j k:Nat}{A:cs}(r:bF k A) (h:j<=k:=by decide):bF j A:=⟨r.hd,by have:=r.dp;omega,by have:=r.un;omega⟩
theorem bF.deeper {k:Nat}{A:cs}(r:bF (k+1) A) (env:Env):bF k (A.deeper env):=
 ⟨r.hd,by have:=r.dp;show A.depth+1+3*k+5<_;omega,by have:=r.un;show A.units+3+16*k+200<_;omega⟩
theorem Hh {A:cs}{C:B}{us:List Wp}{a:List (Str×Wp)}:(A.under (.builtin "type.__call__" ⟨.ref C::us,a⟩)).depth=A.depth+1:=by
 first|rfl|simp[wW,Code.weight,Code.isCreation,Code.isGuard,Code.isCaller,Code.frames,Code.isFrame,guardIds]
theorem Hj {A:cs}{C:B}{us:List Wp}{a:List (Str×Wp)}:(A.under (.builtin "type.__call__" ⟨.ref C::us,a⟩)).units=A.units+1:=by
 first|rfl|simp[wW,Code.cUnits,Code.frames,Code.isFrame]
theorem bF.make {k:Nat}{A:cs}(r:bF (k+1) A) (C:B) (us:List Wp) (a:List (Str×Wp)):bF k (A.under (.builtin "type.__call__" ⟨.ref C::us,a⟩)):=
 ⟨r.hd,by have:=r.dp;rw[Hh];omega,by have:=r.un;rw[Hj];omega⟩
theorem bF.depth {k:Nat}{A:cs}(r:bF k A):A.depth<BR:=by have:=r.dp;omega
theorem bF.units {k:Nat}{A:cs}(r:bF k A):A.units+64<cJ:=by have:=r.un;omega
def jE:TA:=λ_ H Q=>Q [] H
def pN (ta:TE) (tr:TA):TA:=λZB H Q=>ta ZB H λx H1=>tr ZB H1 λxs H2=>Q (x::xs) H2
section
variable {X:Cx}{e:ws}{es:List ws}{te:TE}{t:TA}{pos:Pos}
theorem PP:PA X [] jE:=λ_ _ _ _ H Q W1 h=>Dh ⟨[],H,W1,.nil,h⟩
theorem WF (c:PE X e te) (hr:PA X es t) (d:bi (e::es) X.env=(false,eval e X.env)::bi es X.env:=by rfl):PA X (e::es) (pN te t):=by
 intro pos WP s ZB H Q W1 h;rw[d];show wpAny _ _ (spliced ((false,eval e X.env)::dX pos (bi es X.env))) _ _ s;refine wR (xL (c WP s ZB H _ W1 h) λu k ⟨x,H1,a,i,f⟩=>?_);exact xL (hr pos WP k ZB H1 _ a f) λus l ⟨xs,H2,b,j,g⟩=>⟨x::xs,H2,b,.cons i j,g⟩
def Lv (t:TA):TE:=λZB H Q=>t ZB H λxs H1=>xs.length<=Is/\∀p,H1 p=none->Q (.ref p) (T0 H1 p (.tup xs))
def uV (t:TA):TE:=λZB H Q=>t ZB H λxs H1=>xs.length<=Is/\∀p,H1 p=none->Q (.ref p) (T0 H1 p (.lst xs))
theorem bP {f} (h:PA X es t):PE X (.Tuple es f pos) (Lv t):=by
 intro WP s ZB H Q W1 d;refine wpAny_Tuple_spliced (xL (h pos WP s ZB H _ W1 d) λus a ⟨xs,H1,c,r,z,q⟩=>⟨by rw[<- r.length];exact z,?_⟩);have hf:H1 a.heap.objs.size=none:=c.ag.fresh (t1 _);refine⟨.ref a.heap.objs.size,T0 H1 a.heap.objs.size (.tup xs),c.laid (t':=a.toks) (λb u e=>ls _ e) (t1 _) ?_,O,q _ hf⟩;exact⟨z,us,r,⟨_,a9 _ rfl,O,_,O⟩⟩
theorem f2 (h:PA X es t):PE X (.List es pos) (uV t):=by
 intro WP s ZB H Q W1 d;refine wpAny_List_spliced (xL (h pos WP s ZB H _ W1 d) λus a ⟨xs,H1,c,r,z,q⟩=>⟨by rw[<- r.length];exact z,?_⟩);have hf:H1 a.heap.objs.size=none:=c.ag.fresh (t1 _);refine⟨.ref a.heap.objs.size,T0 H1 a.heap.objs.size (.lst xs),c.laid (t':=a.toks) (λb u e=>ls _ e) (t1 _) ?_,O,q _ hf⟩;exact⟨z,us,0,r,a9 _ rfl⟩
end
abbrev Sp:=List XV->Hp->VK->XK->Prop
abbrev hV:=List Env->Hp->Rs->XK->Wp->Rs->Prop
structure i2 (P:pu) (w:rs) (K:xz) (mg:Str->Option Wp) (base:wn) (A:cs) (outer:List Env) (s:Rs) (H:Hp):Prop where
 frames:A.frames=some outer
 mod:Mod K mg base
 bs:∀b o,base.get? b=some o->s.heap.get? b=some o/\H b=none
 g8:base.objs.size<=s.heap.objs.size
 fc:s.heap.FunFrames base outer
 jj:∀b∈fS outer,H b=none
 ag:aQ P w H s.heap
 bare:iS s.gens
def CE (outer:List Env) (P:pu) (w:rs) (H:Hp) (s:Rs) (Q:VK) (u:Wp) (s':Rs):Prop:=
 ∃v V,s'.os=s.os/\iS s'.gens/\Un (fS outer) [] H V s.heap s'.heap/\aQ P w V s'.heap/\RelV v u/\Q v V
def CR (CX:hV) (outer:List Env) (P:pu) (w:rs) (H:Hp) (s:Rs) (Q:VK) (E:XK) (r:mX) (s':Rs):Prop:=
 match r with
 |.ok (.ret u)=>CE outer P w H s Q u s'
 |.ok _=>False
 |.error e=>CX outer H s E e s'
structure Db (P:pu) (w:rs) (K:xz) (mg:Str->Option Wp) (base:wn) (CX:hV) (k:Nat) (f:B) (fd:sc) (ps:List Str) (sp:Sp):Prop where
 len:∀vs H Q E,sp vs H Q E->vs.length=ps.length
 run:∀(A:cs) (outer:List Env) (s:Rs) (H:Hp) (args:Args) (us:List Wp) (vs:List XV) (Q:VK) (E:XK),bF k A->i2 P w K mg base A outer s H->mW s fd args (ps.zip us)->wP vs us->sp vs H Q E->
  codeAny (Do P w) A (.call (.ref f) args) (CR CX outer P w H s Q E) s
theorem i2.make {P:pu}{w:rs}{K:xz}{mg:Str->Option Wp}{base:wn}{A:cs}{outer:List Env}{s:Rs}{H:Hp}(e:i2 P w K mg base A outer s H) (C:B) (us:List Wp) (a:List (Str×Wp)):
  i2 P w K mg base (A.under (.builtin "type.__call__" ⟨.ref C::us,a⟩)) outer s H:=⟨by first|exact e.frames|(simpa [wW,Code.envs,Code.isFrame,pushEnvs]using e.frames),e.mod,e.bs,e.g8,e.fc,e.jj,e.ag,e.bare⟩
section
variable {X:Cx}{WP:List (B×Obj)}{ZB:St}{H:Hp}{s s':Rs}
theorem Inv.ye (W1:Inv X WP ZB H s):i2 X.prog X.w X.K X.mg X.base X.A X.stack s H:=
 ⟨W1.ok.frames,W1.ok.mod,W1.bs,dg W1.ok.g8 W1.sz,W1.stack,W1.Am,W1.ag,W1.bare⟩
theorem Inv.after {Q:VK}{u:Wp}(W1:Inv X WP ZB H s) (h:CE X.stack X.prog X.w H s Q u s'):EP X WP ZB Q u s':=by
 obtain⟨v,V,os,bare,un,ag,r,q⟩:=h;obtain⟨a,g,d,t,c⟩:=s';obtain rfl:c=s.os:=os;exact⟨v,V,W1.call (h':=a) (g':=g) (d':=d) (t':=t) (ch:=[]) un ag bare (λb z=>absurd z (by simp)),r,q⟩
end
def Lk (sp:Sp) (b4:List XV) (E:XK) (t:TA):TE:=λZB H Q=>t ZB H λvs H1=>sp (vs++b4) H1 Q E
def uW (C:B) (m:Str) (sp:Sp) (b4:List XV) (E:XK) (ta:TE) (t:TA):TE:=λZB H Q=>ta ZB H λx H1=>∃a dx fs,x=.ref a/\H1 a=some (.ins C dx fs)/\fs.lookup m=none/\
 t ZB H1 λvs H2=>sp (x::(vs++b4)) H2 Q E
def Av (C:B) (sp:Sp) (b4:List XV) (E:XK) (t:TA):TE:=λZB H Q=>t ZB H λvs H1=>∀x dx,H1 x=none->H1 dx=none->dx≠x->
 sp (.ref x::(vs++b4)) (T0 (T0 H1 dx (.own x)) x (.ins C dx [])) (λv H2=>v=.ak/\Q (.ref x) H2) E
def Binds (K:xz) (fd:sc) (ps:List Str) (ds:List Wp):Prop:=
 ∀(s:Rs) (us:List Wp),K.In s.heap->(us++ds).length=ps.length->mW s fd ⟨us,[]⟩ (ps.zip (us++ds))
theorem Binds.all {K:xz}{fd:sc}{ps:List Str}(h:∀us:List Wp,us.length=ps.length->vO fd ⟨us,[]⟩=pure (ps.zip us)):Binds K fd ps []:=λs us _ a=>by
 rw[e4]at a⊢;exact .of_eq (h us a)
def h3 (CX:hV) (X:Cx) (E:XK):Prop:=∀(WP:List (B×Obj)) (ZB:St) (H:Hp) (s:Rs) (e:Wp) (s':Rs),Inv X WP ZB H s->CX X.stack H s E e s'->X.xe e s'
section
variable {X:Cx}{CX:hV}{k:Nat}{f C:B}{fd:sc}{ps:List Str}{sp:Sp}{b4:List XV}{ds:List Wp}{E:XK}{x m:Str}{p pos dh:Pos}{e o:ws}{es:List ws}{ta:TE}{t:TA}
theorem s6 {WP:List (B×Obj)}{ZB:St}{H:Hp}{s:Rs}{Q:VK}{us:List Wp}{vs:List XV}(F:Db X.prog X.w X.K X.mg X.base CX k f fd ps sp) (hr:bF k X.A) (c:Binds X.K fd ps ds) (hd:wP b4 ds) (g:h3 CX X E)
  (W1:Inv X WP ZB H s) (r:wP vs us) (h:sp (vs++b4) H Q E):wpAny (Do X.prog X.w) X.A (call (.ref f) us) (EP X WP ZB Q) X.xe s:=by(
have b:wP (vs++b4) (us++ds):=r.append hd;have d:(us++ds).length=ps.length:=by rw[<- b.length];exact F.len _ _ _ _ h
refine B_ (qm (F.run X.A X.stack s H ⟨us,[]⟩ (us++ds) (vs++b4) Q E hr W1.ye (c s us W1.dM d) b h) λr s' a=>?_);cases r with
|error e=>exact g WP ZB H s e s' W1 a
|ok fl=>
 cases fl with
 |ret u=>exact W1.after a
 |next=>exact d3 a
 |brk=>exact d3 a
 |cont=>exact d3 a)
theorem ii (F:Db X.prog X.w X.K X.mg X.base CX k f fd ps sp) (hr:bF k X.A) (hg:Gl X x) (hm:X.mg x=some (.ref f)) (i:cL X.K (.ref f)=true) (c:Binds X.K fd ps ds) (hd:wP b4 ds) (l:h3 CX X E)
  (b:PA X (e::es) t) (d:(x==("__debug__":Str))=false:=by decide) (g:bi (e::es) X.env=(false,eval e X.env)::bi es X.env:=by rfl) (j:(dX pos (bi es X.env)).any (·.1)=false:=by rfl):
  PE X (.Call (.Name x p) (e::es) [] pos) (Lk sp b4 E t):=by
 intro WP s ZB H Q W1 h;refine mN (l8 W1 hg hm ?_ d);refine v5 (h₀:=X.base) W1.ok.mod.l6 i (xL (b pos WP s ZB H _ W1 h) λus n ⟨vs,H1,a,r,q⟩=>⟨a.dM,?_⟩) g j;exact s6 F hr c hd l a r q
theorem an {pl:Sem Bool}(n:PE X o ta) (c:cp X.K C) (hm:b3 X.K C m f) (F:Db X.prog X.w X.K X.mg X.base CX k f fd ps sp) (hr:bF k X.A) (j:Binds X.K fd ps ds) (hd:wP b4 ds) (J:h3 CX X E) (i:PA X (e::es) t)
  (z:bi (e::es) X.env=(false,eval e X.env)::bi es X.env:=by rfl) (y:(dX pos (bi es X.env)).any (·.1)=false:=by rfl)
  (D:eval (.Call (.Attribute o m dh) (e::es) [] pos) X.env=(do
   let ov <-eval o X.env
   qu dh.atName
   let (f,first) <-jP [ov] (qr ov m pl)
   callWith pos f first (dX pos (bi (e::es) X.env)) (qt pos (qo [] X.env))):=by rfl):
  PE X (.Call (.Attribute o m dh) (e::es) [] pos) (uW C m sp b4 E ta t):=by
 intro WP s ZB H Q W1 h;refine Cf (pl:=pl) (xL (n WP s ZB H _ W1 h) λu T ⟨x,H1,b,N,a,dx,fs,ex,g,l,q⟩=>?_) D;subst ex;obtain rfl:u=f8 a:=N;refine yw b g c hm l ?_;refine v5 (first:=[.ref a]) (h₀:=X.base) W1.ok.mod.l6 hm.kp (xL (i pos WP T ZB H1 _ b q) λus U ⟨vs,H2,d,r,L⟩=>⟨d.dM,?_⟩) z y;exact s6 (us:=.ref a::us) (vs:=.ref a::vs) F hr j hd J d (.cons rfl r) L
theorem kH {pl:Sem Bool}(i:PE X o ta) (c:cp X.K C) (hm:b3 X.K C m f) (F:Db X.prog X.w X.K X.mg X.base CX k f fd ps sp) (hr:bF k X.A) (g:Binds X.K fd ps ds) (hd:wP b4 ds) (n:h3 CX X E)
  (j:eval (.Call (.Attribute o m dh) [] [] pos) X.env=(do
   let ov <-eval o X.env
   qu dh.atName
   let (f,first) <-jP [ov] (qr ov m pl)
   callWith pos f first (dX pos (bi [] X.env)) (qt pos (qo [] X.env))):=by rfl):
  PE X (.Call (.Attribute o m dh) [] [] pos) (uW C m sp b4 E ta jE):=by
 intro WP s ZB H Q W1 h;refine Cf (pl:=pl) (xL (i WP s ZB H _ W1 h) λu y ⟨x,H1,b,r,a,dx,fs,ex,d,l,q⟩=>?_) j;subst ex;obtain rfl:u=f8 a:=r;refine yw b d c hm l ?_;exact Cg (first:=[.ref a]) b.dM hm.kp (s6 (us:=[.ref a]) (vs:=[.ref a]) F hr g hd n b (.cons rfl .nil) q)
structure Mk (K:xz) (C f:B):Prop where
 makes:v_ K C=true
 init:fA K (.ref C) "__init__"=some (some (.ref f))
 fn:m4 K (.ref f)=true
 kp:cL K (.ref C)=true
theorem z1 {WP:List (B×Obj)}{ZB:St}{H:Hp}{s:Rs}{Q:VK}{us:List Wp}{vs:List XV}(TD:Mk X.K C f) (F:Db X.prog X.w X.K X.mg X.base CX k f fd ps sp) (hr:bF (k+1) X.A) (j:Binds X.K fd ps ds) (hd:wP b4 ds)
  (n:h3 CX X E) (W1:Inv X WP ZB H s) (r:wP vs us)
  (h:∀x dx,H x=none->H dx=none->dx≠x->sp (.ref x::(vs++b4)) (T0 (T0 H dx (.own x)) x (.ins C dx [])) (λv H2=>v=.ak/\Q (.ref x) H2) E):
  wpAny (Do X.prog X.w) X.A (call (.ref C) us) (EP X WP ZB Q) X.xe s:=by(
have c:=h (s.heap.objs.size+1) s.heap.objs.size (W1.ag.fresh (hL _)) (W1.ag.fresh (t1 _)) (b1 (qC _));have b:=Inv.made (C:=C) W1;have d:wP (XV.ref (s.heap.objs.size+1)::(vs++b4)) (f8 (s.heap.objs.size+1)::(us++ds)):=.cons rfl (r.append hd);have l:(f8 (s.heap.objs.size+1)::us++ds).length=ps.length:=by
 have e:=d.length;rw[F.len _ _ _ _ c]at e;exact e.symm
refine B_ (Hi (f:=f) W1.dM TD.makes TD.init (f5.mp TD.fn) (qm (F.run _ X.stack _ _ ⟨f8 (s.heap.objs.size+1)::us,[]⟩ (f8 (s.heap.objs.size+1)::(us++ds)) _ _ E (hr.make C us [])
 (b.ye.make C us []) (j _ (f8 (s.heap.objs.size+1)::us) b.dM l) d c) λr s' a=>?_))
cases r with
|error e=>exact n WP ZB _ _ e s' b a
|ok fl=>
 cases fl with
 |ret u=>
  obtain⟨v,V,g,y,i,q⟩:=b.after a;subst i;exact⟨y,⟨XV.ref (s.heap.objs.size+1),V,g,O,q⟩⟩
 |next=>exact d3 a
 |brk=>exact d3 a
 |cont=>exact d3 a)
theorem hk (TD:Mk X.K C f) (F:Db X.prog X.w X.K X.mg X.base CX k f fd ps sp) (hr:bF (k+1) X.A) (hg:Gl X x) (hm:X.mg x=some (.ref C)) (c:Binds X.K fd ps ds) (hd:wP b4 ds) (j:h3 CX X E)
  (b:PA X (e::es) t) (d:(x==("__debug__":Str))=false:=by decide) (g:bi (e::es) X.env=(false,eval e X.env)::bi es X.env:=by rfl) (i:(dX pos (bi es X.env)).any (·.1)=false:=by rfl):
  PE X (.Call (.Name x p) (e::es) [] pos) (Av C sp b4 E t):=by
 intro WP s ZB H Q W1 h;refine mN (l8 W1 hg hm ?_ d);refine v5 (h₀:=X.base) W1.ok.mod.l6 TD.kp (xL (b pos WP s ZB H _ W1 h) λus l ⟨vs,H1,a,r,q⟩=>⟨a.dM,?_⟩) g i;exact z1 TD F hr c hd j a r q
theorem Jw (TD:Mk X.K C f) (F:Db X.prog X.w X.K X.mg X.base CX k f fd ps sp) (hr:bF (k+1) X.A) (hg:Gl X x) (hm:X.mg x=some (.ref C)) (a:Binds X.K fd ps ds) (hd:wP b4 ds) (c:h3 CX X E)
  (b:(x==("__debug__":Str))=false:=by decide):PE X (.Call (.Name x p) [] [] pos) (Av C sp b4 E jE):=by
 intro WP s ZB H Q W1 h;refine mN (l8 W1 hg hm ?_ b);exact Cg W1.dM TD.kp (z1 (us:=[]) TD F hr a hd c W1 .nil h)
end
structure pc (N P:List Str) (a:b7):Prop where
 kind:a.kind=.function
 co:a.isCoroutine=false
 gen:a.isGenerator=false
 nd:N.Nodup
 pre:N.take P.length=P
 par:∀x∈P,a.names.lookup x=some .local\/a.names.lookup x=some .cell
 HV:∀y∈a.names,y.2≠.free
theorem xG {kindOf:Str->Option dW}{x:Str}:∀ {binds:List (Str×Wp)}{m:Str->Option Wp},(∀v,(x,v)∉binds)->iM kindOf binds m x=m x
 |[],_,_=>rfl
 |(n,v)::r,m,h=>by
  unfold iM;rw[xG λw hw=>h w (on _ hw)];split
  ·have:x≠n:=by rintro rfl;exact h v lc
   simp[this]
  ·rfl
theorem xE {kindOf:Str->Option dW}{x:Str}:∀ {binds:List (Str×Wp)}{m:Str->Option Wp},(∀v,(x,v)∉binds)->iN kindOf binds m x=m x
 |[],_,_=>rfl
 |(n,v)::r,m,h=>by
  unfold iN;rw[xE λw hw=>h w (on _ hw)];split
  ·rfl
  ·have:x≠n:=by rintro rfl;exact h v lc
   simp[this]
theorem xF {kindOf:Str->Option dW}{x:Str}{v:Wp}:∀ {P:List Str}{vs:List Wp}{i:Nat}{m:Str->Option Wp},P.Nodup->P[i]?=some x->vs[i]?=some v->kindOf x=some .local->
  iM kindOf (P.zip vs) m x=some v
 |[],_,_,_,_,h,_,_=>by simp at h
 |_::_,[],_,_,_,_,h,_=>by simp at h
 |p::P,w::vs,0,m,nd,h1,h2,a=>by
  simp at h1 h2;subst h1;subst h2;show iM kindOf ((p,w)::P.zip vs) m p=_;unfold iM;rw[xG λv hv=>(hS.mp nd).1 (vr hv).1,No a];simp
 |p::P,w::vs,i+1,m,nd,h1,h2,a=>by
  show iM kindOf ((p,w)::P.zip vs) m x=_;unfold iM;exact xF (i:=i) (hS.mp nd).2 (by simpa using h1) (by simpa using h2) a
theorem xD {kindOf:Str->Option dW}{x:Str}{v:Wp}:∀ {P:List Str}{vs:List Wp}{i:Nat}{m:Str->Option Wp},P.Nodup->P[i]?=some x->vs[i]?=some v->kindOf x≠some .local->
  iN kindOf (P.zip vs) m x=some v
 |[],_,_,_,_,h,_,_=>by simp at h
 |_::_,[],_,_,_,_,h,_=>by simp at h
 |p::P,w::vs,0,m,nd,h1,h2,a=>by
  simp at h1 h2;subst h1;subst h2;show iN kindOf ((p,w)::P.zip vs) m p=_;unfold iN;rw[xE λv hv=>(hS.mp nd).1 (vr hv).1,Ps a];simp
 |p::P,w::vs,i+1,m,nd,h1,h2,a=>by
  show iN kindOf ((p,w)::P.zip vs) m x=_;unfold iN;exact xD (i:=i) (hS.mp nd).2 (by simpa using h1) (by simpa using h2) a
def start (N:List Str) (vs:List XV):St:=vs.map some++g2 (N.length-vs.length) none
def ke (CX:hV) (P:pu) (w:rs) (K:xz) (mg:Str->Option Wp) (base:wn) (N:List Str) (b:Str) (scope:b7) (f:B) (a:Wp) (A:cs) (outer:List Env) (s:Rs) (H:Hp) (E:XK):Cx where
 prog:=P
 w:=w
 K:=K
 mg:=mg
 base:=base
 A:=A.deeper (hO b scope s.heap.objs.size f a)
 N:=N
 da:=s
 i3:=H
 env:=hO b scope s.heap.objs.size f a
 outer:=outer
 stack:=hO b scope s.heap.objs.size f a::outer
 ex:=[]
 calm:=true
 fn:=λ_=>true
 pn:=[]
 xe:=λe s'=>wpAny (Do P w) (A.deeper (hO b scope s.heap.objs.size f a)) (leaving (hO b scope s.heap.objs.size f a) e) (λ_ c=>CX outer H s E e c) (λd c=>CX outer H s E d c) s'
theorem xV {a:b7}{n:Nat}{x:Str}(h:a.names.lookup x=some .cell):∃c,(cy n a.names []).lookup x=some c:=by
 have q:=Ce a.names n [] (.inl h);exact Cu.mp q
theorem F' {CX:hV}{P:pu}{w:rs}{K:xz}{mg:Str->Option Wp}{base:wn}{N ps:List Str}{m:Str}{scope:b7}{f:B}{l:Wp}{A:cs}{outer:List Env}{s D:Rs}{H:Hp}{E:XK}{us:List Wp}{vs:List XV}
  (S:pc N ps scope) (hd:A.handled=none) (d:i2 P w K mg base A outer s H) (T:vs.length=ps.length) (r:wP vs us)
  (x:InCallC s s.heap.objs.size (iM (hO m scope s.heap.objs.size f l).kindOf (ps.zip us) λ_=>none) (cy (s.heap.objs.size+1) scope.names []) (iN (hO m scope s.heap.objs.size f l).kindOf (ps.zip us) λ_=>none) D):
  Inv (ke CX P w K mg base N m scope f l A outer s H E) [] (start N vs) H D:=by(
have U:ps.length<=N.length:=by have:=cB cm S.pre;rw[aK]at this;omega
obtain⟨h1,tk,rfl,t⟩:=x.done;have o:∀b:B,b∉(ke CX P w K mg base N m scope f l A outer s H E).ex:=λb z=>absurd (show b∈([]:List B) from z) (by simp);refine⟨⟨d.mod,S.kind,O,O,t1 _,λy z c h1 h2=>?_,λy g=>?_,λy c _ h=>?_,λ_=>hd,Around.frames_deeper d.frames,.inr ⟨O,O⟩,λb z=>absurd z (o b),d.bs,d.g8,λb _ _=>o b,λb z=>absurd z (o b),d.fc,d.jj⟩,
 rfl,d.bare,Un.kept t,⟨_,x.toInCall.ns,λi y v h1 h2 Q=>?_⟩,λy c h=>⟨_,x.cell y c h⟩,d.ag.fresh (t1 _),λy c h=>?_,λp j=>absurd (show p∈([]:List (B×Obj)) from j) (by simp),d.ag.kept t,?_⟩
·exact name_of_addr x.apart (ee h1) (ee h2)
·have g:scope.names.lookup y=some .cell\/scope.names.lookup y=some .free:=g;rcases g with g|g
 ·exact xV g
 ·exact absurd rfl (S.HV _ (ee g))
·exact d1 (x.above y c (ee h))
·have hi:i<vs.length:=by
  unfold start at h2;by_cases hi:i<vs.length
  ·exact hi
  ·rw[nt (by simpa using hi)]at h2;rw[ny]at h2;split at h2<;>cases h2
 have J:vs[i]?=some v:=by
  unfold start at h2;rw[nu (by simpa using hi),pr]at h2;cases e:vs[i]? with
  |none=>rw[e]at h2;cases h2
  |some a=>rw[e]at h2;cases h2;rfl
 obtain⟨u,hu,L⟩:=r.get J;have j:ps[i]?=some y:=by
  rw[<- S.pre,A8 (by omega)];exact h1
 have C:ps.Nodup:=by rw[<- S.pre];exact S.nd.sublist (List.take_sublist _ _)
 refine⟨u,L,?_⟩;rcases S.par y (pi j)with k|k
 ·exact .inl ⟨k,xF C j hu k⟩
 ·obtain⟨c,e⟩:=xV (n:=s.heap.objs.size+1) k;refine .inr ⟨.inl k,c,e,?_⟩;have q:=x.cell y c e;rw[xD C j hu (by show scope.names.lookup y≠_;rw[k];decide)]at q;exact q
·exact d.ag.fresh (d1 (x.above y c (ee h)))
·unfold start;show _=N.length;rw[lv,FS,List.length_replicate];omega)
theorem Fy {CX:hV}{P:pu}{w:rs}{K:xz}{mg:Str->Option Wp}{base:wn}{k:Nat}{f:B}{name c:Str}{params:Arguments}{body:List v1}{scope:b7}{m kV p z a ct Np:Wp}{l Nq:Option B}
  {Nr:Array (Option Wp)}{N ps:List Str}{sp:Sp}(lk:K.lookup f=some ⟨Np,Nq,.func (f6 name c params body scope m kV p z l a ct),Nr⟩) (T:k' K a c=true) (S:pc N ps scope)
  (len:∀vs H Q E,sp vs H Q E->vs.length=ps.length)
  (L:∀(A:cs) (outer:List Env) (s:Rs) (H:Hp) (vs:List XV) (Q:VK) (E:XK),bF k (A.deeper (hO c scope s.heap.objs.size f a))->sp vs H Q E->
   ∃t,eL (ke CX P w K mg base N c scope f a A outer s H E) body t/\t {nx:=λ_ V=>Q .ak V,rt:=Q} (start N vs) H):
  Db P w K mg base CX (k+1) f (f6 name c params body scope m kV p z l a ct) ps sp:=by(
refine⟨len,λA outer s H args us vs Q E hr g D r hsp=>?_⟩;have Nj:=len _ _ _ _ hsp;have j:K.In s.heap:=g.mod.l6.keeps λb o e=>(g.bs b o e).1;have Nn:s.heap.NoLimit:=g.mod.nolimit.keeps λb o e=>(g.bs b o e).1;have Y:∀y∈ps.zip us,scope.names.lookup y.1=some .local\/(scope.names.lookup y.1=some .cell/\((cy (s.heap.objs.size+1) scope.names []).lookup y.1).isSome=true):=λ⟨n,v⟩ Nm=>by
 rcases S.par n (vr Nm).1 with q|q
 ·exact .inl q
 ·exact .inr ⟨q,Ce _ _ _ (.inl q)⟩
refine codeAny_call_function hr.depth (j _ _ lk) rfl S.co S.gen rfl (Mj j T) (D _ _ _ _ ?_);refine wpAny_newFunctionEnv_cells S.kind Y λenv U C x=>?_;subst U;refine⟨Nn.keeps x.toInCall.keep,codeAny_func ?_⟩;obtain⟨t,Nl,Nk⟩:=L A outer s H vs Q E (hr.deeper _) hsp;have W1:Inv (ke CX P w K mg base N c scope f a A outer s H E) [] (start N vs) H C:=F' S hr.hd g Nj r x;refine eB (Nl [] C (start N vs) H _ W1 Nk) (λfl s' d=>?_) λe s' d=>d;have fin:∀ {h:St}{V:Hp}{v:XV}{u:Wp},Inv (ke CX P w K mg base N c scope f a A outer s H E) [] h V s'->RelV v u->Q v V->CE outer P w H s Q u s':=
 λ{h V v u} J i q=>⟨v,V,J.os,J.bare,J.base,J.ag,i,q⟩
cases fl with
|ret u=>
 obtain⟨v,h,V,J,i,q⟩:=d;exact fin J i q
|next=>
 obtain⟨h,V,J,q⟩:=d;exact fin (v:=XV.ak) (u:=Value.none) J rfl q
|brk=>
 obtain⟨_,_,_,q⟩:=d;exact d3 q
|cont=>
 obtain⟨_,_,_,q⟩:=d;exact d3 q)
section
variable {X:Cx}{x:Str}{p pos:Pos}{e:ws}{es:List ws}{t:TA}{id T:String}{r:List XV->Hp->VK->Prop}
def As (r:List XV->Hp->VK->Prop) (t:TA):TE:=λZB H Q=>t ZB H λvs H1=>r vs H1 Q
theorem aV (c:gV X (.builtin id) r) (hg:Gl X x) (hm:X.mg x=none) (hv:k4 x=some (.builtin id)) (b:PA X (e::es) t) (hn:x≠ "__name__":=by decide) (d:(x==("__debug__":Str))=false:=by decide)
  (f:bi (e::es) X.env=(false,eval e X.env)::bi es X.env:=by rfl) (g:(dX pos (bi es X.env)).any (·.1)=false:=by rfl):PE X (.Call (.Name x p) (e::es) [] pos) (As r t):=by
 intro WP s ZB H Q W1 h;refine mN (kv W1 hg hm hv ?_ hn d);exact MQ (xL (b pos WP s ZB H _ W1 h) λus k ⟨vs,H1,a,j,i⟩=>c WP k ZB H1 vs us Q a j i) f g
theorem oW (c:gV X (.type T) r) (hg:Gl X x) (hm:X.mg x=none) (hv:k4 x=some (.type T)) (b:PA X (e::es) t) (hn:x≠ "__name__":=by decide) (d:(x==("__debug__":Str))=false:=by decide)
  (f:bi (e::es) X.env=(false,eval e X.env)::bi es X.env:=by rfl) (g:(dX pos (bi es X.env)).any (·.1)=false:=by rfl):PE X (.Call (.Name x p) (e::es) [] pos) (As r t):=by
 intro WP s ZB H Q W1 h;refine mN (kv W1 hg hm hv ?_ hn d);exact ng (xL (b pos WP s ZB H _ W1 h) λus k ⟨vs,H1,a,j,i⟩=>c WP k ZB H1 vs us Q a j i) f g
end
end L2
namespace HT
open PySem PyProof.Rows
def lexLt:List Int->List Int->Bool
 |[],[]=>false
 |[],_::_=>true
 |_::_,[]=>false
 |x::xs,y::ys=>if x=y then lexLt xs ys else decide (x<y)
theorem kx (x y:Int) (xs ys:List Int):lexLt (x::xs) (y::ys)=if x=y then lexLt xs ys else decide (x<y):=rfl
theorem yV:lexLt [] []=false:=rfl
theorem Hd (y:Int) (ys:List Int):lexLt [] (y::ys)=true:=rfl
theorem Hc (x:Int) (xs:List Int):lexLt (x::xs) []=false:=rfl
theorem EX (A:cs) (s:Rs) (a:Int) (t:Tok) (c:Int) (u:Tok):∃e,SeqAt.EqAt A s (.int a t) (.int c u) e/\(e=true↔a=c):=
 ⟨(a==c),SeqAt.EqAt.int_int a t c u,by simp⟩
theorem J7 (A:cs) (s:Rs) (a:Int) (t:Tok) (c:Int) (u:Tok) (prog:pu) (w:rs) (E:Wp->Rs->Prop) (Q:Wp->Rs->Prop) (h:Q (.bool (decide (a<c))) s):
  wpAny (Do prog w) A (vE .Lt (.int a t) (.int c u)) Q E s:=
 (C1 h:wpAny (Do prog w) A (dD .Lt (.int a t) (.int c u)) Q E s)
section
open PySem.SeqAt
open PySem.AutoSeq1 (wpAny_loadPart')
open PySem.MeetsSeq PySem.MeetsSeq2 PySem.MeetsSeq3
theorem LD (l b:B) (i j:Array Wp) (n n2:Nat) (J L:Option B) (Np Nq:Array (Option Wp)) (ns ms:List Int) (hi:cn i.toList ns) (H:cn j.toList ms):
  Meets (hE.«tuple.__lt__» ⟨[.ref l,.ref b],[]⟩)
   (λ_ R s=>s.heap.get? l=some {cls:=.type "tuple",dict:=J,data:=.seq i n,slots:=Np}/\s.heap.get? b=some {cls:=.type "tuple",dict:=L,data:=.seq j n2,slots:=Nq}/\
    R (.ok (.ret (.bool (lexLt ns ms)))) s):=
 .of_wp λprog w A R s h=>by
  obtain⟨p,g,d,tk,os⟩:=s;obtain⟨T,N,h⟩:=h;have Nv:=AutoSeq1.sub_tuple_tuple;have Nw:i.size=ns.length:=by rw[<- hi.length];simp
  have Nx:j.size=ms.length:=by rw[<- H.length];simp
  wp_walk using wpAny_loadPart' T,wpAny_loadPart' N,wpAny_forIn_list _ (λdS b s'=>b.1=none/\s'=⟨p,g,d,tk,os⟩/\∃(vs z:List Wp) (m k:List Int),dS=vs.zip z/\
   cn vs m/\cn z k/\m.length+j.size=k.length+i.size/\R (.ok (.ret (.bool (lexLt m k)))) ⟨p,g,d,tk,os⟩) _
  case turn=>
   rintro⟨y,x⟩ dS b s' ⟨C,rfl,vs,z,m,k,hz,D,r,o,f⟩;cases D with
   |nil=>rw[List.zip_nil_left]at hz;cases hz
   |cons a t Nj=>
    cases r with
    |nil=>rw[List.zip_nil_right]at hz;cases hz
    |cons c u Nk=>
     rw[nF]at hz;injection hz with Nn U;injection Nn with Nm Nl;subst Nm Nl;rw[kx]at f;simp only[bh]at o;obtain⟨e,Q,E⟩:=EX A.in1 ⟨p,g,d,tk,os⟩ a t c u;refine IR (Q prog w _ _ ?_);cases e with
     |true=>
      rw[No (E.mp rfl)]at f
      wp_walk
      exact⟨O,O,_,_,_,_,U,Nj,Nk,by omega,f⟩
     |false=>
      rw[Ps (λq=>absurd (E.mpr q) b2)]at f;have Y:=J7 A.in1 ⟨p,g,d,tk,os⟩ a t c u prog w
      wp_walk using Y
      exact⟨_,O,by simpa using f⟩
  case fin=>
   rintro⟨Nr,Nu⟩ s' ⟨C,rfl,vs,z,m,k,hz,D,r,o,f⟩;simp only at C;subst C;have hv:lexLt m k=decide (i.size<j.size):=by
    cases D with
    |nil=>
     cases r with
     |nil=>
      simp only[j1]at o;rw[yV];exact(sw (by omega)).symm
     |cons c u hw=>
      simp only[j1,bh]at o;rw[Hd];exact(s2 (by omega)).symm
    |cons a t hv=>
     cases r with
     |nil=>
      simp only[j1,bh]at o;rw[Hc];exact(sw (by omega)).symm
     |cons c u hw=>
      rw[nF]at hz;cases hz
   rw[hv]at f
   wp_walk
   exact⟨_,O,by simpa [Builtin.Tuple.tupleCompareSizes]using f⟩
  case h=>
   exact⟨O,O,i.toList,j.toList,ns,ms,O,hi,H,by omega,h⟩
end
section
variable {prog:pu}{w:rs}{A:cs}{E:Wp->Rs->Prop}{s:Rs}
theorem y1 {l b:B}{a c:Array Wp}{ns ms:List Int}{Q:Wp->Rs->Prop}(p:iU s.heap l a) (m:iU s.heap b c) (hi:cn a.toList ns) (o:cn c.toList ms)
  (hu:A.units<cJ) (h:Q (.bool (lexLt ns ms)) s):wpAny (Do prog w) A (dD .Lt (.ref l) (.ref b)) Q E s:=by(
obtain⟨⟨cls,j,data,q⟩,g,d,n,hd⟩:=id p;obtain⟨⟨t,k,data2,r⟩,i,e,n2,f⟩:=id m;simp only at d hd e f;subst d hd e f;exact richCompare_meets_room (op:=.Lt) ⟨_,g,O⟩ ⟨_,i,O⟩ MK MJ (MI _ _) (LD l b a c n n2 j k q r ns ms hi o)
 ⟨g,i,show qK (lexLt ns ms)≠Value.notImplemented/\Q (.bool (lexLt ns ms)) s from⟨(λx=>nomatch x),h⟩⟩ hu)
def dy (n d:Nat):Option Int->Nat
 |none=>d
 |some v=>if v<0 then(v+(n:Int)).toNat else min v.toNat n
theorem z5 (n d:Nat):dy n d none=d:=rfl
theorem o8 (n d k:Nat):dy n d (some (k:Int))=min k n:=by
 show(if(k:Int)<0 then((k:Int)+(n:Int)).toNat else min (k:Int).toNat n)=min k n;rw[Ps (by omega),d2]
end
end HT
namespace L2
open PySem PySem.Spec PyProof.Rows
abbrev TO:=St->Hp->(Option Int->Hp->Prop)->Prop
def PO (X:Cx) (e:Option ws) (t:TO):Prop:=
 ∀(WP:List (B×Obj)) (s:Rs) (ZB:St) (H:Hp) (Q:Option Int->Hp->Prop),Inv X WP ZB H s->t ZB H Q->
  wpAny (Do X.prog X.w) X.A (evalPart e X.env) (λu s'=>∃o V,Inv X WP ZB V s'/\vU u o/\Q o V) X.xe s
def pQ:TO:=λ_ H Q=>Q none H
def pR (t:TE):TO:=λZB H Q=>t ZB H λx H1=>∃i,x=.int i/\Q (some i) H1
theorem intsAre_of {ns:List Int}:∀ {us:List Wp},wP (ns.map XV.int) us->cn us ns:=by(
induction ns with
|nil=>intro us r;rw[gU]at r;cases r;exact .nil
|cons n ns a=>
 intro us r;rw[na]at r;cases r with
 |cons b c=>
  obtain⟨t,e⟩:=b;subst e;exact .cons n t (a c))
section
variable {X:Cx}{e:ws}{te:TE}{lo hi:Option ws}{tl th:TO}{pos p2:Pos}
theorem fj:PO X none pQ:=by
 intro WP s ZB H Q W1 h;rw[B0];exact t3 ⟨none,H,W1,.none,h⟩
theorem dQ (h:PE X e te):PO X (some e) (pR te):=by
 intro WP s ZB H Q W1 hw;rw[evalPart_some];refine xL (h WP s ZB H _ W1 hw) λu d ⟨x,H1,a,c,b⟩=>?_;obtain⟨i,rfl,q⟩:=b;obtain⟨t,rfl⟩:=c;exact⟨some i,H1,a,.int i t,q⟩
def xi (X:Cx) (r:XV->Option Int->Option Int->Hp->VK->Prop):Prop:=
 ∀(WP:List (B×Obj)) (s:Rs) (ZB:St) (H:Hp) (x:XV) (v b c:Wp) (lo hi:Option Int) (a:B) (Q:VK),Inv X WP ZB H s->RelV x v->s.heap.IsSliceOf a b c .none->vU b lo->vU c hi->r x lo hi H Q->
  ∃T id,B' (.type T) "__getitem__"=pure (some (.builtin id))/\s.TypeIs v T/\wpAny (Do X.prog X.w) X.A (k7 v (.ref a)) (EP X WP ZB Q) X.xe s
def Az (r:XV->Option Int->Option Int->Hp->VK->Prop) (te:TE) (tl th:TO):TE:=λZB H Q=>te ZB H λx H1=>tl ZB H1 λl H2=>th ZB H2 λu a=>r x l u a Q
theorem mq {r:XV->Option Int->Option Int->Hp->VK->Prop}(hr:xi X r) (m:PE X e te) (n:PO X lo tl) (hu:PO X hi th):PE X (.Subscript e (.Slice lo hi none p2) pos) (Az r te tl th):=by
 intro WP s ZB H Q W1 h;refine qQ (xL (m WP s ZB H _ W1 h) λv D ⟨x,H1,g,C,t⟩=>?_);refine B7 (xL (n WP D ZB H1 _ g t) λc E ⟨l,H2,i,pl,y⟩=>xL (hu WP E ZB H2 _ i y) λd a ⟨u,f,j,p,z⟩=>?_);rw[B0];refine t3 ?_;have k:Inv X WP ZB f {a with heap:=a.heap.push {cls:=.type "slice",data:=.fields #[c,d,.none]}}:=j.kept (t':=a.toks) λb ob q=>ls _ q;obtain⟨T,id,hT,o,hg⟩:=hr WP {a with heap:=a.heap.push {cls:=.type "slice",data:=.fields #[c,d,.none]}} ZB f x v c d l u a.heap.objs.size Q k C (Heap.IsSliceOf.new ..) pl p z;show wpAny (Do X.prog X.w) X.A (qO e (.Slice lo hi none p2) v (.ref a.heap.objs.size)) (EP X WP ZB Q) X.xe {a with heap:=a.heap.push {cls:=.type "slice",data:=.fields #[c,d,.none]}};exact tail_any (ops:=[.ref a.heap.objs.size,v]) o hT hg (by with_unfolding_all rfl)
def el (xs:List XV) (lo hi:Option Int):List XV:=(xs.drop (HT.dy xs.length 0 lo)).take (HT.dy xs.length xs.length hi-HT.dy xs.length 0 lo)
theorem EB (xs:List XV) (lo hi:Option Int):(el xs lo hi).length<=xs.length:=by
 unfold el;rw[aK,iY];omega
end
def eS (n:Nat) (i:Int):Option Nat:=if 0<=i then(if i<n then some i.toNat else none)else if -(n:Int)<=i then some (i+n).toNat else none
def dI {a:Type}(xs:List a) (i:Int):Option a:=(eS xs.length i).bind λj=>xs[j]?
theorem yF {n:Nat}{i:Int}{j:Nat}(h:eS n i=some j):seqIndex? i n=some j/\j<n/\ -(n:Int)<=i/\i<n:=by(
unfold eS at h;by_cases h0:0<=i
·rw[No h0]at h;by_cases h1:i<n
 ·rw[No h1]at h;have e:i.toNat=j:=bT h;exact⟨by rw[vF h0 h1,e],by omega,by omega,h1⟩
 ·rw[Ps h1]at h;cases h
·rw[Ps h0]at h;by_cases h1: -(n:Int)<=i
 ·rw[No h1]at h;have e:(i+n).toNat=j:=bT h;exact⟨by rw[seqIndex_neg (by omega) h1,e],by omega,h1,by omega⟩
 ·rw[Ps h1]at h;cases h)
theorem xt {a:Type}{xs:List a}{i:Int}{v:a}(h:dI xs i=some v):∃j,seqIndex? i xs.length=some j/\xs[j]?=some v/\j<xs.length/\ -(xs.length:Int)<=i/\i<xs.length:=by(
unfold dI at h;cases e:eS xs.length i with
|none=>rw[e]at h;cases h
|some j=>
 rw[e]at h;obtain⟨h1,h2,b,c⟩:=yF e;exact⟨j,h1,h,h2,b,c⟩)
theorem lw {a:Type}{xs:List a}{j:Nat}{v:a}(h:xs[j]?=some v):dI xs (j:Int)=some v:=by(
have b:j<xs.length:=(ay.mp h).1;have e:eS xs.length (j:Int)=some j:=by
 unfold eS;rw[No (by omega),No (by omega)];simp
unfold dI;rw[e];exact h)
theorem nW {a:Type}(xs:List a) (v:a):dI (xs++[v]) (-1)=some v:=by(
have b:(xs++[v]).length=xs.length+1:=by simp
have e:eS (xs++[v]).length (-1)=some xs.length:=by
 unfold eS;rw[b,Ps (by decide),No (by omega)]
 congr 1
 omega
unfold dI;rw[e];show(xs++[v])[xs.length]?=some v;simp)
def Dy (b:ws):Prop:=∀o i,qp b false o i=vT [o,i] (k7 o i)
def q6 (X:Cx) (r:R2):Prop:=
 ∀(dB a:ws) (WP:List (B×Obj)) (s:Rs) (ZB:St) (H:Hp) (x y:XV) (v u:Wp) (Q:VK),Inv X WP ZB H s->RelV x v->RelV y u->r x y H Q->
  qp a false v u=vT [v,u] (k7 v u)->wpAny (Do X.prog X.w) X.A (qO dB a v u) (EP X WP ZB Q) X.xe s
def q7 (X:Cx) (id:String) (r:XV->List XV->Hp->VK->Prop):Prop:=
 ∀(WP:List (B×Obj)) (s:Rs) (ZB:St) (H:Hp) (x:XV) (xs:List XV) (v:Wp) (us:List Wp) (Q:VK),Inv X WP ZB H s->RelV x v->wP xs us->r x xs H Q->
  wpAny (Do X.prog X.w) X.A (call (.builtin id) (v::us)) (EP X WP ZB Q) X.xe s
section
variable {X:Cx}{a b:ws}{ta tb:TE}{pos:Pos}
theorem Ch {r:R2}(hr:q6 X r) (d:PE X a ta) (e:PE X b tb) (f:Dy b):PE X (.Subscript a b pos) (hy r ta tb):=by
 intro WP s ZB H Q W1 h;exact qQ (ro d e W1 h λv u j x y H2 c g i q=>hr a b WP j ZB H2 x y v u Q c g i q (f _ _))
def zD (K:xz):R2:=λx y H Q=>∃p xs i v,x=.ref p/\y=.int i/\TW K H p xs/\dI xs i=some v/\Q v H
def zE (K:xz):R2:=λx y H Q=>∃p xs i v,x=.ref p/\y=.int i/\pm K H p xs/\dI xs i=some v/\Q v H
theorem wT:q6 X (zD X.K):=by(
intro dB D WP s ZB H x y v u Q W1 o A h e;obtain⟨p,xs,i,z,rfl,rfl,m,k,q⟩:=h;cases o;obtain⟨t,rfl⟩:=A;obtain⟨Op,r,pl,hz⟩:=W1.list m;obtain⟨j,h1,h2,C,f,g⟩:=xt k;obtain⟨w,d,n⟩:=r.get h2;have l:=r.length;have hn:=oC;have fin:EP X WP ZB Q w s:=⟨z,H,W1,n,q⟩;by_cases h0:0<=i
·have c:i.toNat=j:=by
  rw[vF h0 g]at h1;exact bT h1
 exact item_listR pl.isList h0 (by omega) (by rw[c];simpa using d) fin e
·have c:(i+(Op.toArray.size:Int)).toNat=j:=by
  rw[seqIndex_neg (by omega) f]at h1;rw[aP,<-l];exact bT h1
 exact CZ (x:=w) pl.isList.typeIs vz.lookup
  (wpAny_getItem_list_neg (Q:=λr s'=>r=w/\EP X WP ZB Q r s') pl.isList (by omega) (by rw[aP]<;>omega) (by omega) (by rw[c];simpa using d) ⟨O,fin⟩) e)
theorem gw:q6 X (zE X.K):=by(
intro dB C WP s ZB H x y v u Q W1 l m h g;obtain⟨p,xs,i,z,rfl,rfl,f,d,q⟩:=h;cases l;obtain⟨t,rfl⟩:=m;obtain⟨Op,r,pl,hz⟩:=W1.tuple f;obtain⟨j,h1,h2,n,o,A⟩:=xt d;obtain⟨w,c,k⟩:=r.get h2;have e:=r.length;have hn:=oC;have fin:EP X WP ZB Q w s:=⟨z,H,W1,k,q⟩;exact CZ (x:=w) pl.typeIs slot_tuple_getitem.lookup
 (getItem_tuple (j:=j) (Q:=λr s'=>r=w/\EP X WP ZB Q r s') pl (by omega) (by omega) (by rw[aP,<-e];exact h1) (by simpa using c) ⟨O,fin⟩) g)
theorem Hk (Op:List Wp) (n j:Nat) (u:Wp):gR (·.setIfInBounds j u) {cls:=.type "list",data:=.seq Op.toArray n}= {cls:=.type "list",data:=.seq (Op.set j u).toArray n}:=by
 simp[gR]
theorem Inv.lst {WP:List (B×Obj)}{ZB:St}{H:Hp}{s:Rs}{p:B}{xs:List XV}(W1:Inv X WP ZB H s) (h:H p=some (.lst xs)):
  ∃(Op:List Wp) (n:Nat),wP xs Op/\s.heap.get? p=some {cls:=.type "list",data:=.seq Op.toArray n}/\xs.length<=Is:=by
 obtain⟨z,Op,n,r,e⟩:=W1.ag p _ h;exact⟨Op,n,r,e,z⟩
theorem Inv.Hg {WP:List (B×Obj)}{ZB:St}{H:Hp}{s:Rs}{p:B}{xs ys:List XV}{Op its':List Wp}{n c:Nat}{f:Obj->Obj}(W1:Inv X WP ZB H s) (h:H p=some (.lst xs))
  (g:s.heap.get? p=some {cls:=.type "list",data:=.seq Op.toArray n}) (hf:f {cls:=.type "list",data:=.seq Op.toArray n}= {cls:=.type "list",data:=.seq its'.toArray c}) (r:wP ys its') (hz:ys.length<=Is) (t:Nat):
  Inv X WP ZB (T0 H p (.lst ys)) {s with heap:=s.heap.update p f,toks:=t}:=by(
have e:(s.heap.update p f).get? p=some {cls:=.type "list",data:=.seq its'.toArray c}:=by
 rw[jR f g (by rw[hf]<;>rfl),hf]
refine W1.write (x:=p) (e:=p) (by rw[h];trivial) (.inl rfl) (λb u d q=>(hH _ _ (Ne.symm d)).trans q) ⟨_,e⟩ ?_;exact⟨hz,its',c,r,e⟩)
def sN:XV->XV->XV->Hp->(Hp->Prop)->Prop:=λo i v H Q=>∃p xs k j,o=.ref p/\i=.int k/\H p=some (.lst xs)/\eS xs.length k=some j/\Q (T0 H p (.lst (xs.set j v)))
theorem kU:xh X sN:=by(
intro WP s ZB H o i v ov A u Q W1 y x z h;obtain⟨p,xs,k,j,rfl,rfl,m,w,q⟩:=h;cases y;obtain⟨t,rfl⟩:=x;obtain⟨Op,n,r,e,hz⟩:=W1.lst m;obtain⟨h1,h2,g,l⟩:=yF w;have d:=r.length;have hn:=oC;have f:Inv X WP ZB (T0 H p (.lst (xs.set j v))) {s with heap:=s.heap.update p (gR (·.setIfInBounds j u))}:=
 W1.Hg m e (Hk Op n j u) (r.set z j) (by rw[Bs];exact hz) s.toks
by_cases h0:0<=k
·have c:k.toNat=j:=by
  rw[vF h0 l]at h1;exact bT h1
 exact My e h0 (by omega) (by rw[aP,<-d];exact l) (by rw[c];exact⟨_,f,q⟩)
·have c:(k+(Op.toArray.size:Int)).toNat=j:=by
  rw[seqIndex_neg (by omega) g]at h1;rw[aP,<-d];exact bT h1
 exact Ml e (by omega) (by rw[aP,<-d];exact g) (by omega) (by rw[c];exact⟨_,f,q⟩))
theorem K' (lo hi:Option Int) (n:Nat):(fz lo hi none n).1=((HT.dy n 0 lo:Nat):Int)/\(fz lo hi none n).2.1=((HT.dy n n hi:Nat):Int)/\(fz lo hi none n).2.2=1:=by(
refine⟨?_,?_,O⟩
·cases lo with
 |none=>simp[fz,HT.dy]
 |some i=>
  simp only[fz,HT.dy,CA,show(1:Int)>0 by decide,aX];by_cases h:i<0
  ·simp only[h,aX]<;>omega
  ·simp only[h,aF]<;>omega
·cases hi with
 |none=>simp[fz,HT.dy]
 |some i=>
  simp only[fz,HT.dy,CA,show(1:Int)>0 by decide,aX];by_cases h:i<0
  ·simp only[h,aX]<;>omega
  ·simp only[h,aF]<;>omega)
theorem K_ (Op:List Wp) (lo hi:Option Int):qs Op.toArray lo hi none=((Op.drop (HT.dy Op.length 0 lo)).take (HT.dy Op.length Op.length hi-HT.dy Op.length 0 lo)).toArray:=by
 obtain⟨h1,h2,c⟩:=K' lo hi Op.toArray.size;unfold qs;rw[h1,h2,c];simp only[sliceRange_one,pick_run,aP]<;>rfl
def zG (K:xz):XV->Option Int->Option Int->Hp->VK->Prop:=λx lo hi H Q=>∃a xs,x=.ref a/\TW K H a xs/\∀p,H p=none->Q (.ref p) (T0 H p (.lst (el xs lo hi)))
theorem mG:xi X (zG X.K):=by
 intro WP s ZB H x v k l lo hi j Q W1 i e pl g h;obtain⟨a,xs,rfl,f,q⟩:=h;cases i;obtain⟨Op,r,c,hz⟩:=W1.list f;have d:=r.length;refine⟨"list",_,vz.lookup,c.isList.typeIs,?_⟩;refine Bz c.isList e pl g .none (by simp) ?_ (by rw[aP]<;>omega);rw[K_,<-d];refine⟨.ref s.heap.objs.size,_,W1.laid (t':=s.toks) (o:=.lst (el xs lo hi)) (λb ob q=>ls _ q) (t1 _) ?_,O,q _ (W1.ag.fresh (t1 _))⟩;exact⟨dg (EB xs lo hi) hz,_,0,(r.drop (HT.dy xs.length 0 lo)).take (HT.dy xs.length xs.length hi-HT.dy xs.length 0 lo),a9 _ rfl⟩
theorem bV:gV X (.builtin "len") (λxs H Q=>∃p ys,xs=[.ref p]/\(TW X.K H p ys\/pm X.K H p ys)/\Q (.int ys.length) H):=by(
intro WP s ZB H xs us Q W1 r h;obtain⟨p,ys,rfl,c,q⟩:=h;obtain⟨u,rfl,f⟩:=vals1 r;cases f;have hn:=oC;rcases c with c|c
·obtain⟨Op,e,pl,hz⟩:=W1.list c;have d:=e.length;exact Calls.call_len_list pl.isList (by simp only[aP]<;>omega) ⟨.int ys.length,H,W1.tok _,⟨s.toks+1,by rw[aP,d]⟩,q⟩
·obtain⟨Op,e,pl,hz⟩:=W1.tuple c;have d:=e.length;exact len_tuple pl (by simp only[aP]<;>omega) ⟨.int ys.length,H,W1.tok _,⟨s.toks+1,by rw[aP,d]⟩,q⟩)
theorem n0:gV X (.type "list") (λxs H Q=>∃p ys,xs=[.ref p]/\(TW X.K H p ys\/pm X.K H p ys)/\∀l,H l=none->Q (.ref l) (T0 H l (.lst ys))):=by(
intro WP s ZB H xs us Q W1 r h;obtain⟨p,ys,rfl,f,q⟩:=h;obtain⟨u,rfl,k⟩:=vals1 r;cases k;have fin:∀(Op:List Wp),wP ys Op->ys.length<=Is->∀(h':wn) (c:Nat),(∀b o',s.heap.get? b=some o'->h'.get? b=some o')->
  h'.get? s.heap.objs.size=some {cls:=.type "list",dict:=none,data:=.seq Op.toArray c,slots:= #[]}->EP X WP ZB Q (.ref s.heap.objs.size) {s with heap:=h'}:=λOp d hz h' c kp e=>
 ⟨.ref s.heap.objs.size,_,W1.laid (t':=s.toks) kp (t1 _) (show bq X.prog X.w _ h' _ (.lst ys) from⟨hz,Op,c,d,e⟩),O,q _ (W1.ag.fresh (t1 _))⟩
rcases f with f|f
·obtain⟨Op,d,pl,hz⟩:=W1.list f;have j:=d.length;obtain⟨o,i,g,n,hd⟩:=pl.isList;exact B1 p (.inl rfl) i g hd (λh' c kp e=>fin Op d hz h' c kp e) (by simp only[aP]<;>omega)
·obtain⟨Op,d,pl,hz⟩:=W1.tuple f;have j:=d.length;obtain⟨o,i,g,n,hd⟩:=pl;exact B1 p (.inr rfl) i g hd (λh' c kp e=>fin Op d hz h' c kp e) (by simp only[aP]<;>omega))
def u5 (K:xz) (T:String) (x:XV) (H:Hp):Prop:=match x with
 |.str _=>T="str"
 |.int _=>T="int"
 |.ref p=>(T="list" /\∃xs,TW K H p xs)\/(T="tuple" /\∃o,K.lookup p=some o/\o.cls=.type "tuple" /\o.dict=none)\/
   (T="dict" /\((∃UF,H p=some (.dK UF))\/∃UF,H p=some (.dT UF)))\/(T="set" /\∃S n,H p=some (.set S n))
 |_=>False
theorem AK {WP:List (B×Obj)}{ZB:St}{H:Hp}{s:Rs}{T:String}{x:XV}{v:Wp}(W1:Inv X WP ZB H s) (r:RelV x v) (ty:u5 X.K T x H):
  s.TypeIs v T/\∀a,v=.ref a->∃ob,s.heap.get? a=some ob/\ob.dict=none:=by(
cases x with
|str z=>
 obtain⟨t,rfl⟩:=r;cases(show T="str" from ty);exact⟨typeIs_str s z t,λ_ e=>nomatch e⟩
|int i=>
 obtain⟨t,rfl⟩:=r;cases(show T="int" from ty);exact⟨vI s i t,λ_ e=>nomatch e⟩
|ref p=>
 cases r;rcases ty with⟨rfl,xs,h⟩|⟨rfl,o,d,g,hd⟩|⟨rfl,d⟩|⟨rfl,S,n,d⟩
 ·obtain⟨Op,_,pl,_⟩:=W1.list h;refine⟨pl.isList.typeIs,λa e=>?_⟩;cases e;obtain⟨o,n,e,c,hd,_⟩:=pl;exact⟨o,e,hd⟩
 ·refine⟨⟨o,W1.dM p o d,g⟩,λa e=>?_⟩;cases e;exact⟨o,W1.dM _ o d,hd⟩
 ·have z:∃o,s.heap.get? p=some o/\o.ExactDict:=by
   rcases d with⟨UF,d⟩|⟨UF,d⟩
   ·obtain⟨_,_,_,_,o,_,_,e,ex,_⟩:=W1.ag p _ d;exact⟨o,e,ex⟩
   ·obtain⟨_,_,_,_,o,_,_,e,ex,_⟩:=W1.ag p _ d;exact⟨o,e,ex⟩
  obtain⟨o,e,ex⟩:=z;refine⟨⟨o,e,ex.1⟩,λa f=>?_⟩;cases f;exact⟨o,e,ex.2.1⟩
 ·obtain⟨o,_,_,_,e,ex,_⟩:=W1.ag p _ d;refine⟨⟨o,e,ex.1⟩,λa f=>?_⟩;cases f;exact⟨o,e,ex.2.1⟩
|_=>exact d3 ty)
def Lj (K:xz) (T:String) (r:XV->List XV->Hp->VK->Prop) (to:TE):TE:=λZB H Q=>to ZB H λx H1=>u5 K T x H1/\r x [] H1 Q
def Li (K:xz) (T:String) (r:XV->List XV->Hp->VK->Prop) (to:TE) (t:TA):TE:=λZB H Q=>to ZB H λx H1=>u5 K T x H1/\t ZB H1 λxs H2=>r x xs H2 Q
variable {o e:ws}{es:List ws}{to:TE}{t:TA}{name:Str}{dh c5:Pos}{T id:String}{r:XV->List XV->Hp->VK->Prop}
theorem kG (k:Ca T) (slot:Slot T name id) (j:typeOf (.builtin id)=pure (.type "method_descriptor")) (hm:q7 X id r) (i:PE X o to)
  (f:mS o name X.env (eval o X.env)=eval o X.env:=by rfl) (g:(dh.endLine==c5.line)=true:=by rfl):PE X (.Call (.Attribute o name dh) [] [] c5) (Lj X.K T r to):=by
 intro WP s ZB H Q W1 h;refine wpAny_Call_method0_late f g (xL (i WP s ZB H _ W1 h) λv m ⟨x,H1,c,d,ty,l⟩=>?_);obtain⟨h1,h2⟩:=AK c d ty;exact⟨T,id,k,slot,j,h1,h2,wQ rfl (PySem.evalArgs_none (hm WP m ZB H1 x [] v [] Q c d .nil l))⟩
theorem cv (u:Ca T) (slot:Slot T name id) (q:typeOf (.builtin id)=pure (.type "method_descriptor")) (hm:q7 X id r) (m:PE X o to) (i:PA X (e::es) t)
  (j:mS o name X.env (eval o X.env)=eval o X.env:=by rfl)
  (k:((dX c5 (bi (e::es) X.env)).all (λx=>!x.1)&&(qt c5 (qo [] X.env)).all (λx=>x.1.isSome)
   &&decide ((e::es).length+([]:List qv).length+(if([]:List qv).isEmpty then 0 else 1)<30))=true:=by rfl)
  (l:(dh.endLine==c5.line)=true:=by rfl) (p:bi (e::es) X.env=(false,eval e X.env)::bi es X.env:=by rfl) (n:(dX c5 (bi es X.env)).any (·.1)=false:=by rfl):
  PE X (.Call (.Attribute o name dh) (e::es) [] c5) (Li X.K T r to t):=by
 intro WP s ZB H Q W1 h;refine wpAny_Call_method_late j k l rfl (xL (m WP s ZB H _ W1 h) λv A ⟨x,H1,c,f,ty,w⟩=>?_);obtain⟨h1,h2⟩:=AK c f ty;refine⟨T,id,u,slot,q,h1,h2,?_⟩;have d:=i c5 WP A ZB H1 _ c w;rw[p]at d⊢;refine wQ (by show(false||(dX c5 (bi es X.env)).any (·.1))=false;rw[n]<;>rfl) (Dg ?_);exact xL d λus C ⟨vs,H2,g,z,y⟩=>hm WP C ZB H2 x vs v us Q g f z y
end
def lL (X:Cx) (id:String) (r:XV->List XV->Hp->VK->Prop):Prop:=
 ∀(WP:List (B×Obj)) (s:Rs) (ZB:St) (H:Hp) (x:XV) (xs:List XV) (v:Wp) (us:List Wp) (Q:VK),Inv X WP ZB H s->RelV x v->wP xs us->r x xs H Q->
  wpAny (Do X.prog X.w) X.A (call (.builtin id) (v::us)) (EP X WP ZB Q) X.xe s
theorem wP.one:∀ {x:XV}{us:List Wp},wP [x] us->∃u,us=[u]/\RelV x u
 |_,_,.cons r .nil=>⟨_,O,r⟩
theorem wP.zero:∀ {us:List Wp},wP [] us->us=[]
 |_,.nil=>rfl
theorem wP.dropLast {xs:List XV}{us:List Wp}(h:wP xs us):wP xs.dropLast us.dropLast:=by(
induction h with
|nil=>exact .nil
|cons r t a=>
 cases t with
 |nil=>exact .nil
 |cons q t'=>exact .cons r a)
theorem wP.reverse {xs:List XV}{us:List Wp}(h:wP xs us):wP xs.reverse us.reverse:=by(
induction h with
|nil=>exact .nil
|cons r t a=>rw[p3,p3];exact wP.append a (.cons r .nil))
theorem wP.rep {xs:List XV}{us:List Wp}(h:wP xs us):∀k:Nat,wP (g2 k xs).flatten (g2 k us).flatten
 |0=>.nil
 |k+1=>by
  rw[iW,iW,jZ,jZ];exact wP.append h (wP.rep h k)
theorem EY {d:Type}(l:List d):l.eraseIdx (l.length-1)=l.dropLast:=by(
induction l with
|nil=>rfl
|cons a r c=>
 cases r with
 |nil=>rfl
 |cons b r=>
  have e:(a::b::r).length-1=((b::r).length-1)+1:=by
   have h1:(a::b::r).length=r.length+2:=rfl;have h2:(b::r).length=r.length+1:=rfl;omega
  rw[e,List.eraseIdx_cons_succ,c]
  all_goals rfl)
theorem foldl_rep (Op:List Wp):∀(k:Nat) (wl:List Wp),
  vx (λb c=>b++c) wl.toArray (g2 k Op.toArray)=(wl++(g2 k Op).flatten).toArray
 |0,wl=>by simp
 |k+1,wl=>by
  have e:wl.toArray++Op.toArray=(wl++Op).toArray:=by simp
  have a:(wl++Op)++(g2 k Op).flatten=wl++(g2 (k+1) Op).flatten:=by
   rw[iW,jZ,dd]
  rw[<- a,<-foldl_rep Op k (wl++Op),<-e,iW,dF]
section
variable {X:Cx}{WP:List (B×Obj)}{ZB:St}{H:Hp}{s:Rs}{l b:B}{xs ys zs:List XV}
theorem Inv.mb {Op its':List Wp}{n:Nat}{f:Array Wp->Array Wp}{t':Nat}(W1:Inv X WP ZB H s) (a:H l=some (.lst xs))
  (e:s.heap.get? l=some {cls:=.type "list",data:=.seq Op.toArray n}) (hf:f Op.toArray=its'.toArray) (hv:wP ys its') (hz:ys.length<=Is):
  Inv X WP ZB (T0 H l (.lst ys)) {s with heap:=s.heap.update l (gR f),toks:=t'}:=by
 have q:=PySem.IsL.update e f;rw[hf]at q;refine W1.write (x:=l) (e:=l) (by rw[a];exact trivial) (.inl rfl) (λd u c hu=>(hH s.heap (gR f) (Ne.symm c)).trans hu) ⟨_,q⟩ ?_;exact⟨hz,its',_,hv,q⟩
theorem Inv.yZ {Op:List Wp}{t':Nat}(W1:Inv X WP ZB H s) (hv:wP ys Op) (hz:ys.length<=Is):
  Inv X WP ZB (T0 H s.heap.objs.size (.lst ys)) {s with heap:=s.heap.push {cls:=.type "list",data:=.seq Op.toArray},toks:=t'}:=
 W1.laid (λ_ _ q=>ls _ q) (t1 _) ⟨hz,Op,0,hv,a9 _ rfl⟩
theorem Inv.fresh (W1:Inv X WP ZB H s):H s.heap.objs.size=none:=W1.ag.fresh (t1 _)
theorem Inv.hh (W1:Inv X WP ZB H s) (a:H l=some (.lst xs)):xs.length<=Is/\∃(Op:List Wp) (n:Nat),wP xs Op/\xs.length=Op.length/\s.heap.get? l=some {cls:=.type "list",data:=.seq Op.toArray n}:=by
 obtain⟨z,Op,n,r,e⟩:=W1.ag l _ a;exact⟨z,Op,n,r,r.length,e⟩
theorem sm {n:Nat}(h:n<=Is):ll n=false:=by
 unfold ll;exact sw (by omega)
end
section
variable {X:Cx}
def JW:XV->List XV->Hp->VK->Prop:=λx vs H Q=>∃l xs y,x=.ref l/\vs=[y]/\H l=some (.lst xs)/\xs.length<Is/\Q .ak (T0 H l (.lst (xs++[y])))
theorem cP:lL X "list.append" JW:=by
 intro WP s ZB H x vs v us Q W1 d c h;obtain⟨l,xs,y,rfl,rfl,a,hz,q⟩:=h;cases d;obtain⟨u,rfl,b⟩:=c.one;obtain⟨z,Op,n,r,f,e⟩:=W1.hh a;refine jO F.slot_list_append ⟨_,e,O⟩ F.entry_list_append (F.args_list_append_2 _ _) (PySem.list_append l Op.toArray n u (by rw[aP];omega)) ⟨e,?_⟩;refine⟨.ak,_,W1.mb (its':=Op++[u]) a e (by simp) (r.append (.cons b .nil)) ?_,O,q⟩;rw[lv,bz];omega
def J0:XV->List XV->Hp->VK->Prop:=λx vs H Q=>∃l b xs zs,x=.ref l/\vs=[.ref b]/\H l=some (.lst xs)/\H b=some (.lst zs)/\xs.length+zs.length<=Is/\Q .ak (T0 H l (.lst (xs++zs)))
theorem Ht:lL X "list.extend" J0:=by(
intro WP s ZB H x vs v us Q W1 m k h;obtain⟨l,b,xs,zs,rfl,rfl,c,f,hz,q⟩:=h;cases m;obtain⟨u,rfl,j⟩:=k.one;cases j;obtain⟨z,Op,n,r,o,e⟩:=W1.hh c;obtain⟨t,a,n2,i,p,d⟩:=W1.hh f;have hsz:Op.toArray.size+a.toArray.size<=Is:=by rw[aP,aP];omega
have g:¬(!Op.toArray.isEmpty&&ll (Op.toArray.size+a.toArray.size))=true:=by
 rw[sm hsz,m9];exact b2
refine jO F.slot_list_extend ⟨_,e,O⟩ F.entry_list_extend (F.args_list_extend_2 _ _)
 (AutoSeq1.list_extend_list_list_0 l Op.toArray n b a.toArray n2 g (by rw[aP];omega) (by omega)) ⟨e,d,?_⟩
refine⟨.ak,_,W1.mb (its':=Op++a) c e (by simp) (r.append i) ?_,O,q⟩;rw[lv];omega)
def J4:XV->List XV->Hp->VK->Prop:=λx vs H Q=>∃l xs y,x=.ref l/\vs=[]/\H l=some (.lst xs)/\xs[xs.length-1]?=some y/\Q y (T0 H l (.lst xs.dropLast))
theorem Hv:lL X "list.pop" J4:=by(
intro WP s ZB H x vs v us Q W1 j i h;obtain⟨l,xs,y,rfl,rfl,a,d,q⟩:=h;cases j;have c:=i.zero;subst c;obtain⟨z,Op,n,r,b,e⟩:=W1.hh a;obtain⟨u,hu,g⟩:=r.get d;have f:Op.toArray[Op.toArray.size-1]?=some u:=by
 show Op.toArray[Op.length-1]?=some u;rw[<- Array.getElem?_toList,<-b];exact hu
refine jO F.slot_list_pop ⟨_,e,O⟩ F.entry_list_pop (F.args_list_pop_1 _) (MeetsSeq.list_pop_last l Op.toArray n u f (by rw[aP];omega)) ⟨e,?_⟩;refine⟨y,_,W1.mb (its':=Op.dropLast) a e ?_ r.dropLast ?_,g,q⟩
·show Op.toArray.eraseIdxIfInBounds (Op.toArray.size-1)=Op.dropLast.toArray;rw[aP,List.eraseIdxIfInBounds_toArray,EY]
·rw[List.length_dropLast];omega)
def J5:XV->List XV->Hp->VK->Prop:=λx vs H Q=>∃l xs,x=.ref l/\vs=[]/\H l=some (.lst xs)/\Q .ak (T0 H l (.lst xs.reverse))
theorem Hw:lL X "list.reverse" J5:=by
 intro WP s ZB H x vs v us Q W1 d c h;obtain⟨l,xs,rfl,rfl,a,q⟩:=h;cases d;have b:=c.zero;subst b;obtain⟨z,Op,n,r,f,e⟩:=W1.hh a;refine jO F.slot_list_reverse ⟨_,e,O⟩ F.entry_list_reverse (F.args_list_reverse_1 _) (AutoSeq1.list_reverse_list_0 l Op.toArray n (by rw[aP];omega)) ⟨e,?_⟩;refine⟨.ak,_,W1.mb (its':=Op.reverse) a e (by simp) r.reverse ?_,O,q⟩;rw[fG];omega
def JX:R2:=λx y H Q=>∃l b xs zs,x=.ref l/\y=.ref b/\H l=some (.lst xs)/\H b=some (.lst zs)/\xs.length+zs.length<=Is/\∀p,H p=none->Q (.ref p) (T0 H p (.lst (xs++zs)))
theorem I6:bE X (gJ .Add) JX:=by(
intro WP s ZB H x y v u Q W1 j k h;obtain⟨l,b,xs,zs,rfl,rfl,g,f,hz,q⟩:=h;cases j;cases k;obtain⟨z,Op,n,r,m,e⟩:=W1.hh g;obtain⟨p,a,n2,i,o,c⟩:=W1.hh f;refine PySem.P.add_list e c ?_ (by rw[aP,aP];omega);have d:Op.toArray++a.toArray=(Op++a).toArray:=by simp
rw[d];exact⟨.ref _,_,W1.yZ (t':=s.toks) (r.append i) (by rw[lv];omega),O,q _ W1.fresh⟩)
def zF:R2:=λx y H Q=>∃l k xs,x=.ref l/\y=.int k/\H l=some (.lst xs)/\ -(2^63)<=k/\k<2^63/\xs.length*k.toNat<=Is/\
 ∀p,H p=none->Q (.ref p) (T0 H p (.lst (g2 k.toNat xs).flatten))
theorem Ha {b:Type}(xs:List b) (k:Nat):(g2 k xs).flatten.length=k*xs.length:=by(
induction k with
|zero=>simp
|succ k a=>rw[iW,jZ,lv,a,Nat.succ_mul,Nat.add_comm])
theorem oS:bE X (gJ .Mult) zF:=by(
intro WP s ZB H x y v u Q W1 A C h;obtain⟨l,k,xs,rfl,rfl,f,h1,h2,hz,q⟩:=h;cases A;obtain⟨t,rfl⟩:=C;obtain⟨z,Op,n,r,j,e⟩:=W1.hh f;have o:Op.toArray.size*k.toNat<=Is:=by rw[aP,<-j];exact hz
have g:¬Op.toArray.size*k.toNat>(2^63-1)/8:=by
 have:(Is:Nat)<=(2^63-1)/8:=by decide
 omega
have i:¬(!MP k)=true:=by
 rw[fitsIndex_both h1 h2];exact b2
have p:¬ll (Op.toArray.size*k.toNat)=true:=by
 rw[sm o];exact b2
have w:vx (λb c=>b++c) #[] (g2 (if Op.toArray.isEmpty=true then 0 else k.toNat) Op.toArray)=(g2 k.toNat Op).flatten.toArray:=by
 have d:∀m:Nat,vx (λb c=>b++c) #[] (g2 m Op.toArray)=(g2 m Op).flatten.toArray:=λm=>by
  have:=foldl_rep Op m [];rw[lB]at this;exact this
 rw[d];cases Op with
 |nil=>simp
 |cons a D=>rw[Ps (by simp)]
refine wpAny_binaryOp_repeat_ref (T:="list") (U:="int") (by decide) ⟨_,e,O⟩ (λs'=>vI s' k t) noFill_list_mul F.fills_int_mul F.slot_int_rmul repeat_list F.slot_int_index.lookup
 (jO F.slot_int_rmul (vI s k t) F.entry_int_rmul (F.args_int_rmul_2 _ _) (int___rmul___int_list k t l Op.toArray n)
  ⟨e,O,⟨_,e,O⟩,jO F.slot_list_mul ⟨_,e,O⟩ F.entry_list_mul (F.args_list_mul_2 _ _) (AutoListH.list___mul___list_int_3 l Op.toArray n k t i g p) ⟨e,?_⟩⟩)
rw[w];exact⟨.ref _,_,W1.yZ (t':=s.toks) (r.rep k.toNat) (by rw[Ha,Nat.mul_comm];exact hz),O,q _ W1.fresh⟩)
end
theorem wP.ints:∀ {ns:List Int}{us:List Wp},wP (ns.map XV.int) us->cn us ns
 |[],us,h=>by
  rw[gU]at h;cases h;exact IntsAre.nil
 |n::ns,us,h=>by
  rw[na]at h;cases h with
  |cons r t=>
   obtain⟨k,rfl⟩:=r;exact IntsAre.cons n k (wP.ints t)
theorem wP.sT {a:B}{us:List Wp}(r:wP [XV.ref a] us):us=[f8 a]:=by(
cases r with
|cons r t=>
 cases t;cases r;rfl)
abbrev w9 (h:wn) (c:B) (v:Option Wp):Prop:=h.IsCell c v
def Ka (scope a:b7):b7:=
 {scope with names:=scope.names.map λ(n,k)=>if(k== .free&&a.kind== .function&&a.names.lookup n==some .cell)then(n,.cell)else(n,k)}
def cu (cells:List (Str×B)):List (Str×dW)->List (Str×B)->List (Str×B)
 |[],wl=>wl
 |(n,k)::r,wl=>if k== .free then cu cells r ((n,(cells.lookup n).getD 0)::wl)else cu cells r wl
theorem x2 (env:Env) (f:Str×dW->List (Str×B)->Sem (ForInStep (List (Str×B))))
  (hf:∀n k c,f (n,k) c=if k== .free then(do let a <-vV env n;pure (.yield ((n,a)::c)))else pure (.yield c)):
  ∀(names:List (Str×dW)) (wl:List (Str×B)),(∀y∈names,y.2=.free->∃c,env.cells.lookup y.1=some c)->forIn names wl f=pure (cu env.cells names wl)
 |[],wl,_=>by rw[mL];rfl
 |(n,k)::r,wl,h=>by
  rw[p7,hf];have g:=λwl=>x2 env f hf r wl λy j=>h y (on _ j);unfold cu;by_cases b:(k==lx)=true
  ·rw[No b,No b];obtain⟨c,d⟩:=h (n,k) lc (by simpa using b);have e:vV env n=pure c:=by unfold vV;rw[d]
   rw[e];have i:(env.cells.lookup n).getD 0=c:=by rw[d];rfl
   rw[i];exact g _
  ·rw[Ps b,Ps b];exact g _
theorem Et {scope:b7}{env:Env}(h:∀y∈scope.names,y.2=.free->∃c,env.cells.lookup y.1=some c):Cb scope env=pure (cu env.cells scope.names []):=by
 simp only[Cb];rw[x2 env _ (λn k c=>rfl) scope.names [] h];rfl
theorem mem_lookup {a:Type}:∀ {l:List (Str×a)}{n:Str}{c:a},(n,c)∈l->∃b,l.lookup n=some b
 |(k,v)::r,n,c,h=>by
  rw[iZ];cases d:n==k with
  |true=>exact⟨_,O⟩
  |false=>
   rcases s1.mp h with e|h
   ·cases e;simp at d
   ·exact mem_lookup h
theorem n' {cells:List (Str×B)}:∀ {names:List (Str×dW)}{wl:List (Str×B)}{n:Str}{c:B},(n,c)∈cu cells names wl->(n,c)∈wl\/((n,.free)∈names/\c=(cells.lookup n).getD 0)
 |[],_,_,_,h=>.inl h
 |(m,k)::r,wl,n,c,h=>by
  unfold cu at h;split at h
  ·rename_i a;have a:k=.free:=by simpa using a
   rcases n' h with h|⟨h1,h2⟩
   ·rcases s1.mp h with e|h
    ·cases e;exact .inr ⟨a▸lc,O⟩
    ·exact .inl h
   ·exact .inr ⟨on _ h1,h2⟩
  ·rcases n' h with h|⟨h1,h2⟩
   ·exact .inl h
   ·exact .inr ⟨on _ h1,h2⟩
theorem rE {cells:List (Str×B)}:∀ {names:List (Str×dW)}{wl:List (Str×B)}{p:Str×B},p∈wl->p∈cu cells names wl
 |[],_,_,h=>h
 |(m,k)::r,wl,p,h=>by
  unfold cu;split
  ·exact rE (on _ h)
  ·exact rE h
theorem rF {cells:List (Str×B)}:∀ {names:List (Str×dW)}{wl:List (Str×B)}{n:Str},(n,.free)∈names->(n,(cells.lookup n).getD 0)∈cu cells names wl
 |(m,k)::r,wl,n,h=>by
  unfold cu;rcases s1.mp h with e|h
  ·cases e;exact rE lc
  ·split
   ·exact rF h
   ·exact rF h
theorem lR:∀ {names:List (Str×dW)}{h:wn}{wl:List (Str×B)}{x:Str}{c:B},(x,c)∈cy h.objs.size names wl->
  (x,c)∈wl\/((x,.cell)∈names/\h.objs.size<=c/\w9 (iK h names) c none)
 |[],_,_,_,_,h=>.inl h
 |(n,k)::r,h,wl,x,c,hm=>by
  unfold cy at hm;unfold iK;split at hm
  ·rename_i a;rw[No a];have a:k=.cell:=by simpa using a
   rw[<- cK h {cls:=.type "cell",data:=.cell none}]at hm;rcases lR hm with hm|⟨h1,h2,b⟩
   ·rcases s1.mp hm with e|hm
    ·cases e;exact .inr ⟨a▸lc,t1 _,_,qh r _ _ _ (a9 _ rfl),O⟩
    ·exact .inl hm
   ·rw[cK]at h2;exact .inr ⟨on _ h1,qB h2,b⟩
  ·rename_i a;rw[Ps a];rcases lR hm with hm|⟨h1,h2,b⟩
   ·exact .inl hm
   ·exact .inr ⟨on _ h1,h2,b⟩
theorem n_:∀ {names:List (Str×dW)}{n:Nat}{wl:List (Str×B)}{p:Str×B},p∈wl->p∈cy n names wl
 |[],_,_,_,h=>h
 |(m,k)::r,n,wl,p,h=>by
  unfold cy;split
  ·exact n_ (on _ h)
  ·exact n_ h
theorem rC:∀ {names:List (Str×dW)}{n:Nat}{wl:List (Str×B)}{x:Str},(x,.cell)∈names->∃c,(x,c)∈cy n names wl
 |(m,k)::r,n,wl,x,h=>by
  unfold cy;rcases s1.mp h with e|h
  ·cases e;exact⟨n,n_ lc⟩
  ·split
   ·exact rC h
   ·exact rC h
theorem rD:∀ {names:List (Str×dW)}{h:wn}{wl:List (Str×B)}{x y:Str}{c:B},(∀p∈wl,p.2<h.objs.size)->(∀x y c,(x,c)∈wl->(y,c)∈wl->x=y)->
  (x,c)∈cy h.objs.size names wl->(y,c)∈cy h.objs.size names wl->x=y
 |[],_,_,_,_,_,_,hi,h1,h2=>hi _ _ _ h1 h2
 |(n,k)::r,h,wl,x,y,c,d,hi,h1,h2=>by
  unfold cy at h1 h2;split at h1
  ·rename_i f;rw[No f]at h2;rw[<- cK h {cls:=.type "cell",data:=.cell none}]at h1 h2;refine rD (h:=h.push _) (λp g=>?_) (λx y c a b=>?_) h1 h2
   ·rw[cK];rcases s1.mp g with rfl|g
    ·exact qC _
    ·exact lh (d p g)
   ·rcases s1.mp a with e|a<;>rcases s1.mp b with i|b
    ·cases e;cases i;rfl
    ·cases e;exact absurd (d _ b) (gM _)
    ·cases i;exact absurd (d _ a) (gM _)
    ·exact hi _ _ _ a b
  ·rename_i f;rw[Ps f]at h2;exact rD d hi h1 h2
theorem HH {TD:eE}{A:cs}{E:Wp->Rs->Prop}{s:Rs}{scope:b7}{wU:B}{a:List (Str×B)}{d:Str}{func:Option B}{code:Wp}{b:Env}{builtins:B}{Q:Env->Rs->Prop}
  (h:Q (newEnv scope s.heap.objs.size wU (cy (s.heap.objs.size+1) scope.names a) d func code (some b) builtins)
   {s with heap:=iK (s.heap.push {cls:=.type "dict",data:=.dict #[]}) scope.names}):
  wpAny TD A (BS scope wU a [] d func code (some b) builtins) Q E s:=by
 simp only[BS,Cy,aX];refine IR (wpAny_alloc ?_);refine IR (wpAny_layCells _ (λn k c=>rfl) scope.names a _ _ ?_);rw[show({s with heap:=s.heap.push {cls:=.type "dict",data:=.dict #[]}}:Rs).heap.objs.size=s.heap.objs.size+1 from cK ..];rw[mL];exact IR (t3 (t3 h))
theorem sd {a:b7}:∀ {names:List (Str×dW)}{x:Str}{k:dW},
  (names.map λ(n,k)=>if(k==lx&&a.kind== .function&&a.names.lookup n==some .cell)then(n,wN)else(n,k)).lookup x=some k->
  ∃e,names.lookup x=some e/\(k=e\/(e=.free/\k=.cell))
 |[],_,_,h=>by simp at h
 |(n,d)::r,x,k,h=>by
  have f:=@sd a r x k;have h':i0 x ((if(d==lx&&a.kind== .function&&a.names.lookup n==some .cell)=true then(n,wN)else(n,d))::(r.map _))=some k:=h;cases c:x==n with
  |true=>
   simp only[iZ,c];by_cases b:(d==lx&&a.kind== .function&&a.names.lookup n==some .cell)=true
   ·rw[No b]at h';simp only[iZ,c]at h';cases h';simp only[ga,f5]at b;exact⟨d,O,.inr ⟨b.1.1,O⟩⟩
   ·rw[Ps b]at h';simp only[iZ,c]at h';cases h';exact⟨_,O,.inl rfl⟩
  |false=>
   simp only[iZ,c];by_cases b:(d==lx&&a.kind== .function&&a.names.lookup n==some .cell)=true
   ·rw[No b]at h';simp only[iZ,c]at h';exact f h'
   ·rw[Ps b]at h';simp only[iZ,c]at h';exact f h'
structure lE (N:List Str) (a scope:b7) (own:List (Str×Nat)):Prop where
 kind:scope.kind=.function
 uniq:∀y∈scope.names,scope.names.lookup y.1=some y.2
 ix:∀p∈own,N[p.2]?=some p.1
 free:∀y∈scope.names,y.2=.free->a.names.lookup y.1=some .cell\/a.names.lookup y.1=some .free
 own:∀y∈scope.names,y.2=.local\/y.2=.cell->y.1∈own.map (·.1)\/y.1∉N
def np (ZB:St):List Nat->St
 |[]=>ZB
 |v::vs=>(np ZB vs).set v none
theorem vb (ZB:St):∀vs:List Nat,(np ZB vs).length=ZB.length
 |[]=>rfl
 |v::vs=>by unfold np;rw[Bs,vb ZB vs]
theorem vc {ZB:St}{i:Nat}{x:XV}:∀ {vs:List Nat},(np ZB vs)[i]?=some (some x)->ZB[i]?=some (some x)/\i∉vs
 |[],h=>⟨h,by simp⟩
 |v::vs,h=>by
  unfold np at h;by_cases hi:v=i
  ·subst hi;by_cases hv:v<(np ZB vs).length
   ·rw[ve hv]at h;cases h
   ·rw[hP (by simpa using hv)]at h;cases h
  ·rw[q1 hi]at h;obtain⟨h1,h2⟩:=vc h;exact⟨h1,by simp only[s1,not_or];exact⟨λe=>hi e.symm,h2⟩⟩
abbrev Cx.cM (X:Cx) (s:Rs) (H:Hp) (scope:b7) (a:Env) (fp:List B):Cx:= {X with da:=s,i3:=H,env:=a,outer:=X.stack,ex:=fp,fn:=λx=>scope.names.lookup x==some .cell,pn:=[],xe:=λ_ _=>False}
section
variable {X:Cx}{WP:List (B×Obj)}{ZB:St}{H:Hp}{s:Rs}
theorem Ee {scope:b7}{own:List (Str×Nat)}{fp:List B}(W1:Inv X WP ZB H s) (ok:lE X.N X.env.scope scope own) (Np:X.N.Nodup) (C:∀b∈fp,e5 X WP H b/\b<s.heap.objs.size):
  Inv (X.cM s H scope (eY scope (cy (s.heap.objs.size+1) scope.names (cu X.env.cells scope.names [])) s.heap.objs.size X.env) fp) [] (np ZB (own.map (·.2))) H {s with heap:=iK (s.heap.push {cls:=.type "dict",data:=.dict #[]}) scope.names}:=by(
have Nq:∀y∈scope.names,y.2=.free->∃c,X.env.cells.lookup y.1=some c:=λy h e=>by
 rcases ok.free y h e with k|k
 ·exact W1.ok.has _ (.inl k)
 ·exact W1.ok.has _ (.inr k)
generalize J:eY scope (cy (s.heap.objs.size+1) scope.names (cu X.env.cells scope.names [])) s.heap.objs.size X.env=d;have kp:∀b o,s.heap.get? b=some o->(iK (s.heap.push {cls:=.type "dict",data:=.dict #[]}) scope.names).get? b=some o:=λb o e=>qh _ _ _ _ (ls _ e);have Q:d.locals=s.heap.objs.size:=by rw[<- J];rfl
have x:d.cells=cy (s.heap.objs.size+1) scope.names (cu X.env.cells scope.names []):=by rw[<- J];rfl
have Nj:d.scope=Ka scope X.env.scope:=by rw[<- J];rfl
rw[<- cK s.heap {cls:=.type "dict",data:=.dict #[]}]at x;have E:∀ {y c},(y,c)∈cu X.env.cells scope.names []->X.env.cells.lookup y=some c/\c<s.heap.objs.size:=λ{y c} hm=>by
 rcases n' hm with hm|⟨h1,rfl⟩
 ·cases hm
 ·obtain⟨c,Nk⟩:=Nq _ h1 rfl;rw[Nk];obtain⟨w,z⟩:=W1.cell _ _ Nk;exact⟨O,z.lt⟩
have mem:∀ {y c},d.cells.lookup y=some c->(X.env.cells.lookup y=some c/\c<s.heap.objs.size)\/(s.heap.objs.size+1<=c/\w9 (iK (s.heap.push {cls:=.type "dict",data:=.dict #[]}) scope.names) c none):=λ{y c} e=>by
 rw[x]at e;rcases lR (ee e)with hm|⟨_,h2,Nn⟩
 ·exact .inl (E hm)
 ·rw[cK]at h2;exact .inr ⟨h2,Nn⟩
have look:∀ {y},scope.names.lookup y=some .free->∃c,d.cells.lookup y=some c/\X.env.cells.lookup y=some c:=λ{y} U=>by
 have h:(y,lx)∈scope.names:=ee U;obtain⟨L,f⟩:=mem_lookup (n_ (names:=scope.names) (n:=(s.heap.push {cls:=.type "dict",data:=.dict #[]}).objs.size) (rF (cells:=X.env.cells) (wl:=[]) h));rw[<- x]at f;refine⟨L,f,?_⟩;rw[x]at f;rcases lR (ee f)with hm|⟨h1,_,_⟩
 ·exact(E hm).1
 ·have:=ok.uniq _ h1;rw[U]at this;cases this
have Nx:(X.cM s H scope d fp).Ok:=by
 refine⟨W1.ok.mod,by show d.scope.kind=_;rw[Nj];exact ok.kind,by show d.globals=_;rw[<- J];exact W1.ok.glob,by show d.builtins=_;rw[<- J];exact W1.ok.blt,by show s.heap.objs.size<=d.locals;rw[Q];exact t1 _,
  λy z c j l=>?_,λy h=>?_,λy c z e=>?_,W1.ok.hd,W1.ok.frames,.inl rfl,λb t=>⟨?_,λy c e z=>?_⟩,W1.bs,dg W1.ok.g8 W1.sz,λb o e t=>?_,λb t z=>?_,W1.stack,W1.Am⟩
 ·have j:d.cells.lookup y=some c:=j;have l:d.cells.lookup z=some c:=l;rw[x]at j l;refine rD (λp D=>?_) (λy z c a b=>W1.ok.inj y z c (E a).1 (E b).1) (ee j) (ee l);rw[cK];exact lh (E (y:=p.1) (c:=p.2) D).2
 ·show ∃c,d.cells.lookup y=some c;have key:∀k,d.kindOf y=some k->(k=.cell\/k=.free)->∃c,d.cells.lookup y=some c:=λk A Y=>by
   unfold Env.kindOf at A;rw[Nj]at A;obtain⟨u,e,r⟩:=sd A;have:u=.cell\/u=.free:=by
    rcases r with rfl|⟨rfl,_⟩
    ·exact Y
    ·exact .inr rfl
   rcases this with rfl|rfl
   ·obtain⟨c,hm⟩:=rC (n:=(s.heap.push {cls:=.type "dict",data:=.dict #[]}).objs.size) (wl:=cu X.env.cells scope.names []) (ee e);obtain⟨L,f⟩:=mem_lookup hm;exact⟨L,by rw[x];exact f⟩
   ·obtain⟨c,h1,_⟩:=look e;exact⟨c,h1⟩
  rcases h with h|h
  ·exact key _ h (.inl rfl)
  ·exact key _ h (.inr rfl)
 ·have z:(scope.names.lookup y==some wN)=true:=z;have z:scope.names.lookup y=some .cell:=by simpa using z
  have e:d.cells.lookup y=some c:=e;rw[x]at e;rcases lR (ee e)with hm|⟨_,h2,_⟩
  ·rcases n' hm with hm|⟨h1,_⟩
   ·cases hm
   ·have q:=ok.uniq _ h1;rw[z]at q;cases q
  ·rw[cK]at h2;exact qB h2
 ·show b≠d.locals;rw[Q];exact b1 (C b t).2
 ·have e:d.cells.lookup y=some c:=e;rcases mem e with⟨h1,_⟩|⟨h1,_⟩
  ·exact(C b t).1.2.2.2.2.1 y c h1 z
  ·have h2:s.heap.objs.size+1<=b:=by rw[<- z];exact h1
   exact absurd (cT (C b t).2 (qB h2)) (gM _)
 ·rcases(C b t).1.2.2.2.1 with z|z
  ·exact W1.ok.mh b o e z
  ·exact absurd (cT (f0 e) (dg W1.ok.g8 z)) (gM _)
 ·rcases s1.mp (W1.uS b z)with z|z
  ·exact(C b t).1.2.1 z
  ·exact(C b t).1.2.2.1 z
refine⟨Nx,O,W1.bare,Un.kept kp,⟨λ_=>none,?_,λi y Nm j l g=>?_⟩,λy c e=>?_,?_,λy c e=>?_,λp D=>?_,W1.ag.kept kp,by rw[vb];exact W1.len⟩
·show Heap.Ns _ d.locals _;rw[Q];exact Heap.Ns.keeps (Heap.Ns.new ..) λb o e=>qh _ _ _ _ e
·obtain⟨l,Nu⟩:=vc l;have T:scope.names.lookup y=some .free/\(d.kindOf y=some .cell\/d.kindOf y=some .free):=by
  have key:∀k,d.scope.names.lookup y=some k->k=.local\/k=.cell\/k=.free->scope.names.lookup y=some .free/\(d.kindOf y=some .cell\/d.kindOf y=some .free):=λk A Y=>by
   have Nl:=A;rw[Nj]at A;obtain⟨u,e,r⟩:=sd A;have no:¬(u=.local\/u=.cell):=λNr=>by
    rcases ok.own _ (ee e) Nr with f|f
    ·obtain⟨p,D,Nv⟩:=m0.mp f;have g:=ok.ix p D;have:p.1=y:=Nv;rw[this]at g;exact Nu (m0.mpr ⟨p,D,sl Np g j⟩)
    ·exact f (pi j)
   rcases r with rfl|⟨rfl,rfl⟩
   ·rcases Y with rfl|rfl|rfl
    ·exact absurd (.inl rfl) no
    ·exact absurd (.inr rfl) no
    ·exact⟨e,.inr Nl⟩
   ·exact⟨e,.inl Nl⟩
  have g:j9 d.scope y:=g;rcases g with g|g|g
  ·exact key _ g (.inl rfl)
  ·exact key _ g (.inr (.inl rfl))
  ·exact key _ g (.inr (.inr rfl))
 obtain⟨m,hn,U⟩:=W1.loc;have Nw:j9 X.env.scope y:=(ok.free _ (ee T.1) rfl).elim (λk=>.inr (.inl k)) (λk=>.inr (.inr k));obtain⟨w,r,q⟩:=U i y Nm j l Nw;refine⟨w,r,.inr ⟨T.2,?_⟩⟩;obtain⟨c,h1,h2⟩:=look T.1;rcases q with⟨k,_⟩|⟨_,L,f,z⟩
 ·have k:X.env.scope.names.lookup y=some .local:=k;rcases ok.free _ (ee T.1) rfl with u|u<;>rw[show X.env.scope.names.lookup y=_ from u]at k<;>cases k
 ·rw[h2]at f;cases f;exact⟨c,h1,z.keeps kp⟩
·have e:d.cells.lookup y=some c:=e;rcases mem e with⟨h1,_⟩|⟨_,z⟩
 ·obtain⟨w,z⟩:=W1.cell y c h1;exact⟨w,z.keeps kp⟩
 ·exact⟨_,z⟩
·show H d.locals=none;rw[Q];exact W1.ag.fresh (t1 _)
·have e:d.cells.lookup y=some c:=e;rcases mem e with⟨h1,_⟩|⟨h1,_⟩
 ·exact W1.eP y c h1
 ·exact W1.ag.fresh (qB h1)
·exact absurd (show p∈([]:List (B×Obj))++[] from D) (by simp))
theorem D7 {E:Wp->Rs->Prop}{D:B}{xs:List XV}{y:XV}{v:Wp}{Q:Wp->Rs->Prop}(W1:Inv X WP ZB H s) (a:H D=some (.lst xs)) (hz:xs.length<Is) (r:RelV y v)
  (h:∀s',Inv X WP ZB (T0 H D (.lst (xs++[y]))) s'->Q .none s'):wpAny (Do X.prog X.w) X.A (call (.builtin "list.append") [.ref D,v]) Q E s:=by
 obtain⟨j,Op,n,d,e⟩:=W1.ag D _ a;have i:=d.length;refine append_at (hsz:=by rw[aP];omega) e λh' g c=>?_;refine h {s with heap:=h'} (W1.write (t':=s.toks) (by rw[a];trivial) (.inl rfl) (λb u f q=>(g.2 b f).trans q) ⟨_,c⟩ ⟨by rw[lv];exact hz,Op++[v],n+1,d.append (.cons r .nil),?_⟩);rw[c];simp
def lM (X:Cx) (a:List ws) (t:TT):Prop:=
 ∀(WP:List (B×Obj)) (s:Rs) (ZB:St) (H:Hp) (Q:Bool->Hp->Prop),Inv X WP ZB H s->t ZB H Q->
  wpAny (Do X.prog X.w) X.A (forIn a true λc r=>if r=true then do let ok <-isTrue c X.env (eval c X.env);pure (nj ok)else pure (nj r)) (TP X WP ZB Q) X.xe s
def iB:TT:=λ_ H Q=>Q true H
theorem fW:lM X [] iB:=λ_ _ _ H _ W1 h=>wpAny_tests_nil ⟨H,W1,h⟩
theorem JK {c:ws}{t:TT}(h:PT X c t):lM X [c] t:=λWP s ZB H Q W1 hw=>wpAny_tests_one (h WP s ZB H Q W1 hw)
end
theorem k0 {c:Type}{t:Sem c}{Q b:c->Rs->Prop}{TD:eE}{A:cs}{E:Wp->Rs->Prop}{s:Rs}(h:wpAny TD A t Q (λ_ _=>False) s) (d:∀a s,Q a s->b a s):wpAny TD A t b E s:=eB h d λ_ _ z=>d3 z
theorem Ew {prog:pu}{w:rs}{A:cs}{R:mX->Rs->Prop}{s:Rs}{d b bo:ws}{f:List ws}{scope:b7}{pos:Pos}{a wl:Wp}{env:Env}(W1:Nat->Rs->Prop)
  (turn:∀n s,W1 n s->wpAny (Do prog w) A (eD a) (λr g=>match r with
   |none=>R (.ok .next) g
   |some v=>wpAny (Do prog w) A (qg b a v) (λ_ l=>wpAny (Do prog w) A (jQ b env v) (λ_ o=>
     wpAny (Do prog w) A (forIn f true λc r=>if r=true then do let ok <-isTrue c env (eval c env);pure (nj ok)else pure (nj r)) (λok i=>
      if ok=true then wpAny (Do prog w) A (eval d env) (λx p=>
       wpAny (Do prog w) A (call (.builtin "list.append") [wl,x]) (λ_ q=>∃m,m<n/\W1 m q) (k8 (Do prog w) A env λe s'=>R (.error e) s') p) (k8 (Do prog w) A env λe s'=>R (.error e) s') i
      else ∃m,m<n/\W1 m i) (k8 (Do prog w) A env λe s'=>R (.error e) s') o) (k8 (Do prog w) A env λe s'=>R (.error e) s') l) (k8 (Do prog w) A env λe s'=>R (.error e) s') g) (k8 (Do prog w) A env λe s'=>R (.error e) s') s)
  (n:Nat) (h:W1 n s):
  codeAny (Do prog w) A (.compLoop (.ListComp d [⟨b,bo,f,0⟩] scope pos) 0 a wl env) R s:=by
 refine codeAny_loop rfl W1 (λn s t=>?_) n h;show wpAny _ A ((compTurn (.ListComp d [⟨b,bo,f,0⟩] scope pos) 0 a wl env).onRaise (λx=>do noteFrame x env;theTreesLotGoes x)) _ _ s;refine wpAny_noted ?_;rw[compTurn_list];refine IR (vC (IR (eB (turn n s t) (λr g j=>?_) λ_ _ h'=>h')));cases r with
 |none=>exact t3 j
 |some v=>
  refine IR (eB j (λ_ l u=>?_) λ_ _ h'=>h');refine IR (eB u (λ_ o y=>IR (eB y (λok i k=>?_) λ_ _ h'=>h')) λ_ _ h'=>h');cases ok with
  |false=>exact t3 ⟨O,k⟩
  |true=>
   exact IR (IR (eB k (λx p z=>IR (eB z (λ_ q C=>t3 (t3 ⟨O,C⟩)) λ_ _ h'=>h')) λ_ _ h'=>h'))
section
variable {X:Cx}
def kX (j:TI) (g:TG) (h:TT) (te:TE) (vs:List Nat):TE:=λZB H Q=>j ZB H λJ H1=>∀D,H1 D=none->∃W:Nat->Nat->Hp->Prop,(∃m,W 0 m (T0 H1 D (.lst [])))/\∀i m H,W i m H->
 (J.stop i H/\Q (.ref D) H)\/(J.go i H/\∃a:Hp->Prop,(∀V,a V->∃f,f<m/\W (i+1) f V)/\∀x V,J.ez i H x V->g x (np ZB vs) V λc H2=>np c vs=np ZB vs/\h c H2 λb d=>
  if b=true then te c d λy e=>∃wl,e D=some (.lst wl)/\wl.length<Is/\a (T0 e D (.lst (wl++[y])))else a d)
theorem yM {WP:List (B×Obj)}{s:Rs}{ZB:St}{H:Hp}{Q:VK}{Nm tg bo:ws}{Np:List ws}{scope:b7}{own:List (Str×Nat)}{pos fk:Pos}{N1:TI}{g:TG}{NZ:TT}{te:TE}{use:Option (Wp->Sem Unit)}{Qf:Wp->Rs->Prop}
  (NK:X.calm=true) (Oc:X.N.Nodup) (W1:Inv X WP ZB H s) (hi:PI X tg bo N1) (ok:lE X.N X.env.scope scope own)
  (hg:∀(s:Rs) (H:Hp) (C:B) (cl:List (Str×B)) (fp:List B),PG (X.cM s H scope (eY scope cl C X.env) fp) tg g) (Oo:∀(s:Rs) (H:Hp) (C:B) (cl:List (Str×B)) (fp:List B),lM (X.cM s H scope (eY scope cl C X.env) fp) Np NZ)
  (Og:∀(s:Rs) (H:Hp) (C:B) (cl:List (Str×B)) (fp:List B),PE (X.cM s H scope (eY scope cl C X.env) fp) Nm te) (Ol:∀x,qd bo X.env x=pure x)
  (h:kX N1 g NZ te (own.map (·.2)) ZB H Q)
  (Oe:∀D C s' m V,Inv X WP ZB V s'->Q (.ref D) V->s'.heap.Ns C m->e5 X WP V C->vP (Do X.prog X.w) X.A X.xe use Qf (.ref D) C (.ok .next) s'):
  wpAny (Do X.prog X.w) X.A (B2 (.ListComp Nm [⟨tg,bo,Np,0⟩] scope pos) scope X.env fk (newList []) false (eval bo X.env) use) Qf X.xe s:=by(
have Oh:∀y∈scope.names,y.2=.free->∃c,X.env.cells.lookup y.1=some c:=λy Nw e=>by
 rcases ok.free y Nw e with k|k
 ·exact W1.ok.has _ (.inl k)
 ·exact W1.ok.has _ (.inr k)
refine wpAny_comprehension_free (use:=use) rfl Ol (Et Oh) ok.kind (λy Nw e=>by rw[ok.uniq y Nw,e])
 (xL (hi WP s ZB H _ W1 h) λOP OM Oq=>xL Oq λOL Y h2=>?_)
obtain⟨NO,fp,Nu,OJ,H2,e,ND,T,NW,NH,q⟩:=h2;subst e;refine mQ (HH ?_) (by show 0<=Is;decide);generalize Nn:Y.heap.objs.size=D;have Ob:H2 D=none:=ND.ag.fresh (jU Nn);obtain⟨W,⟨Ov,N0⟩,turn⟩:=q D Ob;generalize NM:({Y with heap:=Y.heap.push {cls:=.type "list",data:=.seq ([]:List Wp).toArray}}:Rs)=a;have J:Inv X WP ZB (T0 H2 D (.lst [])) a:=by
 rw[<- NM];refine ND.laid (t':=Y.toks) (λb o e=>ls _ e) (jU Nn) ⟨g1 _,[],0,.nil,?_⟩;rw[<- Nn];exact a9 _ rfl
have NI:a.heap=Y.heap.push {cls:=.type "list",data:=.seq ([]:List Wp).toArray}:=by rw[<- NM]
have sz:∀b∈fp,b<Y.heap.objs.size:=λb d=>by
 obtain⟨o,e,_⟩:=T.obj _ _ NW b d;exact f0 e
have E:∀b∈fp,e5 X WP (T0 H2 D (.lst [])) b/\b<a.heap.objs.size:=λb d=>by
 have NL:=sz b d;refine⟨⟨?_,(NH b d).2⟩,by rw[NI,cK];exact lh NL⟩;rw[Uf (by rw[<- Nn];exact b1 NL)];exact(NH b d).1
have OD:Nu 0 a.heap:=T.keep _ _ _ NW λb _ o e=>by rw[NI];exact ls _ e
have Nj:=Ee J ok Oc E;have pg:=hg a (T0 H2 D (.lst [])) a.heap.objs.size (cy (a.heap.objs.size+1) scope.names (cu X.env.cells scope.names [])) fp;have pt:=Oo a (T0 H2 D (.lst [])) a.heap.objs.size (cy (a.heap.objs.size+1) scope.names (cu X.env.cells scope.names [])) fp;have Nx:=Og a (T0 H2 D (.lst [])) a.heap.objs.size (cy (a.heap.objs.size+1) scope.names (cu X.env.cells scope.names [])) fp;show codeAny _ _ (.compStart (.ListComp Nm [⟨tg,bo,Np,0⟩] scope pos) 0 (.ref NO) (.ref D) (eY scope (cy (a.heap.objs.size+1) scope.names (cu X.env.cells scope.names [])) a.heap.objs.size X.env)) (vP (Do X.prog X.w) X.A X.xe use Qf (.ref D) a.heap.objs.size) {a with heap:=iK (a.heap.push {cls:=.type "dict",data:=.dict #[]}) scope.names};have NR:∀b∈fp,(T0 H2 D (.lst [])) b=none:=λb d=>(E b d).1.1;generalize Of:eY scope (cy (a.heap.objs.size+1) scope.names (cu X.env.cells scope.names [])) a.heap.objs.size X.env=f at Nj pg pt Nx⊢;have NG:f.locals=a.heap.objs.size:=by subst Of;rfl
generalize OK:T0 H2 D (.lst [])=l at J Nj pg pt Nx N0 NR E;generalize Om:({a with heap:=iK (a.heap.push {cls:=.type "dict",data:=.dict #[]}) scope.names}:Rs)=NU at Nj⊢;have NX:Nu 0 NU.heap:=T.keep _ _ _ OD λb _ o e=>by rw[<- Om];exact qh _ _ _ _ (ls _ e)
have NA:∀ {N2:St}{V:Hp}{s':Rs},Inv (X.cM a l scope f fp) [] N2 V s'->(∀b∈fp,V b=none)->∀b∈fp,e5 (X.cM a l scope f fp) [] V b:=λ{N2 V s'} L hn b d=>
 ⟨hn b d,(L.ok.oe b d).1,L.ok.lX b d,.inl d,λx c e=>(L.ok.oe b d).2 x c e,λp Oj=>absurd (show p∈([]:List (B×Obj))++[] from Oj) (by simp)⟩
have NQ:codeAny (Do X.prog X.w) X.A (.compLoop (.ListComp Nm [⟨tg,bo,Np,0⟩] scope pos) 0 (.ref NO) (.ref D) f) (vP (Do X.prog X.w) X.A X.xe use Qf (.ref D) a.heap.objs.size) NU:=by
 refine Ew (λn s'=>∃i V,Inv (X.cM a l scope f fp) [] (np ZB (own.map (·.2))) V s'/\Nu i s'.heap/\(∀b∈fp,V b=none)/\W i n V) ?_ Ov ⟨0,l,Nj,NX,NR,N0⟩;rintro n NV ⟨i,t,Nk,NY,n5,OG⟩;rcases turn i n t OG with⟨stop,Oy⟩|⟨go,N9,Od,step⟩
 ·have td:=T.done (X.cM a l scope f fp) rfl rfl rfl NK i [] NV _ t (λ_ _=>False) Nk (NA Nk n5) NY stop;refine k0 td λr Nr ⟨hr,U⟩=>?_;subst hr;have Nl:Inv X WP ZB t Nr:=J.En (ch:=fp) U.os U.base U.ag U.bare λb d=>⟨(E b d).1.2.2.2.1,(E b d).1.2.1,(E b d).1.2.2.2.2.1,(E b d).1.2.2.2.2.2⟩;have Ow:t a.heap.objs.size=none:=by
   have z:t f.locals=none:=U.free;rw[NG]at z;exact z
  obtain⟨m,hn,_⟩:=U.loc;have hn:Nr.heap.Ns f.locals m:=hn;rw[NG]at hn;exact Oe D a.heap.objs.size Nr m t Nl Oy hn (J.km (t1 _) Ow)
 ·have OE:=T.item (X.cM a l scope f fp) rfl rfl rfl NK i [] NV _ t (λ_ _=>False) Nk (NA Nk n5) NY go;refine k0 OE λr Nr ⟨u,hr,N_⟩=>?_;subst hr;refine k0 N_ λ_ Ny ⟨x,NC,Nl,OA,OH,Nz,n7⟩=>?_;have N7:=Nl.pinned (NA Nl n7) (T.obj _ _ Nz);refine k0 (pg _ Ny _ NC x u _ N7 OA (step x NC OH)) λ_ OB ⟨Nv,N3,N8,NN,Ox⟩=>?_;refine k0 (pt _ OB Nv N3 _ N8 Ox) λb OC ⟨N4,NF,Nq⟩=>?_;have fin:∀ {s':Rs}{V:Hp},Inv (X.cM a l scope f fp) ([]++mu fp Ny.heap) Nv V s'->N9 V->∃m,m<n/\∃i V,Inv (X.cM a l scope f fp) [] (np ZB (own.map (·.2))) V s'/\Nu i s'.heap/\(∀b∈fp,V b=none)/\W i m V:=λ{s' V} L nx=>by
   obtain⟨Ou,hm,OF⟩:=Od V nx;have NS:∀b∈fp,∀o,Ny.heap.get? b=some o->s'.heap.get? b=some o/\V b=none:=λb d o e=>
    let z:=L.pin (b,o) (fE _ (fE _ (si d e)))
    ⟨z.1,z.2.1⟩
   have Oi:(np ZB (own.map (·.2))).length=Nv.length:=by rw[<- NN,vb]
   refine⟨Ou,hm,i+1,V,(L.pW (WP:=[])).weak Oi (λj v e=>?_),T.keep _ _ _ Nz λb d o e=>(NS b d o e).1,λb d=>?_,OF⟩
   ·rw[<- NN]at e;exact(vc e).1
   ·obtain⟨o,e,_⟩:=T.obj _ _ Nz b d;exact(NS b d o e).2
  cases b with
  |false=>
   simp only[fF,aF]at Nq⊢;exact fin NF Nq
  |true=>
   simp only[aX]at Nq⊢;refine k0 (Nx _ OC Nv N4 _ NF Nq) λz ON ⟨OQ,OI,N5,Oz,wl,Oa,Ot,nx⟩=>?_;exact D7 (X:=X.cM a l scope f fp) N5 Oa Ot Oz λOO N6=>fin N6 nx
exact codeAny_compStart_list NQ (T.self X.A 0 _ _ _ NX NQ))
theorem iu {a tg bo:ws}{c:List ws}{scope:b7}{own:List (Str×Nat)}{pos:Pos}{i:TI}{g:TG}{d:TT}{te:TE}(w:X.calm=true) (t:X.N.Nodup) (hi:PI X tg bo i) (ok:lE X.N X.env.scope scope own)
  (hg:∀(s:Rs) (H:Hp) (C:B) (cl:List (Str×B)) (fp:List B),PG (X.cM s H scope (eY scope cl C X.env) fp) tg g) (A:∀(s:Rs) (H:Hp) (C:B) (cl:List (Str×B)) (fp:List B),lM (X.cM s H scope (eY scope cl C X.env) fp) c d)
  (y:∀(s:Rs) (H:Hp) (C:B) (cl:List (Str×B)) (fp:List B),PE (X.cM s H scope (eY scope cl C X.env) fp) a te) (z:∀x,qd bo X.env x=pure x:=by intro _;rfl):
  PE X (.ListComp a [⟨tg,bo,c,0⟩] scope pos) (kX i g d te (own.map (·.2))):=by
 intro WP s ZB H Q W1 h;rw[eval_ListComp];refine yM w t W1 hi ok hg A y z h λD C s' m V j q hn f=>⟨m,hn,λL E=>?_⟩;obtain⟨k,l,J,n,p,r⟩:=f;exact⟨.ref D,V,j.turned (t':=s'.toks) (λb o u e=>(E.2 b u).trans e) k l n p r,O,q⟩
theorem o1 {i:Nat}{y:Str}{j:Pos}{d tg bo:ws}{c:List ws}{scope:b7}{own:List (Str×Nat)}{pos u:Pos}{l:TI}{g:TG}{k:TT}{te:TE}(Nk:X.calm=true) (r:X.N.Nodup) (Nr:X.N[i]?=some y) (t:X.env.scope.names.lookup y=some .local)
  (Np:mU (.ListComp d [⟨tg,bo,c,0⟩] scope pos) (some (.Name y j)) u.line X.env=pure true) (hi:PI X tg bo l) (ok:lE X.N X.env.scope scope own)
  (hg:∀(s:Rs) (H:Hp) (C:B) (cl:List (Str×B)) (fp:List B),PG (X.cM s H scope (eY scope cl C X.env) fp) tg g) (Nq:∀(s:Rs) (H:Hp) (C:B) (cl:List (Str×B)) (fp:List B),lM (X.cM s H scope (eY scope cl C X.env) fp) c k)
  (Nl:∀(s:Rs) (H:Hp) (C:B) (cl:List (Str×B)) (fp:List B),PE (X.cM s H scope (eY scope cl C X.env) fp) d te) (Nn:∀x,qd bo X.env x=pure x:=by intro _;rfl):
  PS X (.Assign [.Name y j] (.ListComp d [⟨tg,bo,c,0⟩] scope pos) u) (iA (kX l g k te (own.map (·.2))) (bG i)):=by(
intro WP s ZB H D W1 h;rw[exec_Assign_Name_used _ _ _ _ Np];refine IR (vC (IR ?_));show wpAny _ X.A (do let _ <-B2 (.ListComp d [⟨tg,bo,c,0⟩] scope pos) scope X.env (firstIterPos [⟨tg,bo,c,0⟩] pos) (newList []) false (eval bo X.env) (some (jQ (.Name y j) X.env))) _ _ s;have h:kX l g k te (own.map (·.2)) ZB H (λx H1=>bG i x ZB H1 D.nx):=h;refine IR (xL (yM (Qf:=λ_ s'=>SP X WP D .next s') Nk r W1 hi ok hg Nq Nl Nn h λL C s' m V w q hn f=>?_) λ_ s' Nm=>t3 (t3 Nm));show wpAny _ _ (jQ (.Name y j) X.env (.ref L)) _ _ _;refine BI (Ao (v:=XV.ref L) w r Nr (.inl t) rfl (λNu E ⟨a,Nv,U⟩=>?_) (.inr t));obtain⟨J,n,Nx,Q,p,T⟩:=f;have Y:C≠a:=by
 rcases U with z|z
 ·rw[z];exact n
 ·exact λe=>p y a z e.symm
refine⟨m,hn.sameBut Nv Y,λNy Nw=>?_⟩;exact⟨_,V,E.turned (t':=Nu.toks) (λb o Nj e=>(Nw.2 b Nj).trans e) J n Q p T,q⟩)
end
theorem l7 {K:xz}{a:B}{xs:List XV}{g:TG}{n:TT}{te:TE}{vs:List Nat}{ZB:St}{H1:Hp}{D:B}{j:Hp->Prop}(Pv:Nat->Hp->Prop) (h0:Pv 0 (T0 H1 D (.lst []))) (o:∀i H,i<=xs.length->Pv i H->TW K H a xs)
  (r:∀i x H,xs[i]?=some x->Pv i H->g x (np ZB vs) H λc H2=>np c vs=np ZB vs/\n c H2 λb d=>
   if b=true then te c d λy f=>∃wl,f D=some (.lst wl)/\wl.length<Is/\Pv (i+1) (T0 f D (.lst (wl++[y])))else Pv (i+1) d) (hd:∀H,Pv xs.length H->j H):
  ∃W:Nat->Nat->Hp->Prop,(∃m,W 0 m (T0 H1 D (.lst [])))/\∀i m H,W i m H->
   ((cD K a).stop i H/\j H)\/((cD K a).go i H/\∃h:Hp->Prop,(∀V,h V->∃l,l<m/\W (i+1) l V)/\∀x V,(cD K a).ez i H x V->g x (np ZB vs) V λc H2=>np c vs=np ZB vs/\n c H2 λb d=>
    if b=true then te c d λy f=>∃wl,f D=some (.lst wl)/\wl.length<Is/\h (T0 f D (.lst (wl++[y])))else h d):=by(
refine⟨λi m H=>m=xs.length-i/\i<=xs.length/\Pv i H,⟨xs.length,by simp,g1 _,h0⟩,?_⟩;rintro i m H ⟨rfl,hi,p⟩;have q:=o i H hi p;by_cases k:i<xs.length
·refine .inr ⟨⟨xs,xs[i],q,by simp[k]⟩,Pv (i+1),λV s=>⟨xs.length-(i+1),by omega,O,k,s⟩,λx V y=>?_⟩;obtain⟨e,y⟩:=y;subst e;exact r i x _ (y xs q) p
·have e:i=xs.length:=by omega
 subst e;exact .inl ⟨⟨xs,q,t1 _⟩,hd H p⟩)
def xH (N:List Str) (a scope:b7) (own:List (Str×Nat)):Bool:=
 (match scope.kind with|.function=>true|_=>false)&&(scope.names.all λy=>decide (scope.names.lookup y.1=some y.2))&&(own.all λp=>decide (N[p.2]?=some p.1))&&
  (scope.names.all λy=>match y.2 with
   |.free=>(match a.names.lookup y.1 with|some .cell=>true|some .free=>true|_=>false)
   |.local=>decide (y.1∈own.map (·.1))||decide (y.1∉N)
   |.cell=>decide (y.1∈own.map (·.1))||decide (y.1∉N)
   |_=>true)
theorem e9 {N:List Str}{c scope:b7}{own:List (Str×Nat)}(h:xH N c scope own=true):lE N c scope own:=by(
unfold xH at h;simp only[ga,gS,f4]at h;obtain⟨⟨⟨h1,h2⟩,d⟩,b⟩:=h;refine⟨?_,h2,d,λy a e=>?_,λy a e=>?_⟩
·split at h1
 ·assumption
 ·cases h1
·have q:=b y a;simp only[e]at q;split at q<;>first|exact .inl (by assumption)|exact .inr (by assumption)|cases q
·have q:=b y a;rcases e with e|e<;>(simp only[e,gN,f4]at q;exact q))
section
variable {κ:Type} [DecidableEq κ]
def jp (UF:List (κ×XV)) (k:κ):Option XV:=(UF.find? λa=>decide (a.1=k)).map (·.2)
def ax (UF:List (κ×XV)) (k:κ) (v:XV):List (κ×XV):=
 if(UF.any λa=>decide (a.1=k))=true then UF.map (λa=>if a.1=k then(a.1,v)else a)else UF++[(k,v)]
theorem LU {k:κ}:jp ([]:List (κ×XV)) k=none:=rfl
theorem fx {p:κ×XV}{r:List (κ×XV)}{k:κ}(e:p.1=k):jp (p::r) k=some p.2:=by simp[jp,j2,e]
theorem fw {p:κ×XV}{r:List (κ×XV)}{k:κ}(e:¬p.1=k):jp (p::r) k=jp r k:=by simp[jp,j2,e]
theorem jI (k:κ):∀UF:List (κ×XV),(UF.any λa=>decide (a.1=k))=(jp UF k).isSome
 |[]=>rfl
 |p::r=>by
  rw[p9];by_cases e:p.1=k
  ·simp only[fx e,s2 e,Bool.true_or,Cy]
  ·rw[fw e,sw e,Co];exact jI k r
theorem AL (k j:κ) (y:XV):∀UF:List (κ×XV),jp (UF.map λa=>if a.1=k then(a.1,y)else a) j=(jp UF j).map λx=>if j=k then y else x
 |[]=>rfl
 |p::r=>by
  have b:=AL k j y r;rw[na];by_cases h:p.1=k
  ·rw[No h];by_cases e:p.1=j
   ·rw[fx (p:=(p.1,y)) e,fx e,hM,No (e.symm.trans h)]
   ·rw[fw (p:=(p.1,y)) e,fw e,b]
  ·rw[Ps h];by_cases e:p.1=j
   ·rw[fx (p:=p) e,fx e,hM,Ps (λz=>h (e.trans z))]
   ·rw[fw (p:=p) e,fw e,b]
theorem AN (k j:κ) (y:XV):∀UF:List (κ×XV),jp UF k=none->jp (UF++[(k,y)]) j=if j=k then some y else jp UF j
 |[],_=>by
  by_cases e:k=j
  ·rw[No e.symm];exact fx (p:=(k,y)) e
  ·rw[Ps (λz=>e z.symm)];exact fw (p:=(k,y)) e
 |p::r,hn=>by
  rw[lA];have a:¬p.1=k:=λz=>by rw[fx z]at hn;cases hn
  rw[fw a]at hn;have b:=AN k j y r hn;by_cases e:p.1=j
  ·rw[fx e,fx e,Ps (λz=>a (e.trans z))]
  ·rw[fw e,fw e,b]
theorem jJ (UF:List (κ×XV)) (k j:κ) (y:XV):jp (ax UF k y) j=if j=k then some y else jp UF j:=by(
unfold ax;by_cases a:(UF.any λc=>decide (c.1=k))=true
·rw[No a,AL];rw[jI]at a;by_cases e:j=k
 ·obtain⟨x,b⟩:=Cu.mp a;rw[No e,e,b,hM,No rfl]
 ·rw[Ps e];cases jp UF j with
  |none=>rfl
  |some x=>rw[hM,Ps e]
·rw[Ps a];refine AN k j y UF ?_;rw[jI]at a;cases q:jp UF k with
 |none=>rfl
 |some x=>rw[q]at a;exact(a rfl).elim)
theorem r' (UF:List (κ×XV)) (k:κ) (v:XV):(ax UF k v).length<=UF.length+1:=by(
unfold ax;split
·rw[FS];omega
·rw[lv,bh,j1];omega)
theorem cZ.r7 {o:Option XV}{u:Option Wp}(r:cZ o u):o.isSome=u.isSome:=by(
cases o with
|none=>cases u with
 |none=>rfl
 |some _=>exact(show False from r).elim
|some _=>cases u with
 |none=>exact(show False from r).elim
 |some _=>rfl)
theorem cZ.getD {o:Option XV}{u:Option Wp}{d:XV}{d':Wp}(r:cZ o u) (a:RelV d d'):RelV (o.getD d) (u.getD d'):=by(
cases o with
|none=>cases u with
 |none=>exact a
 |some _=>exact(show False from r).elim
|some _=>cases u with
 |none=>exact(show False from r).elim
 |some _=>exact r)
theorem KV.val {UF:List (κ×XV)}{vs:List (κ×Wp)}(r:KV UF vs) (k:κ):cZ (jp UF k) (hF vs k):=by(
unfold KV at r
induction r with
|nil=>exact True.intro
|@cons p q ps c h t d=>
 obtain⟨h1,h2⟩:=h;by_cases e:p.1=k
 ·have a:q.1=k:=h1.symm.trans e;have b:hF (q::c) k=some q.2:=by simp[hF,j2,a]
  rw[fx e,b];exact h2
 ·have a:¬q.1=k:=λz=>e (h1.trans z);have b:hF (q::c) k=hF c k:=by simp[hF,j2,a]
  rw[fw e,b];exact d)
theorem KV.any {UF:List (κ×XV)}{vs:List (κ×Wp)}(r:KV UF vs) (k:κ):(UF.any λa=>decide (a.1=k))=vs.any λa=>decide (a.1=k):=by(
unfold KV at r
induction r with
|nil=>rfl
|cons h t b=>rw[p9,p9,b,h.1])
theorem KV.sU {UF:List (κ×XV)}{vs:List (κ×Wp)}(r:KV UF vs) (k:κ) {y:XV}{u:Wp}(c:RelV y u):
  KV (UF.map λa=>if a.1=k then(a.1,y)else a) (vs.map λa=>if a.1=k then(a.1,u)else a):=by(
unfold KV at r⊢
induction r with
|nil=>exact .nil
|@cons p q ps d h t b=>
 rw[na,na];refine .cons ?_ b;obtain⟨h1,h2⟩:=h;by_cases e:p.1=k
 ·rw[No e,No (h1.symm.trans e)];exact⟨h1,c⟩
 ·rw[Ps e,Ps (λz=>e (h1.trans z))];exact⟨h1,h2⟩)
theorem KV.put {UF:List (κ×XV)}{vs:List (κ×Wp)}(r:KV UF vs) (k:κ) {y:XV}{u:Wp}(a:RelV y u):KV (ax UF k y) (vW vs k u):=by(
unfold ax vW;rw[r.any k];by_cases e:(vs.any λb=>decide (b.1=k))=true
·rw[No e,No e];exact r.sU k a
·rw[Ps e,Ps e];exact Paired.snoc r ⟨O,a⟩)
theorem KV.length {UF:List (κ×XV)}{vs:List (κ×Wp)}(r:KV UF vs):UF.length=vs.length:=Paired.length r
end
theorem il {P:pu}{w:rs}{k:wS}{u:Wp}(r:RelV (kV k) u):(b5 P w).is k u=true:=by(
cases k with
|inl i=>obtain⟨t,e⟩:=(show ∃t,u=hN i t from r);subst e;exact Hq P w i t
|inr x=>obtain⟨t,e⟩:=(show ∃t,u=Value.str x t from r);subst e;exact Hr P w x t)
theorem yC {P:pu}{w:rs}:∀ {ks:List wS}{us:List Wp},wP (ks.map kV) us->ItemsAre (b5 P w) ks us
 |[],_,r=>by rw[gU]at r;cases r;exact .nil
 |k::ks,_,r=>by
  rw[na]at r;cases r with
  |cons h t=>exact .cons (il h) (yC t)
abbrev KT (H:Hp):List (List wS×XV)->List (List wS×B×Wp)->Prop:=Paired λp q=>p.1=q.1/\H q.2.1=some (.tup (p.1.map kV))/\RelV p.2 q.2.2
theorem KT.val {H:Hp}{UF:List (List wS×XV)}{xs:List (List wS×B×Wp)}(r:KT H UF xs) (k:List wS):cZ (jp UF k) ((hG xs k).map (·.2)):=by(
induction r with
|nil=>exact True.intro
|@cons p q ps c h t d=>
 obtain⟨h1,_,h2⟩:=h;by_cases e:p.1=k
 ·have a:q.1=k:=h1.symm.trans e;have b:hG (q::c) k=some q.2:=by simp[hG,j2,a]
  rw[fx e,b];exact h2
 ·have a:¬q.1=k:=λz=>e (h1.trans z);have b:hG (q::c) k=hG c k:=by simp[hG,j2,a]
  rw[fw e,b];exact d)
theorem KT.sU {H:Hp}{UF:List (List wS×XV)}{xs:List (List wS×B×Wp)}(r:KT H UF xs) (k:List wS) {y:XV}{u:Wp}(d:RelV y u):
  KT H (UF.map λa=>if a.1=k then(a.1,y)else a) (xs.map (putAt k u)):=by(
induction r with
|nil=>exact .nil
|@cons p q ps f h t c=>
 rw[na,na];refine .cons ?_ c;obtain⟨h1,h2,b⟩:=h;unfold putAt;by_cases e:p.1=k
 ·rw[No e,No (h1.symm.trans e)];exact⟨h1,h2,d⟩
 ·rw[Ps e,Ps (λz=>e (h1.trans z))];exact⟨h1,h2,b⟩)
theorem KT.put {H:Hp}{UF:List (List wS×XV)}{xs:List (List wS×B×Wp)}(r:KT H UF xs) (k:List wS) {b:B}{y:XV}{u:Wp}(c:H b=some (.tup (k.map kV))) (a:RelV y u):
  KT H (ax UF k y) (storedH xs k b u):=by(
have e:(UF.any λd=>decide (d.1=k))=(hG xs k).isSome:=by
 rw[jI,(r.val k).r7,Cz]
unfold ax storedH;rw[e];by_cases q:(hG xs k).isSome=true
·rw[No q,No q];exact r.sU k a
·rw[Ps q,Ps q];exact Paired.snoc r ⟨O,c,a⟩)
theorem KT.keeps {H V:Hp}{UF:List (List wS×XV)}{xs:List (List wS×B×Wp)}(r:KT H UF xs) (a:∀b ys,H b=some (.tup ys)->V b=some (.tup ys)):KT V UF xs:=
 Paired.se r λ_ _ z=>⟨z.1,a _ _ z.2.1,z.2.2⟩
section
variable {P:pu}{w:rs}{H:Hp}{h:wn}{a:B}
theorem zK {u:HO}(ok:aQ P w H h) (e:Rd H a u):bq P w H h a u:=e.ok ok
theorem kf {UF:List (wS×XV)}(ok:aQ P w H h) (e:Rd H a (.dK UF)):UF.length<=Is/\(a==eA)=false/\∃vs,KV UF vs/\h.DictOf (b5 P w) a vs:=
 show bq P w H h a (.dK UF) from zK ok e
theorem x' {UF:List (wS×XV)}(ok:aQ P w H h) (e:H a=some (.dK UF)):UF.length<=Is/\(a==eA)=false/\∃vs,KV UF vs/\h.DictOf (b5 P w) a vs:=kf ok (.inl e)
theorem l5 {ks:List wS}(ok:aQ P w H h) (e:H a=some (.tup (ks.map kV))):(k6 (b5 P w)).is h ks a:=by
 obtain⟨_,Op,r,o,h1,h2,n,b⟩:=(show bq P w H h a (.tup (ks.map kV)) from ok a _ e);exact⟨o,Op.toArray,n,h1,h2,b,by simpa using yC r⟩
theorem kg {UF:List (List wS×XV)}(ok:aQ P w H h) (e:Rd H a (.dT UF)):UF.length<=Is/\(a==eA)=false/\
  ∃xs,KT H UF xs/\h.DictOfH (k6 (b5 P w)) a xs:=by(
obtain⟨z,y,xs,r,o,es,ep,h1,h2,d,f,g⟩:=(show bq P w H h a (.dT UF) from zK ok e);refine⟨z,y,xs,r,o,es,ep,h1,h2,d,f,λx b=>?_,g⟩;have all:∀ {l:List (List wS×XV)}{m:List (List wS×B×Wp)},KT H l m->∀x∈m,(k6 (b5 P w)).is h x.1 x.2.1:=by
 intro l m q
 induction q with
 |nil=>intro x b;exact nomatch b
 |@cons p q ps j c t i=>
  intro x b;rcases s1.mp b with e|b
  ·subst e;exact l5 ok (by rw[<- c.1];exact c.2.1)
  ·exact i x b
exact all r x b)
theorem yc {UF:List (List wS×XV)}(ok:aQ P w H h) (e:H a=some (.dT UF)):UF.length<=Is/\(a==eA)=false/\
  ∃xs,KT H UF xs/\h.DictOfH (k6 (b5 P w)) a xs:=kg ok (.inl e)
end
def cC (H:Hp) (a:B) (y:XV) (r:Option XV):Prop:=
 (∃UF k,Rd H a (.dK UF)/\y=kV k/\r=jp UF k)\/∃UF k b,Rd H a (.dT UF)/\y=.ref b/\H b=some (.tup (k.map kV))/\r=jp UF k
def fL (H:Hp) (a:B) (y v:XV) (V:Hp):Prop:=
 (∃UF k,H a=some (.dK UF)/\y=kV k/\UF.length<Is/\V=T0 H a (.dK (ax UF k v)))\/
 ∃UF k b,H a=some (.dT UF)/\y=.ref b/\H b=some (.tup (k.map kV))/\UF.length<Is/\V=T0 H a (.dT (ax UF k v))
theorem cC.k {H:Hp}{a:B}{UF:List (wS×XV)}{k:wS}(e:H a=some (.dK UF)):cC H a (kV k) (jp UF k):=.inl ⟨UF,k,.inl e,O,O⟩
theorem cC.t {H:Hp}{a b:B}{UF:List (List wS×XV)}{k:List wS}(e:H a=some (.dT UF)) (c:H b=some (.tup (k.map kV))):cC H a (.ref b) (jp UF k):=.inr ⟨UF,k,b,.inl e,O,c,O⟩
theorem fL.k {H:Hp}{a:B}{UF:List (wS×XV)}{k:wS}{v:XV}(e:H a=some (.dK UF)) (b:UF.length<Is):fL H a (kV k) v (T0 H a (.dK (ax UF k v))):=.inl ⟨UF,k,e,O,b,O⟩
theorem fL.t {H:Hp}{a b:B}{UF:List (List wS×XV)}{k:List wS}{v:XV}(e:H a=some (.dT UF)) (c:H b=some (.tup (k.map kV))) (d:UF.length<Is):
  fL H a (.ref b) v (T0 H a (.dT (ax UF k v))):=.inr ⟨UF,k,b,e,O,c,d,O⟩
section
variable {X:Cx}{WP:List (B×Obj)}{ZB:St}{H:Hp}{s:Rs}{a:B}{y v:XV}{u r:Wp}{o:Option XV}{A:cs}{E:Wp->Rs->Prop}
theorem Inv.big (W1:Inv X WP ZB H s):eA<s.heap.objs.size:=by
 have h:cI<s.heap.objs.size:=(W1.mod.glob.keeps W1.bk).lt;exact Nat.lt_trans (by decide) h
theorem EF {Q:Wp->Rs->Prop}(hu:A.units+1<cJ) (W1:Inv X WP ZB H s) (g:cC H a y (some v)) (m:RelV y u) (h:∀c s',Inv X WP ZB H s'->RelV v c->Q c s'):
  wpAny (Do X.prog X.w) A (k7 (.ref a) u) Q E s:=by(
rcases g with⟨UF,k,e,f,l⟩|⟨UF,k,b,e,f,n,l⟩
·subst f;obtain⟨z,hd,vs,i,d⟩:=kf W1.ag e;obtain⟨c,hw,j⟩:=cZ.some_of (v:=v) (o:=hF vs k) (by rw[l];exact i.val k);exact BN (il m) d.mapOf hw (h c _ (W1.tok _) j)
·subst f;cases(show u=f8 b from m);obtain⟨z,hd,xs,i,d⟩:=kg W1.ag e;obtain⟨c,hw,j⟩:=cZ.some_of (v:=v) (o:=(hG xs k).map (·.2)) (by rw[l];exact i.val k);obtain⟨p,q,t⟩:=Cw.mp hw;refine wpAny_getItem_heap (qc hu) (l5 W1.ag n) d q ?_;rw[t];exact h c _ (W1.tok _) j)
theorem EG {Q:Wp->Rs->Prop}(hu:A.units+1<cJ) (W1:Inv X WP ZB H s) (g:cC H a y o) (i:RelV y u) (h:∀s',Inv X WP ZB H s'->Q (.bool (!o.isSome)) s'):
  wpAny (Do X.prog X.w) A (dD .NotIn u (.ref a)) Q E s:=by(
rcases g with⟨UF,k,e,d,l⟩|⟨UF,k,b,e,d,j,l⟩
·subst d;obtain⟨z,hd,vs,f,c⟩:=kf W1.ag e;refine wpAny_notIn_of (il i) hd c.mapOf ?_;rw[<- (f.val k).r7,<-l];exact h _ (W1.tok _)
·subst d;cases(show u=f8 b from i);obtain⟨z,hd,xs,f,c⟩:=kg W1.ag e;refine wpAny_notIn_heap (qc hu) (l5 W1.ag j) hd c ?_;have q:=(f.val k).r7;rw[Cz]at q;rw[<- q,<-l];exact h _ (W1.tok _))
theorem oa {h':wn}{t':Nat}{ob:HO}(W1:Inv X WP ZB H s) (g:hZ (H a)) (f:k_ a s.heap h') (d:∃q,h'.get? a=some q) (new:bq X.prog X.w (T0 H a ob) h' a ob):
  Inv X WP ZB (T0 H a ob) {s with heap:=h',toks:=t'}:=
 W1.write (x:=a) (e:=a) g (.inl rfl) (λb q c z=>(f.2 b c).trans z) d new
theorem x_ {P:pu}{w:rs}{V:Hp}{h':wn}{UF:List (wS×XV)}{vs:List (wS×Wp)}(z:UF.length<=Is) (hd:(a==eA)=false) (c:KV UF vs) (b:h'.DictOf (b5 P w) a vs):
  bq P w V h' a (.dK UF):=⟨z,hd,vs,c,b⟩
theorem EH {V:Hp}{Q:Unit->Rs->Prop}(hu:A.units+1<cJ) (W1:Inv X WP ZB H s) (g:fL H a y v V) (J:RelV y u) (D:RelV v r) (h:∀s',Inv X WP ZB V s'->Q () s'):
  wpAny (Do X.prog X.w) A (vR (.ref a) u r) Q E s:=by(
rcases g with⟨UF,k,e,n,l,m⟩|⟨UF,k,b,e,n,x,l,m⟩
·subst n m;obtain⟨z,hd,vs,d,j⟩:=x' W1.ag e;have hz:vs.length<=Is:=by rw[<- d.length];exact z
 have p:(ax UF k v).length<=Is:=by have:=r' UF k v;omega
 refine wpAny_setItem_pairs (hsz:=hz) (il J) j λh' f t=>h _ ?_;have U:∃q,h'.get? a=some q:=let ⟨q,_,_,i,_⟩:=f;⟨q,i⟩;exact oa W1 (by rw[e];exact True.intro) t U (x_ p hd (d.put k D) f)
·subst n m;cases(show u=f8 b from J);obtain⟨z,hd,xs,d,j⟩:=yc W1.ag e;have hz:xs.length<=Is:=by rw[<- Paired.length d];exact z
 have p:(ax UF k v).length<=Is:=by have:=r' UF k v;omega
 refine wpAny_setItem_heap (hsz:=hz) (qc hu) (l5 W1.ag x) j λh' f t=>h _ ?_;obtain⟨q,es,ep,i,h2,L,N,_,T⟩:=f;refine oa W1 (by rw[e];exact True.intro) t ⟨q,i⟩ ⟨p,hd,_,(d.put k x D).keeps λc ys C=>?_,q,es,ep,i,h2,L,N,T⟩;rw[Uf (y6 C e (λz=>nomatch z))];exact C)
end
def q8 (i:ws):Prop:=∀ov a,qp i false ov a=vT [ov,a] (k7 ov a)
theorem Ap {prog:pu}{w:rs}{A:cs}{E:Wp->Rs->Prop}{s:Rs}{env:Env}{dB a:ws}{pos:Pos}{T id:String}{Q:Wp->Rs->Prop}
  (f:B' (.type T) "__getitem__"=pure (some (.builtin id))) (g:q8 a)
  (h:wpAny (Do prog w) A (eval dB env) (λo d=>wpAny (Do prog w) A (eval a env) (λi b=>b.TypeIs o T/\wpAny (Do prog w) A (k7 o i) Q E b) E d) E s):
  wpAny (Do prog w) A (eval (.Subscript dB a pos) env) Q E s:=by(
refine qQ (eB h (λo d j=>eB j (λi b c=>?_) λ_ _ x=>x) λ_ _ x=>x);obtain⟨hT,c⟩:=c;unfold qO;refine IR ?_;rw[getitemInPython_of_ne hT.not_modules];refine IR (wpAny_specialOf hT f ?_);have fin:wpAny (Do prog w) A (qp a false o i) (λr e=>wpAny (Do prog w) A (letTemporaryGo dB o r >>= λ_=>pure r) Q E e) E b:=by
 rw[g o i];exact wpAny_operating (eB c (λr e k=>IR (wpAny_letTemporaryGo (t3 k))) λ_ _ x=>x)
first
 |exact t3 (IR fin)
 |exact IR (t3 (IR fin))
 |exact IR fin)
theorem EO {X:Cx}{WP:List (B×Obj)}{ZB:St}{H:Hp}{s:Rs}{a:B}{y:XV}{o:Option XV}(W1:Inv X WP ZB H s) (g:cC H a y o):s.TypeIs (.ref a) "dict":=by(
rcases g with⟨UF,k,e,_,_⟩|⟨UF,k,b,e,_,_,_⟩
·obtain⟨_,_,vs,_,c⟩:=kf W1.ag e;exact c.typeIs
·obtain⟨_,_,xs,_,c⟩:=kg W1.ag e;exact c.typeIs)
def Ll (td ty:TE):TE:=λZB H Q=>td ZB H λx H1=>ty ZB H1 λy H2=>∃a v,x=.ref a/\cC H2 a y (some v)/\Q v H2
def Lp (ty td:TE):TE:=λZB H Q=>ty ZB H λy H1=>td ZB H1 λx H2=>∃a o,x=.ref a/\cC H2 a y o/\Q (.bl (!o.isSome)) H2
def Kr (td ty tv:TE):TS:=λD ZB H=>tv ZB H λv H1=>td ZB H1 λx H2=>ty ZB H2 λy c=>∃a b,x=.ref a/\fL c a y v b/\D.nx ZB b
section
variable {X:Cx}{o i e dB:ws}{pos fk k2:Pos}{td ty tv:TE}
theorem sF (hu:X.A.units+1<cJ) (f:PE X o td) (hi:PE X i ty) (j:q8 i):PE X (.Subscript o i pos) (Ll td ty):=by
 intro WP s ZB H Q W1 h;refine Ap Cp.lookup j (xL (f WP s ZB H _ W1 h) λu q ⟨x,H1,c,n,k⟩=>xL (hi WP q ZB H1 _ c k) λr t ⟨y,H2,b,p,a,v,ex,g,l⟩=>?_);subst ex;obtain rfl:u=f8 a:=n;exact⟨EO b g,EF hu b g p λz w d m=>⟨v,H2,d,m,l⟩⟩
theorem zu (hu:X.A.units+1<cJ) (hi:PE X i ty) (f:PE X o td):PC X .NotIn i o (Lp ty td):=by
 intro WP s ZB H Q W1 h;refine xL (hi WP s ZB H _ W1 h) λp n ⟨y,H1,b,m,j⟩=>xL (f WP n ZB H1 _ b j) λu q ⟨x,H2,c,l,a,ov,ex,g,k⟩=>?_;subst ex;obtain rfl:u=f8 a:=l;exact EG hu c g m λr d=>⟨.bl (!ov.isSome),H2,d,O,k⟩
theorem mv (hu:X.A.units+1<cJ) (k:PE X o td) (hi:PE X i ty) (hv:PE X dB tv) (l:mU dB (some (.Subscript o i fk)) pos.line X.env=pure false):
  PS X (.Assign [.Subscript o i fk] dB pos) (Kr td ty tv):=by
 intro WP s ZB H D W1 h;refine wpAny_Assign_Subscript (xL (hv WP s ZB H _ W1 h) λr z ⟨v,H1,c,q,m⟩=>xL (k WP z ZB H1 _ c m) λu C ⟨x,H2,d,t,n⟩=>xL (hi WP C ZB H2 _ d n) λJ L ⟨y,E,f,w,a,b,ex,g,p⟩=>?_) l;subst ex;obtain rfl:u=f8 a:=t;exact EH hu f g w q λN j=>⟨ZB,b,j,p⟩
end
theorem x9 {P:pu}{w:rs}{H:Hp}(h:wn) (a:eA<h.objs.size):bq P w H (h.push {cls:=.type "dict",data:=.dict #[]}) h.objs.size (.dK []):=
 ⟨g1 _,lC.mpr (Ne.symm (b1 a)),[],.nil,Heap.DictOf.new h⟩
theorem ES {P:pu}{w:rs}{H:Hp}(h:wn) (a:eA<h.objs.size):bq P w H (h.push {cls:=.type "dict",data:=.dict #[]}) h.objs.size (.dT []):=
 ⟨g1 _,lC.mpr (Ne.symm (b1 a)),[],.nil,_,#[],0,a9 _ rfl,⟨O,O,O⟩,O,O,p8⟩
def Ln:TE:=λ_ H Q=>∀p,H p=none->Q (.ref p) (T0 H p (.dK []))
def Lo:TE:=λ_ H Q=>∀p,H p=none->Q (.ref p) (T0 H p (.dT []))
section
variable {X:Cx}{pos:Pos}
theorem Jt:PE X (.Dict [] [] pos) Ln:=λWP s ZB H Q W1 h=>
 BO ⟨.ref s.heap.objs.size,_,W1.laid (a:=s.heap.objs.size) (o:=.dK []) (t':=s.toks) (λ_ _ q=>ls _ q) (t1 _) (x9 s.heap W1.big),O,h _ (W1.ag.fresh (t1 _))⟩
theorem zv:PE X (.Dict [] [] pos) Lo:=λWP s ZB H Q W1 h=>
 BO ⟨.ref s.heap.objs.size,_,W1.laid (a:=s.heap.objs.size) (o:=.dT []) (t':=s.toks) (λ_ _ q=>ls _ q) (t1 _) (ES s.heap W1.big),O,h _ (W1.ag.fresh (t1 _))⟩
end
def uX:List (TE×TE)->St->Hp->(List (XV×XV)->Hp->Prop)->Prop
 |[],_,H,Q=>Q [] H
 |(tk,tv)::r,ZB,H,Q=>tk ZB H λx H1=>tv ZB H1 λy H2=>uX r ZB H2 λps a=>Q ((x,y)::ps) a
abbrev VV:List (XV×XV)->List (Wp×Wp)->Prop:=Paired λp q=>RelV p.1 q.1/\RelV p.2 q.2
def nO (X:Cx) (pos:Pos) (keys:List (Option ws)) (b:List ws) (a:List (TE×TE)):Prop:=
 ∀(WP:List (B×Obj)) (s:Rs) (ZB:St) (H:Hp) (Q:List (XV×XV)->Hp->Prop),Inv X WP ZB H s->uX a ZB H Q->
  wpAny (Do X.prog X.w) X.A (evalPairs (pairTrees keys b X.env pos)) (λvs s'=>∃ps V,Inv X WP ZB V s'/\VV ps vs/\Q ps V) X.xe s
theorem JG {X:Cx}{pos:Pos}:nO X pos [] [] []:=λWP s ZB H Q W1 h=>pairTrees_nil_walk ⟨[],H,W1,.nil,h⟩
theorem JF {X:Cx}{pos:Pos}{k v:ws}{ks:List (Option ws)}{vs:List ws}{tk tv:TE}{a:List (TE×TE)}(f:PE X k tk) (hv:PE X v tv) (hr:nO X pos ks vs a):
  nO X pos (some k::ks) (v::vs) ((tk,tv)::a):=λWP s ZB H Q W1 h=>
 pairTrees_cons_walk (xL (f WP s ZB H _ W1 h) λu o ⟨x,H1,c,m,g⟩=>xL (hv WP o ZB H1 _ c g) λr p ⟨y,H2,d,n,i⟩=>
  xL (hr WP p ZB H2 _ d i) λt q ⟨ps,b,e,l,j⟩=>⟨(x,y)::ps,b,e,.cons ⟨m,n⟩ l,j⟩)
def kz (UF more:List (wS×XV)):List (wS×XV):=more.foldl (λwl a=>ax wl a.1 a.2) UF
theorem KV.merge:∀ {more:List (wS×XV)}{a:List (wS×Wp)}{UF:List (wS×XV)}{vs:List (wS×Wp)},KV more a->KV UF vs->KV (kz UF more) (merged vs a):=by(
intro more a UF vs r;unfold KV at r
induction r generalizing UF vs with
|nil=>intro q;exact q
|@cons p q ps d h t b=>
 intro c;have e:KV (ax UF p.1 p.2) (vW vs q.1 q.2):=by
  have:=c.put p.1 h.2;rw[<- h.1];exact this
 exact b e)
theorem yS:∀(more UF:List (wS×XV)),(kz UF more).length<=UF.length+more.length
 |[],UF=>by show UF.length<=UF.length+0;omega
 |p::r,UF=>by
  have h1:=yS r (ax UF p.1 p.2);have h2:=r' UF p.1 p.2;show(kz (ax UF p.1 p.2) r).length<=_;rw[bh];omega
theorem xU {P:pu}{w:rs}:∀ {UF:List (wS×XV)}{f:List (Wp×Wp)},VV (UF.map λe=>(kV e.1,e.2)) f->∃d,Carries (b5 P w) f d/\KV UF d
 |[],_,r=>by rw[gU]at r;cases r;exact⟨[],True.intro,.nil⟩
 |p::UF,_,r=>by
  rw[na]at r;cases r with
  |@cons a b as bs h t=>
   obtain⟨d,c,q⟩:=xU (P:=P) (w:=w) t;obtain⟨i,g⟩:=b;exact⟨(p.1,g)::d,⟨il h.1,O,c⟩,.cons ⟨O,h.2⟩ q⟩
def Lq (b:List (TE×TE)):TE:=λZB H Q=>∀p,H p=none->uX b ZB (T0 H p (.dK [])) λps H2=>H2 p=some (.dK [])/\∃UF:List (wS×XV),ps=UF.map (λa=>(kV a.1,a.2))/\UF.length<=15/\Q (.ref p) (T0 H2 p (.dK (kz [] UF)))
theorem Js {X:Cx}{pos:Pos}{keys:List (Option ws)}{b:List ws}{g:List (TE×TE)}(h:nO X pos keys b g) (l:keys.all (·.isSome)=true) (n:keys.length=b.length) (h0:keys≠[])
  (k:keys.length<=15):PE X (.Dict keys b pos) (Lq g):=by(
intro WP s ZB H Q W1 q;have hn:=W1.ag.fresh (t1 s.heap.objs.size);have i:=W1.laid (a:=s.heap.objs.size) (o:=.dK []) (h':=s.heap.push {cls:=.type "dict",data:=.dict #[]}) (t':=s.toks) (λ_ _ q=>ls _ q) (t1 _) (x9 s.heap W1.big);refine wpAny_Dict_walk (knd:=b5 X.prog X.w) l n h0 k (xL (h WP _ ZB _ _ i (q _ hn)) λE C ⟨ps,H2,d,x,e,UF,ep,lk,t⟩=>?_);subst ep;obtain⟨A,c,y⟩:=xU (P:=X.prog) (w:=X.w) x;obtain⟨z,hd,D,u,j⟩:=x' d.ag e;cases u;refine⟨A,c,j,λh' f r=>⟨.ref s.heap.objs.size,_,?_,O,t⟩⟩;have hz:(kz [] UF).length<=Is:=by
 have h1:=yS UF [];rw[j1]at h1;rw[hD];omega
have m:∃q,h'.get? s.heap.objs.size=some q:=let ⟨q,_,_,p,_⟩:=f;⟨q,p⟩;exact oa d (by rw[e];exact True.intro) r m (x_ hz hd (y.merge .nil) f))
structure M2 (X:Cx) (o:ws) (m:Str) (dh:Pos) (e f:ws) (c5:Pos):Prop where
 base:mS o m X.env (eval o X.env)=eval o X.env
 dj:((dX c5 (bi [e,f] X.env)).all (λx=>!x.1)&&(qt c5 (qo [] X.env)).all (λx=>x.1.isSome)
  &&decide (([e,f]:List ws).length+([]:List qv).length+(if([]:List qv).isEmpty then 0 else 1)<30))=true
 line:(dh.endLine==c5.line)=true
 trees:dX c5 (bi [e,f] X.env)=[(false,eval e X.env),(false,eval f X.env)]
def xf (H:Hp) (a:B):Prop:=(∃UF,Rd H a (.dK UF))\/∃UF,Rd H a (.dT UF)
theorem Gb {X:Cx}{WP:List (B×Obj)}{ZB:St}{H:Hp}{s:Rs}{a:B}(W1:Inv X WP ZB H s) (d:xf H a):
  s.TypeIs (.ref a) "dict" /\(∀b,f8 a=.ref b->∃ob,s.heap.get? b=some ob/\ob.dict=none)/\(a==eA)=false:=by(
rcases d with⟨UF,e⟩|⟨UF,e⟩
·obtain⟨_,hd,vs,_,c⟩:=kf W1.ag e;refine⟨c.typeIs,λb q=>?_,hd⟩;cases q;obtain⟨ob,_,_,h1,h2,_⟩:=c;exact⟨ob,h1,h2.2.1⟩
·obtain⟨_,hd,xs,_,c⟩:=kg W1.ag e;refine⟨c.typeIs,λb q=>?_,hd⟩;cases q;obtain⟨ob,_,_,h1,h2,_⟩:=c;exact⟨ob,h1,h2.2.1⟩)
section
variable {X:Cx}{WP:List (B×Obj)}{ZB:St}{H:Hp}{s:Rs}{a:B}{y d:XV}{u r:Wp}{o:Option XV}{A:cs}{E:Wp->Rs->Prop}
theorem EE {Q:Wp->Rs->Prop}(hu:A.units+1<cJ) (W1:Inv X WP ZB H s) (g:cC H a y o) (m:RelV y u) (j:RelV d r) (h:∀n s',Inv X WP ZB H s'->RelV (o.getD d) n->Q n s'):
  wpAny (Do X.prog X.w) A (call (.builtin "dict.get") [.ref a,u,r]) Q E s:=by(
rcases g with⟨UF,k,e,f,l⟩|⟨UF,k,b,e,f,p,l⟩
·subst f;obtain⟨z,hd,vs,i,c⟩:=kf W1.ag e;refine B5 wu c.typeIs Ct (Cs _ _ _) (meets_dict_get_default (b5 X.prog X.w) a (il m) hd r) ⟨_,c.mapOf,h _ _ (W1.tok _) ?_⟩;rw[l];exact(i.val k).getD j
·subst f;cases(show u=f8 b from m);obtain⟨z,hd,xs,i,c⟩:=kg W1.ag e;refine B5 wu c.typeIs Ct (Cs _ _ _) (meetsH_dict_get_default (k6 (b5 X.prog X.w)) a b hd r) ⟨qc hu,k,xs,l5 W1.ag p,c,h _ _ (W1.tok _) ?_⟩;rw[l];exact(i.val k).getD j)
end
def Lm (td ty tx:TE):TE:=λZB H Q=>td ZB H λx H1=>∃a,x=.ref a/\xf H1 a/\ty ZB H1 λy H2=>tx ZB H2 λz b=>∃o,cC b a y o/\Q (o.getD z) b
section
variable {X:Cx}{o e f:ws}{dh c5:Pos}{td ty tx:TE}
theorem sG (hu:X.A.units+1<cJ) (n:PE X o td) (l:PE X e ty) (hf:PE X f tx) (m:M2 X o "get" dh e f c5):PE X (.Call (.Attribute o "get" dh) [e,f] [] c5) (Lm td ty tx):=by(
intro WP s ZB H Q W1 h;refine wpAny_Call_method m.base m.dj m.line m' wu ML (xL (n WP s ZB H _ W1 h) λu E ⟨x,H1,b,w,a,ex,d,p⟩=>?_);subst ex;obtain rfl:u=f8 a:=w;obtain⟨L,N,_⟩:=Gb b d;refine⟨L,N,?_⟩;rw[m.trees];refine wQ rfl (Dg (wR (xL (l WP E ZB H1 _ b p) λT J ⟨y,H2,i,C,q⟩=>
 wR (xL (hf WP J ZB H2 _ i q) λfv U ⟨z,c,j,D,ov,g,r⟩=>Dh ?_))))
exact EE hu j g C D λNj Y k t=>⟨_,c,k,t,r⟩)
end
section
variable {X:Cx}{WP:List (B×Obj)}{ZB:St}{H:Hp}{s:Rs}{h':wn}
theorem Inv.LM {t':Nat}{ch:List B}(W1:Inv X WP ZB H s) (k:∀b o,b∉ch->s.heap.get? b=some o->h'.get? b=some o) (hf:∀b∈ch,e5 X WP H b):Inv X WP ZB H {s with heap:=h',toks:=t'}:=by(
have f:∀b u,H b=some u->b∉ch:=λb u e z=>by
 have q:=(hf b z).1;rw[q]at e;cases e
refine W1.step (g':=s.gens) (d':=s.drawn) (ch:=ch) (λb d=>⟨(hf b d).2.2.2.1,(hf b d).2.1,(hf b d).2.2.2.2.1,(hf b d).2.2.2.2.2⟩) (λb o _ _ a e _=>k b o a e) (λb o _ _ a e _=>⟨o.slots,k b o a e⟩)
 (λ_ _ _ _ n=>n) (λb o a e=>⟨o,k b o a e⟩) (λ_ _ e=>e) (λ_ _ _ e=>e) (λb ps e=>⟨#[],by rw[e];simp⟩) (λm hm=>?_) (λb u e=>?_) W1.bare
·obtain⟨o,es,ep,g,r⟩:=hm;exact⟨o,es,ep,k _ o (λz=>(hf _ z).2.1 rfl) g,r⟩
·refine(W1.ag b u e).gD (λc v a q=>k c v ?_ q) (λ_ q=>q) λ_ _ q=>q;rcases a with z|z
 ·rw[z];exact f b u e
 ·exact f c _ z)
theorem Inv.LN {t':Nat}{ch:List B}{T:B}{ob:HO}(W1:Inv X WP ZB H s) (k:∀b o,b∉ch->s.heap.get? b=some o->h'.get? b=some o) (hf:∀b∈ch,e5 X WP H b) (hT:s.heap.objs.size<=T)
  (new:bq X.prog X.w (T0 H T ob) h' T ob):Inv X WP ZB (T0 H T ob) {s with heap:=h',toks:=t'}:=by(
have hn:H T=none:=W1.ag.fresh hT;have f:∀b u,H b=some u->b∉ch:=λb u e z=>by
 have q:=(hf b z).1;rw[q]at e;cases e
refine W1.step (g':=s.gens) (d':=s.drawn) (ch:=ch) (λb a=>⟨(hf b a).2.2.2.1,(hf b a).2.1,(hf b a).2.2.2.2.1,(hf b a).2.2.2.2.2⟩) (λb o _ _ d e _=>k b o d e) (λb o _ _ d e _=>⟨o.slots,k b o d e⟩)
 (λb o _ e n=>?_) (λb o d e=>⟨o,k b o d e⟩) (λb xs e=>?_) (λb o u e=>?_) (λb ps e=>⟨#[],?_⟩) (λm hm=>?_) (λb u e=>?_) W1.bare
·rw[Uf (b1 (cT (f0 e) hT))];exact n
·rw[Uf (v0 e hn)];exact e
·rw[Uf (v0 e hn)];exact e
·rw[Uf (v0 e hn),e];simp
·obtain⟨o,es,ep,g,r⟩:=hm;exact⟨o,es,ep,k _ o (λz=>(hf _ z).2.1 rfl) g,r⟩
·by_cases a:b=T
 ·subst a;rw[KE]at e;cases e;exact new
 ·rw[Uf a]at e;refine(W1.ag b u e).gD (λc v d q=>k c v ?_ q) (λc q=>by rw[Uf (v0 q hn)];exact q) λc xs q=>by rw[Uf (v0 q hn)];exact q
  rcases d with z|z
  ·rw[z];exact f b u e
  ·exact f c _ z)
theorem Inv.lock {d:B}{u:HO}(W1:Inv X WP ZB H s) (h:H d=some u) (c:hZ (some u)):∃a,Inv X WP ZB (T0 H d (.av a u)) s:=by(
have x:=W1.ag d u h;have ex:∃a,s.heap.get? d=some a:=by
 cases u with
 |lst xs=>obtain⟨_,_,_,_,e⟩:=x;exact⟨_,e⟩
 |dK UF=>obtain⟨_,_,_,_,o,_,_,e,_⟩:=x;exact⟨o,e⟩
 |dT UF=>obtain⟨_,_,_,_,o,_,_,e,_⟩:=x;exact⟨o,e⟩
 |set S n=>obtain⟨o,_,_,_,e,_⟩:=x;exact⟨o,e⟩
 |ins C dx fs=>obtain⟨_,_,_,e,_⟩:=x;exact⟨_,e⟩
 |ext f=>obtain⟨_,⟨_,e⟩,_⟩:=x;exact⟨_,e⟩
 |_=>exact d3 c
obtain⟨a,e⟩:=ex;have new:bq X.prog X.w (T0 H d (.av a u)) s.heap d (.av a u):=by
 refine⟨e,x.gD (λb v _ q=>q) (λb q=>?_) λb xs q=>?_⟩
 ·rw[Uf (λz=>by rw[z,h]at q;cases q;exact c)];exact q
 ·rw[Uf (λz=>by rw[z,h]at q;cases q;exact c)];exact q
exact⟨a,W1.write (x:=d) (e:=d) (t':=s.toks) (h':=s.heap) (by rw[h];exact c) (.inl rfl) (λb v _ q=>q) ⟨a,e⟩ new⟩)
theorem Inv.oN {d:B}{u:HO}(W1:Inv X WP ZB H s) (h:H d=some u) (b:hZ (some u)):∀o' a,X.i3 d≠some (.av o' a):=λo' a e=>by
 have q:=W1.base.fT d o' a e;rw[h]at q;cases q;exact b
theorem Inv.unlock {d:B}{l:Obj}{u:HO}(W1:Inv X WP ZB H s) (h:H d=some (.av l u)) (hn:∀o' g,X.i3 d≠some (.av o' g)):Inv X WP ZB (T0 H d u) s:=by(
have a:∀b o,H b=some o->(∀o' g,o≠.av o' g)->b≠d:=λb o e j z=>by
 rw[z,h]at e;cases e;exact j _ _ rfl
have neN:∀b,H b=none->b≠d:=λb e z=>by rw[z,h]at e;cases e
refine⟨W1.ok,W1.os,W1.bare,⟨W1.base.keep,W1.base.slot,λb o e n i=>?_,W1.base.there,λb xs e=>?_,λb o x e=>?_,λb ps e=>?_⟩,W1.loc,W1.cell,?_,λx c e=>?_,λp k=>?_,λb o e=>?_,W1.len⟩
·rw[Uf (neN b (W1.base.free b o e n i))];exact W1.base.free b o e n i
·have q:=W1.base.eX b xs e;rw[Uf (a b _ q (λ_ _ z=>nomatch z))];exact q
·have q:=W1.base.fT b o x e;rw[Uf (λz=>by rw[z]at e;exact hn _ _ e)];exact q
·obtain⟨m,q⟩:=W1.base.hA b ps e;exact⟨m,by rw[Uf (a b _ q (λ_ _ z=>nomatch z))];exact q⟩
·rw[Uf (neN _ W1.free)];exact W1.free
·rw[Uf (neN c (W1.eP x c e))];exact W1.eP x c e
·obtain⟨e,n,r⟩:=W1.pin p k;exact⟨e,by rw[Uf (neN _ n)];exact n,r⟩
·by_cases f:b=d
 ·rw[f,KE]at e;cases e;rw[f];obtain⟨_,x⟩:=W1.ag d _ h;exact x.gD (λc v _ q=>q) (λc q=>by rw[Uf (a c _ q (λ_ _ z=>nomatch z))];exact q) λc xs q=>by rw[Uf (a c _ q (λ_ _ z=>nomatch z))];exact q
 ·rw[Uf f]at e;exact(W1.ag b o e).gD (λc v _ q=>q) (λc q=>by rw[Uf (a c _ q (λ_ _ z=>nomatch z))];exact q) λc xs q=>by rw[Uf (a c _ q (λ_ _ z=>nomatch z))];exact q)
end
def Lu (t:TS):TS:=λD ZB H=>∃d u,H d=some u/\hZ (some u)/\∀a,t ⟨λb V=>V d=some (.av a u)/\D.nx b (T0 V d u),λv V=>V d=some (.av a u)/\D.rt v (T0 V d u),λb V=>V d=some (.av a u)/\D.bk b (T0 V d u),λb V=>V d=some (.av a u)/\D.ct b (T0 V d u)⟩ ZB (T0 H d (.av a u))
section
variable {X:Cx}
theorem sL {st:v1}{t:TS}(h:PS X st t):PS X st (Lu t):=by(
intro WP s ZB H D W1 hw;obtain⟨d,u,hd,c,hw⟩:=hw;obtain⟨i,g⟩:=W1.lock hd c;refine xL (h WP s ZB _ _ g (hw i)) λf j q=>?_;cases f with
|next=>obtain⟨b,V,a,e,q⟩:=q;exact⟨b,_,a.unlock e (W1.oN hd c),q⟩
|brk=>obtain⟨b,V,a,e,q⟩:=q;exact⟨b,_,a.unlock e (W1.oN hd c),q⟩
|cont=>obtain⟨b,V,a,e,q⟩:=q;exact⟨b,_,a.unlock e (W1.oN hd c),q⟩
|ret v=>obtain⟨x,b,V,a,r,e,q⟩:=q;exact⟨x,b,_,a.unlock e (W1.oN hd c),r,q⟩)
theorem sI {tg:ws}{WP:List (B×Obj)}{ZB:St}{H:Hp}{s:Rs}{R:It->Hp->Prop}{J:It}{a:Nat->wn->Prop}{tk:Nat}(W1:Inv X WP ZB H s) (o:Obj)
  (T:g0 X.prog X.w X.K tg J [s.heap.objs.size] s.heap.objs.size a) (st:a 0 (s.heap.push o)) (q:R J H):q_ X WP ZB tg R (.ref s.heap.objs.size) {s with heap:=s.heap.push o,toks:=tk}:=by(
refine⟨s.heap.objs.size,[s.heap.objs.size],a,J,H,O,W1.kept λb ob e=>ls _ e,T,st,λb c=>?_,q⟩;have e:b=s.heap.objs.size:=by simpa using c
subst e;exact W1.km (t1 _) (W1.ag.fresh (t1 _)))
end
def lH (lo c:Int) (n:Nat):It:=⟨λi _=>i<n,λi H x V=>V=H/\x=.int (lo+(i:Nat)*c),λi _=>n<=i⟩
theorem LJ {P:pu}{w:rs}{K:xz}{tg:ws}(a:B) (lo c:Int) (n:Nat):g0 P w K tg (lH lo c n) [a] a (λi h=>qn h a (lo+(i:Nat)*c) ((n:Int)-(i:Nat)) c) where
 mem:=by simp
 obj:=λi h st b d=>by
  have e:b=a:=by simpa using d
  subst e;exact⟨_,st,λv z=>nomatch z⟩
 keep:=λi h h' st k=>k a (by simp) _ st
 item:=by
  intro X q hw p r i WP s ZB H E W1 hf st hg;subst q hw p;obtain⟨f,g,C,j,l,m⟩:=hf a (by simp);have W:=Walks.range (prog:=X.prog) (w:=X.w) (W1.ok.hd r) a lo c n;refine W.item i s _ _ hg st λv h' tk hv u D=>?_;obtain⟨t,rfl⟩:=hv;have x:Inv X WP ZB H {s with heap:=h',toks:=tk}:=W1.turned (λb o d e=>D b o (by simpa using d) e) f g j l m;exact⟨_,O,kr (s:= {s with heap:=h',toks:=tk}) (n:="range_iterator") u rfl rfl (by decide) ⟨.int (lo+(i:Nat)*c),H,x,⟨t,O⟩,⟨O,O⟩,u,λb d=>(hf b d).1⟩⟩
 done:=by
  intro X q hw p r i WP s ZB H E W1 hf st hg;subst q hw p;obtain⟨f,g,C,j,l,m⟩:=hf a (by simp);exact BA (W1.ok.hd r) st (by have:n<=i:=hg;omega) λh' y=>⟨O,W1.turned (t':=s.toks) (λb o d e=>y b o d e) f g j l m⟩
 self:=λA i s Q E st h=>BB st h
def nP (i j c:Int) (n:Nat):Prop:=c≠0/\c.natAbs<1073741824/\MS i j c=true/\wO i j c=n
theorem nP.neg {i j:Int}(a: -(2^62)<=i) (b:i<2^62) (c: -(2^62)<=j) (d:j<2^62):nP i j (-1) (i-j).toNat:=
 ⟨by decide,by decide,Mm a b c d,Ma i j⟩
def F2 (ta:TA):TI:=λZB H R=>ta ZB H λvs H1=>∃(i j c:Int) (n:Nat),vs=[.int i,.int j,.int c]/\nP i j c n/\R (lH i c n) H1
section
variable {X:Cx}{tg:ws}
theorem JB {a b c:ws}{ta:TA}{p pos:Pos}(hg:Gl X "range") (hm:X.mg "range"=none) (x:PA X [a,b,c] ta)
  (z:bi [a,b,c] X.env=(false,eval a X.env)::bi [b,c] X.env:=by rfl) (y:(dX pos (bi [b,c] X.env)).any (·.1)=false:=by rfl):
  PI X tg (.Call (.Name "range" p) [a,b,c] [] pos) (F2 ta):=by(
intro WP s ZB H R W1 h;refine qT (kv W1 hg hm wF (ng (xL (x pos WP s ZB H _ W1 h) λus f ⟨vs,H1,g,E,A⟩=>?_) z y));obtain⟨i,j,k,n,e,⟨m,c1,c2,c3⟩,q⟩:=A;subst e;cases E with
|cons r d=>
 cases d with
 |cons C d=>
  cases d with
  |cons D d=>
   cases d;obtain⟨t,rfl⟩:=r;obtain⟨t',rfl⟩:=C;obtain⟨J,rfl⟩:=D;refine call_range_3 m ?_ (.inl (PyProof.noPylong_small c1));refine BH (IsRange.new ..) c2 ?_;have l:Inv X WP ZB H1 {f with heap:=f.heap.push {cls:=.type "range",data:=.fields #[.int i t,.int j t',.int k J]}}:=g.kept (t':=f.toks) λb o e=>ls _ e;refine sI (tk:=f.toks) l _ (LJ _ i k n) ?_ q;have u:i+((0:Nat):Int)*k=i:=by simp
   have w:(n:Int)-((0:Nat):Int)=wO i j k:=by rw[c3];simp
   show qn _ _ (i+((0:Nat):Int)*k) ((n:Int)-((0:Nat):Int)) k;rw[u,w];exact a9 _ rfl)
end
theorem FC {lo c:Int}{n:Nat}{g:TG}{tb:TS}{D:Ends}{ZB:St}{H:Hp}(Pv:Nat->St->Hp->Prop) (h0:Pv 0 ZB H)
  (h:∀i ZB H,i<n->Pv i ZB H->g (.int (lo+(i:Nat)*c)) ZB H λd H2=>tb {D with nx:=Pv (i+1),ct:=Pv (i+1),bk:=D.nx} d H2) (hd:∀ZB H,Pv n ZB H->D.nx ZB H):
  ∃W:Nat->Nat->St->Hp->Prop,(∃m,W 0 m ZB H)/\∀i m ZB H,W i m ZB H->
   ((lH lo c n).stop i H/\D.nx ZB H)\/((lH lo c n).go i H/\∃N:St->Hp->Prop,(∀b V,N b V->∃f,f<m/\W (i+1) f b V)/\∀x V,(lH lo c n).ez i H x V->g x ZB V λd H2=>tb {D with nx:=N,ct:=N,bk:=D.nx} d H2):=by(
refine⟨λi m ZB H=>m=n-i/\i<=n/\Pv i ZB H,⟨n,by simp,g1 _,h0⟩,?_⟩;rintro i m ZB H ⟨rfl,hi,p⟩;by_cases a:i<n
·refine .inr ⟨a,Pv (i+1),λb V j=>⟨n-(i+1),by omega,O,a,j⟩,λx V y=>?_⟩;obtain⟨e,y⟩:=y;subst e y;exact h i ZB _ a p
·have e:i=n:=by omega
 subst e;exact .inl ⟨t1 _,hd ZB H p⟩)
section
variable {prog:pu}{w:rs}{A:cs}{E:Wp->Rs->Prop}{s:Rs}
theorem yE {d:B}{o:Obj}{es:Array eC}{ep:Nat}{Q:Wp->Rs->Prop}(hd:(d==eA)=false) (a:s.heap.get? d=some o) (e:o.ExactDict) (b:o.data=.dict es ep)
  (c:Q (.ref s.heap.objs.size) {s with heap:=s.heap.push {cls:=.type "dict_keyiterator",data:=.fields #[.ref d,.int 0 0,.int es.size 0,.int ep 0]}}):
  wpAny (Do prog w) A (qw (.ref d)) Q E s:=by
 have hT:s.TypeIs (.ref d) "dict":=⟨o,a,e.1⟩;refine BK hT F.slot_dict_iter (iG F.slot_dict_iter hT F.entry_dict_iter ?_ (F.args_dict_iter_1 _));unfold hE.«dict.__iter__»;refine IR ?_;unfold MT;refine IR (BD hT ?_);show wpAny _ _ (pure (f8 d)) _ _ s;refine t3 ?_;show wpAny _ _ (Dl d >>= _) _ _ s;unfold Dl;rw[Ps (by rw[hd];exact b2)];refine IR (t3 ?_);refine IR (qe a b ?_);refine IR (vA a b ?_);refine IR (mQ (t3 ⟨_,O,"dict_keyiterator",_,⟨_,a9 _ rfl,O⟩,F.slot_dict_keyiterator_next.lookup,?_⟩));simpa [gK]using c
theorem HL {b d:B}{i n ep:Nat}{h:Obj}{es:Array eC}{en:eC}{Q:Option Wp->Rs->Prop}(a:s.heap.IsKeyIter b d i n ep) (g:s.heap.get? d=some h) (e:h.data=.dict es ep)
  (hsz:es.size=n) (q:es[i]?=some en) (j:∀h',h'.IsKeyIter b d (i+1) n ep->k_ b s.heap h'->Q (some en.key) {s with heap:=h'}):wpAny (Do prog w) A (eD (.ref b)) Q E s:=by(
obtain⟨o,c,k,hd⟩:=id a;unfold eD;refine IR (qj (qb (name:=qY "__next__") a.typeIs F.slot_dict_keyiterator_next
 (iG F.slot_dict_keyiterator_next a.typeIs F.entry_dict_keyiterator_next ?_ (F.args_dict_keyiterator_next_1 _))))
refine IR (t3 ?_);refine IR ?_;refine IR ?_
first|refine IR (p' a.typeIs (t3 ?_))|refine IR (qa a.typeIs (t3 ?_))
refine IR (BU c hd ?_);have p:Builtin.Dict_items.ownsTuple "dict_keyiterator"=false:=by decide
simp only[p,fF,aF];show wpAny _ _ (if(f8 d==Value.none)=true then _ else _) _ _ s;rw[Ps (show ¬((f8 d==Value.none)=true) from b2)];refine IR (t3 ?_);refine IR (qe g e ?_);rw[Ps (by rw[hsz];simp)];refine IR (t3 ?_);refine IR (vA g e ?_);rw[Ps (by simp)];refine t3 ?_;obtain⟨m,l⟩:=Array.getElem?_eq_some_iff.mp q;simp only[show ¬((i:Int)<0) from by omega,aF,d2,wL m];refine IR ?_
first|refine IR (p' a.typeIs (t3 ?_))|refine IR (qa a.typeIs (t3 ?_))
refine IR (BE a.typeIs ?_);show wpAny _ _ (setField (.ref b) 1 (gK ((i:Int)+1)) >>= _) _ _ s;refine IR (BV c hd (by simp) ?_);have f:(s.heap.update b (De (·.setIfInBounds 1 (gK ((i:Int)+1))))).IsKeyIter b d (i+1) n ep:=
 ⟨_,jR _ c (Obj.isFreed_of_fields (Dc hd _)),(Obj.cls_mapFields ..).trans k,by rw[Dc hd];simp[gK]⟩
refine IR (iH ?_);refine IR (BE (s:= {s with heap:=s.heap.update b (De (·.setIfInBounds 1 (gK ((i:Int)+1))))}) f.typeIs ?_);show wpAny _ _ (pure es[i].key) _ _ _;rw[l];exact t3 (t3 ⟨_,O,t3 (j _ f (qW ..))⟩))
theorem y8 {e d:B}{i n ep:Nat}{j:Obj}{es:Array eC}{Q:Option Wp->Rs->Prop}(q:A.handled=none) (c:s.heap.IsKeyIter e d i n ep) (h:s.heap.get? d=some j) (f:j.data=.dict es ep)
  (hsz:es.size=n) (l:n<=i) (k:∀h',Heap.ExtBut e s.heap h'->Q none {s with heap:=h'}):wpAny (Do prog w) A (eD (.ref e)) Q E s:=by(
obtain⟨o,g,t,hd⟩:=id c;unfold eD;refine IR (qj (qb (name:=qY "__next__") c.typeIs F.slot_dict_keyiterator_next
 (iG F.slot_dict_keyiterator_next c.typeIs F.entry_dict_keyiterator_next ?_ (F.args_dict_keyiterator_next_1 _))))
refine IR (t3 ?_);refine IR ?_;refine IR ?_
first|refine IR (p' c.typeIs (t3 ?_))|refine IR (qa c.typeIs (t3 ?_))
refine IR (BU g hd ?_);have r:Builtin.Dict_items.ownsTuple "dict_keyiterator"=false:=by decide
simp only[r,fF,aF];show wpAny _ _ (if(f8 d==Value.none)=true then _ else _) _ _ s;rw[Ps (show ¬((f8 d==Value.none)=true) from b2)];refine IR (t3 ?_);refine IR (qe h f ?_);rw[Ps (by rw[hsz];simp)];refine IR (t3 ?_);refine IR (vA h f ?_);rw[Ps (by simp)];refine t3 ?_;have p:es.size<=i:=by rw[hsz];exact l
simp only[show ¬((i:Int)<0) from by omega,aF,d2,Array.getElem?_eq_none p];refine IR ?_
first|refine IR (p' c.typeIs (t3 ?_))|refine IR (qa c.typeIs (t3 ?_))
show wpAny _ _ (setField (.ref e) 0 .none >>= _) _ _ s;refine IR (BV g hd (by simp) ?_);show wpAny _ _ (newExc (.type "StopIteration") [] >>= _) _ _ _;refine IR ?_;simp only[newExc,newTuple];refine IR (mQ ?_ (by size_fits));refine IR (m:=BW _ _) (B8 (a:=Value.none) (by first|rfl|(simp only[BW];rfl)) ?_);refine mQ ?_ (by size_fits);simp only[raiseNew];refine IR (wpAny_handled ?_);rw[show A.in1.handled=none from q];refine IR (t3 (wpAny_throw ?_));refine IR (BP (T:="StopIteration") (b:=true) ⟨_,a9 _ rfl,O⟩ BX ?_);exact t3 (k _ (((qW ..).extBut.push _).push _)))
end
theorem G0 {κ:Type}{UF:List (κ×XV)}{vs:List (κ×Wp)}(h:KV UF vs):∀ {i:Nat}{k:κ}{v:XV},UF[i]?=some (k,v)->∃u,vs[i]?=some (k,u)/\RelV v u:=by(
unfold KV at h
induction h with
|nil=>intro i k v e;simp at e
|@cons a b d l₂ r t c=>
 intro i k v e;cases i with
 |zero=>
  simp only[nz,gO]at e;subst e;refine⟨b.2,?_,r.2⟩;simp only[nz];exact cB some (Prod.ext r.1.symm rfl)
 |succ j=>
  simp only[w7]at e⊢;exact c e)
theorem cF {d f:Type}{G:d->f->Prop}{c:List d}{l₂:List f}(h:Paired G c l₂):∀ {i:Nat}{a:d},c[i]?=some a->∃b,l₂[i]?=some b/\G a b:=by(
induction h with
|nil=>intro i a e;simp at e
|@cons a b c l₂ r t g=>
 intro i k e;cases i with
 |zero=>
  simp only[nz,gO]at e;subst e;exact⟨b,O,r⟩
 |succ j=>
  simp only[w7]at e⊢;exact g e)
theorem Kb {k:wS}{u:Wp}(h:ip k u=true):RelV (kV k) u:=by(
rcases gx h with⟨i,t,rfl,rfl⟩|⟨x,t,rfl,rfl⟩
·exact⟨t,O⟩
·exact⟨t,O⟩)
section
variable {X:Cx}{WP:List (B×Obj)}{ZB:St}{H:Hp}{s:Rs}{d:B}{o:Obj}
theorem Inv.rQ {UF:List (wS×XV)}(W1:Inv X WP ZB H s) (h:H d=some (.av o (.dK UF))):
  (d==eA)=false/\s.heap.get? d=some o/\o.ExactDict/\∃(es:Array eC) (ep:Nat) (vs:List (wS×Wp)),o.data=.dict es ep/\es.size=UF.length/\KV UF vs/\s.heap.DictAt (b5 X.prog X.w) d vs ep:=by
 obtain⟨hd,z,f,vs,e,o',es,ep,b,c,a,r⟩:=W1.ag d _ h;rw[hd]at b;cases b;refine⟨f,hd,c,es,ep,vs,a,?_,e,o,es,hd,c,a,r⟩;have g:=r.2.1.length;have i:UF.length=vs.length:=Paired.length e;rw[qV]at g;omega
theorem Inv.rR {UF:List (List wS×XV)}(W1:Inv X WP ZB H s) (h:H d=some (.av o (.dT UF))):
  (d==eA)=false/\s.heap.get? d=some o/\o.ExactDict/\∃(es:Array eC) (ep:Nat),o.data=.dict es ep/\es.size=UF.length/\
   ∀(i:Nat) (k:List wS) (v:XV),UF[i]?=some (k,v)->∃(en:eC) (q:B),es[i]?=some en/\en.key=.ref q/\H q=some (.tup (k.map kV)):=by(
obtain⟨hd,z,m,xs,f,o',es,ep,c,n,l,a,_⟩:=W1.ag d _ h;rw[hd]at c;cases c;refine⟨m,hd,n,es,ep,l,?_,λi k v e=>?_⟩
·have r:es.size=xs.length:=size_of_entries a;have t:UF.length=xs.length:=Paired.length f;omega
·obtain⟨b,j,p,g,_⟩:=cF f e;have q:=entry_at a i;rw[j]at q;exact⟨_,b.2.1,q,O,g⟩)
end
def lI (d:B) (o:Obj) (UF:List (wS×XV)):It:=
 ⟨λi H=>H d=some (.av o (.dK UF))/\i<UF.length,λi H x V=>V=H/\∃k v,UF[i]?=some (k,v)/\x=kV k,λi H=>H d=some (.av o (.dK UF))/\UF.length<=i⟩
def xg (d:B) (o:Obj) (UF:List (List wS×XV)):It:=
 ⟨λi H=>H d=some (.av o (.dT UF))/\i<UF.length,λi H x V=>V=H/\∃(k:List wS) (v:XV) (q:B),UF[i]?=some (k,v)/\x=.ref q/\H q=some (.tup (k.map kV)),λi H=>H d=some (.av o (.dT UF))/\UF.length<=i⟩
theorem od {o:Obj}{es b:Array eC}{ep a:Nat}(h:o.data=.dict es ep) (h':o.data=.dict b a):b=es/\a=ep:=by
 rw[h]at h';cases h';exact⟨O,O⟩
section
variable {P:pu}{w:rs}{K:xz}{tg:ws}{d:B}{o:Obj}{es:Array eC}{ep:Nat}
theorem LF {UF:List (wS×XV)}(a:B) (T:o.data=.dict es ep):g0 P w K tg (lI d o UF) [a] a (λi h=>h.IsKeyIter a d i UF.length ep) where
 mem:=by simp
 obj:=λi h st b f=>by
  have e:b=a:=by simpa using f
  subst e;obtain⟨j,e,c,l⟩:=st;exact⟨j,e,λv z=>by rw[l]at z;cases z⟩
 keep:=λi h h' st k=>st.at λj e=>k a (by simp) j e
 item:=by
  intro X y hw x D i WP s ZB H E W1 hf st hg;subst y hw x;obtain⟨hd,hi⟩:=hg;obtain⟨m,n,Nm,q,r,t⟩:=hf a (by simp);obtain⟨Np,J,Nq,Nl,Nk,vs,g,hsz,C,hm⟩:=W1.rQ hd;obtain⟨rfl,rfl⟩:=od T g;obtain⟨⟨k,v⟩,L⟩:∃p,UF[i]?=some p:=⟨UF[i],im hi⟩;obtain⟨u,hu,Nu⟩:=G0 C L;have N:UF.length=vs.length:=Paired.length C;rw[N]at st;refine wpAny_pyNext_dict_item st hm hu λkey h' Nn U Nr=>?_;have Y:Inv X WP ZB H {s with heap:=h'}:=W1.turned (t':=s.toks) (λb ob f e=>(Nr.2 b f).trans e) m n q r t;obtain⟨j,e,c,l⟩:=id U;refine⟨key,O,kr (s:= {s with heap:=h'}) e c l (by decide) ⟨kV k,H,Y,Kb (show ip k key=true from Nn),⟨O,k,v,L,O⟩,?_,λb f=>(hf b f).1⟩⟩;show h'.IsKeyIter a d (i+1) UF.length _;rw[N];exact U
 done:=by
  intro X y hw x D i WP s ZB H E W1 hf st hg;subst y hw x;obtain⟨hd,hi⟩:=hg;obtain⟨m,n,Nm,q,r,t⟩:=hf a (by simp);obtain⟨Np,J,Nq,Nl,Nk,vs,g,hsz,C,hm⟩:=W1.rQ hd;obtain⟨rfl,rfl⟩:=od T g;exact y8 (W1.ok.hd D) st J g hsz hi λh' Nj=>⟨O,W1.turned (t':=s.toks) (λb ob f e=>Nj b ob f e) m n q r t⟩
 self:=λA i s Q E st h=>wpAny_pyIter_keyiter st h
theorem LG {UF:List (List wS×XV)}(a:B) (N:o.data=.dict es ep):g0 P w K tg (xg d o UF) [a] a (λi h=>h.IsKeyIter a d i UF.length ep) where
 mem:=by simp
 obj:=λi h st b f=>by
  have e:b=a:=by simpa using f
  subst e;obtain⟨j,e,c,l⟩:=st;exact⟨j,e,λv z=>by rw[l]at z;cases z⟩
 keep:=λi h h' st k=>st.at λj e=>k a (by simp) j e
 item:=by
  intro X y hw x J i WP s ZB H E W1 hf st hg;subst y hw x;obtain⟨hd,hi⟩:=hg;obtain⟨m,n,Nl,r,t,u⟩:=hf a (by simp);obtain⟨Nq,C,Nr,Nk,Nj,g,hsz,D⟩:=W1.rR hd;obtain⟨rfl,rfl⟩:=od N g;obtain⟨⟨k,v⟩,L⟩:∃p,UF[i]?=some p:=⟨UF[i],im hi⟩;obtain⟨en,q,Nm,Nn,Np⟩:=D i k v L;refine HL st C g hsz Nm λh' T Nu=>?_;have U:Inv X WP ZB H {s with heap:=h'}:=W1.turned (t':=s.toks) (λb ob f e=>(Nu.2 b f).trans e) m n r t u;obtain⟨j,e,c,l⟩:=id T;exact⟨en.key,O,kr (s:= {s with heap:=h'}) e c l (by decide) ⟨.ref q,H,U,Nn,⟨O,k,v,q,L,O,Np⟩,T,λb f=>(hf b f).1⟩⟩
 done:=by
  intro X y hw x J i WP s ZB H E W1 hf st hg;subst y hw x;obtain⟨hd,hi⟩:=hg;obtain⟨m,n,Nl,r,t,u⟩:=hf a (by simp);obtain⟨Nq,C,Nr,Nk,Nj,g,hsz,D⟩:=W1.rR hd;obtain⟨rfl,rfl⟩:=od N g;exact y8 (W1.ok.hd J) st C g hsz hi λh' Y=>⟨O,W1.turned (t':=s.toks) (λb ob f e=>Y b ob f e) m n r t u⟩
 self:=λA i s Q E st h=>by
  refine BK st.typeIs F.slot_dict_keyiterator_iter (iG F.slot_dict_keyiterator_iter st.typeIs F.entry_dict_keyiterator_iter ?_ (F.args_dict_keyiterator_iter_1 _));show wpAny _ _ (ret (.ref a)) _ _ s;exact t3 ⟨_,O,"dict_keyiterator",_,st.typeIs,F.slot_dict_keyiterator_next.lookup,h⟩
end
def FZ (td:TE):TI:=λZB H R=>td ZB H λx H1=>∃d o,x=.ref d/\((∃UF,H1 d=some (.av o (.dK UF))/\R (lI d o UF) H1)\/∃UF,H1 d=some (.av o (.dT UF))/\R (xg d o UF) H1)
section
variable {X:Cx}{tg e:ws}{td:TE}{dh c5:Pos}
theorem zx (j:PE X e td):PI X tg e (FZ td):=by(
intro WP s ZB H R W1 h;refine xL (j WP s ZB H _ W1 h) λu i ⟨x,H1,b,k,d,o,ex,q⟩=>?_;subst ex;obtain rfl:u=f8 d:=k;rcases q with⟨UF,hd,q⟩|⟨UF,hd,q⟩
·obtain⟨f,c,g,es,ep,vs,a,hsz,m,hm⟩:=b.rQ hd;refine yE f c g a (sI (tk:=i.toks) b _ (LF _ a) ⟨_,a9 _ rfl,O,?_⟩ q);rw[hsz]<;>rfl
·obtain⟨f,c,g,es,ep,a,hsz,l⟩:=b.rR hd;refine yE f c g a (sI (tk:=i.toks) b _ (LG _ a) ⟨_,a9 _ rfl,O,?_⟩ q);rw[hsz]<;>rfl)
end
theorem Eh:k4 "zip"=some (.type "zip"):=by decide +kernel
end L2
namespace w8
open PySem PySem.W PySem.Calls PyProof.Rows
theorem F8 {P:vX}{h:wn}:∀(ns:List Int) (vs:List Wp),v' P h vs (ns.map WData.int)->cn vs ns:=by(
intro ns
induction ns with
|nil=>
 intro vs w;rw[gU]at w;cases w;exact .nil
|cons n ns c=>
 intro vs w;rw[na]at w;cases w with
 |cons a b=>
  cases a;exact .cons _ _ (c _ b))
end w8
namespace L2
open PySem PySem.Spec PyProof.Rows
theorem AO:∀ {vs:List Wp}{ns:List Int},cn vs ns->wP (ns.map XV.int) vs
 |_,_,.nil=>.nil
 |_,_,.cons n t h=>.cons ⟨t,O⟩ (AO h)
def q9 (H:Hp):Prop:=∀b,H b=none\/∃o xs,H b=some (.av o (.lst xs))
def ba (s:v1) (j:Nat):v1:=match s with
 |.ClassDef _ _ _ body _ _ _ _ _ _ _=>body.getD j (.Pass ⟨0,0,0,0⟩)
 |_=>.Pass ⟨0,0,0,0⟩
def g9 (s:v1):Arguments:=match s with
 |.FunctionDef _ a _ _ _ _ _ _ _ _=>a
 |_=> {posonlyargs:=[],args:=[],vararg:=none,kwonlyargs:=[],kw_defaults:=[],kwarg:=none,defaults:=[]}
def gn (s:v1):List v1:=match s with
 |.FunctionDef _ _ b _ _ _ _ _ _ _=>b
 |_=>[]
def sB (s:v1):b7:=match s with
 |.FunctionDef _ _ _ _ _ _ a _ _ _=>a
 |_=> {kind:=.function,names:=[],isGenerator:=false,isCoroutine:=false}
abbrev AC:hV:=λ_ _ _ _ _ _=>False
abbrev E0:XK:=λ_ _ _=>False
theorem wE {X:Cx}:h3 AC X E0:=λ_ _ _ _ _ _ _ h=>h.elim
structure sn (K:xz) (x b:Str) (st:v1) (f:B) (fd:sc):Prop where
 ex:∃(e:Wp) (g:Option B) (kV d i:Wp) (c:Option B) (a ct:Wp) (h:Array (Option Wp)),
  fd=f6 x b (g9 st) (gn st) (sB st) .none kV d i c a ct/\K.lookup f=some ⟨e,g,.func fd,h⟩/\k' K a b=true
 kp:cL K (.ref f)=true
section
variable {P:pu}{w:rs}{K:xz}{mg:Str->Option Wp}{base:wn}
theorem sn.ok {x b:Str}{st:v1}{f:B}{fd:sc}{N ps:List Str}{k:Nat}{sp:Sp}(F:sn K x b st f fd) (S:pc N ps (sB st)) (len:∀vs H Q E,sp vs H Q E->vs.length=ps.length)
  (c:∀(a:Wp) (A:cs) (outer:List Env) (s:Rs) (H:Hp) (vs:List XV) (Q:VK) (E:XK),bF k (A.deeper (hO b (sB st) s.heap.objs.size f a))->sp vs H Q E->
   ∃t,eL (ke AC P w K mg base N b (sB st) f a A outer s H E).oO (gn st) t/\t {nx:=λ_ V=>Q .ak V,rt:=Q} (start N vs) H):Db P w K mg base AC (k+1) f fd ps sp:=by
 obtain⟨i,j,kV,g,m,e,a,ct,l,rfl,lk,d⟩:=F.ex;refine Fy lk d S len λA outer s H vs Q E hr hsp=>?_;obtain⟨t,h,q⟩:=c a A outer s H vs Q E hr hsp;exact⟨t,h.oO,q⟩
theorem sn.binds {x e:Str}{st:v1}{f:B}{fd:sc}{ps:List Str}(F:sn K x e st f fd)
  (h:∀(kV c d:Wp) (a:Option B) (b ct:Wp) (us:List Wp),us.length=ps.length->vO (f6 x e (g9 st) (gn st) (sB st) .none kV c d a b ct) ⟨us,[]⟩=pure (ps.zip us)):Binds K fd ps []:=by
 obtain⟨i,j,kV,c,d,a,b,ct,k,rfl,lk,g⟩:=F.ex;exact .all (h kV c d a b ct)
theorem l1 {x b:Str}{st:v1}{f:B}{h:Wp}{i d:Option B}{j:Array (Option Wp)}{kV e g a ct:Wp}(l:K.lookup f=some ⟨h,i,.func (f6 x b (g9 st) (gn st) (sB st) .none kV e g d a ct),j⟩)
  (c:k' K a b=true) (k:cL K (.ref f)=true):sn K x b st f (f6 x b (g9 st) (gn st) (sB st) .none kV e g d a ct):=⟨⟨h,i,kV,e,g,d,a,ct,j,O,l,c⟩,k⟩
end
theorem hc {A:cs}{k:Nat}(hr:bF k A):A.units+1<cJ:=wi (Nat.add_le_add_left (by decide:1<=64) _) hr.units
theorem Af {n:Nat}(h:n<=1000):n<Is:=wi h (by decide)
section
variable {X:Cx}
theorem I (i:Nat) {x:Str}{pos:Pos}(a:X.N[i]?=some x:=by rfl) (hv:j9 X.env.scope x:=by first|exact IN rfl|exact dE (IN rfl)|exact dE (dE rfl)) (hd:(x==("__debug__":Str))=false:=by decide)
  (b:(x==("__classdict__":Str))=false:=by decide):PE X (.Name x pos) (bQ i):=Jy a hv hd b
end
theorem v6 {A UV:Prop}(h:UV):if false=true then A else UV:=by
 rw[Ps b2];exact h
theorem ww {A UV:Prop}(h:A):if true=true then A else UV:=by
 rw[No rfl];exact h
def Tl (H V:Hp):Prop:=∀b o,H b=some o->V b=some o
theorem Tl.free {H V:Hp}(e:Tl H V) {l:B}(h:V l=Option.none):H l=Option.none:=by(
cases q:H l with
|none=>rfl
|some o=>
 rw[e l o q]at h;cases h)
section
variable {κ:Type} [DecidableEq κ]
theorem AM {UF:List (κ×XV)}{k:κ}(h:jp UF k=none):¬k∈UF.map (·.1):=by
 intro m;obtain⟨p,a,e⟩:=m0.mp m;have q:(UF.any λb=>decide (b.1=k))=true:=Bn.mpr ⟨p,a,s2 e⟩;rw[jI,h]at q;exact absurd q (by simp)
theorem LS {UF:List (κ×XV)}{k:κ}{v:XV}(h:jp UF k=some v):k∈UF.map (·.1):=by(
have q:(UF.any λb=>decide (b.1=k))=true:=by
 rw[jI,h]
 all_goals rfl
obtain⟨p,a,e⟩:=Bn.mp q;exact m0.mpr ⟨p,a,vv e⟩)
end
theorem sum_set:∀ {l:List Int}{j:Nat}{z y:Int},l[j]?=some z->(l.set j y).sum=l.sum-z+y
 |[],j,z,y,h=>by simp at h
 |a::r,0,z,y,h=>by
  have e:a=z:=bT h;subst e;show(y::r).sum=(a::r).sum-a+y;rw[dH,dH];omega
 |a::r,j+1,z,y,h=>by
  have b:=sum_set (l:=r) (j:=j) (z:=z) (y:=y) h;show(a::r.set j y).sum=(a::r).sum-z+y;rw[dH,dH,b];omega
theorem pJ:∀ {l:List Int}{i:Nat}{z:Int},l[i]?=some z->(l.take (i+1)).sum=(l.take i).sum+z
 |[],i,z,h=>by simp at h
 |a::r,0,z,h=>by
  have e:a=z:=bT h;subst e;show([a]:List Int).sum=([]:List Int).sum+a;rw[dH];exact Int.add_comm _ _
 |a::r,i+1,z,h=>by
  have b:=pJ (l:=r) (i:=i) (z:=z) h;show(a::r.take (i+1)).sum=(a::r.take i).sum+z;rw[dH,dH,b];omega
end L2
namespace Z3
open PySem
open Sem (wp)
abbrev bU (h:wn) (T:B) (a b c:Wp):Prop:=h.get? T=some {cls:=.type "tuple",data:=.seq #[a,b,c]}
theorem LP (a b c:Wp):checkTypeCall "zip" ⟨[a,b,c],[]⟩=pure ():=by kernel_rfl
theorem HG (a b c:Wp):checkBuiltinCall "zip.__new__" ⟨[.type "zip",a,b,c],[]⟩=pure ():=by kernel_rfl
theorem F6 (a b c d:Wp):argsOk "object.__init__" ⟨[a,b,c,d],[]⟩:=by
 unfold argsOk;(rw[signature?_of (id:="object.__init__") (n:=['_','_','t','i','n','i','_','_']) (o:=['t','c','e','j','b','o']) (by kernel_rfl) F.owner_object]);kernel_rfl
section
variable {prog:pu}{w:rs}{A:cs}{E:Wp->Rs->Prop}{s:Rs}
theorem u6 {T:B}{a b c x:Wp}{k:Nat}{Q:Unit->Rs->Prop}(hT:bU s.heap T a b c)
  (h:∀h',h'.get? T=some {cls:=.type "tuple",data:=.seq ((#[a,b,c]:Array Wp).setIfInBounds k x)}->k_ T s.heap h'->Q () {s with heap:=h'}):wpAny (Do prog w) A (vM T (·.setIfInBounds k x)) Q E s:=by
 refine mR hT rfl (h _ ?_ (qW ..));(rw[jR _ hT rfl]);(simp[gR])
structure Apart (z TI TO a b c d e f:B):Prop where
 kA:TI≠z/\TI≠TO/\TI≠a/\TI≠b/\TI≠c
 HA:TO≠z/\TO≠a/\TO≠b/\TO≠c
 n1:a≠z/\a≠b/\a≠c
 n2:b≠z/\b≠c
 n3:c≠z
 m1:d≠z/\d≠TO/\d≠a/\d≠b/\d≠c
 m2:e≠z/\e≠TO/\e≠a/\e≠b/\e≠c
 m3:f≠z/\f≠TO/\f≠a/\f≠b/\f≠c
abbrev nL (z TO a b d:B) (h h':wn):Prop:=∀c o,c≠z->c≠TO->c≠a->c≠b->c≠d->h.get? c=some o->h'.get? c=some o
theorem HK {z TI TO j l m u C H:B}{k:Nat}{xs ys zs:Array Wp}{x y v a b c:Wp}{Q:Wp->Rs->Prop}(NI:Apart z TI TO j l m u C H)
  (hz:ef s.heap z TI TO .none) (NU:bU s.heap TI (.ref j) (.ref l) (.ref m)) (NV:bU s.heap TO a b c) (h1:s.heap.IsListIter j u k) (h2:s.heap.IsListIter l C k) (NO:s.heap.IsListIter m H k)
  (NX:s.heap.IsList u xs) (NY:s.heap.IsList C ys) (NZ:s.heap.IsList H zs) (N0:xs[k]?=some x) (N1:ys[k]?=some y) (hv:zs[k]?=some v)
  (NS:∀h',ef h' z TI TO (gK s.heap.objs.size)->bU h' TO x y v->h'.IsListIter j u (k+1)->h'.IsListIter l C (k+1)->h'.IsListIter m H (k+1)->bU h' s.heap.objs.size x y v->h'.objs.size=s.heap.objs.size+1->
   nL z TO j l m s.heap h'->Q (.ref s.heap.objs.size) {s with heap:=h'}):
  wpAny (Do prog w) A (hE.«zip.__next__» ⟨[.ref z],[]⟩) (λfin s'=>∃v,fin=.done (.ret v)/\Q v s') E s:=by(
obtain⟨⟨Ol,Og,Oh,Oi,Oj⟩,⟨t,L,N,T⟩,⟨Nq,ND,NF⟩,⟨Nr,NG⟩,Nu,⟨N_,Ot,Om,Oo,Oq⟩,⟨Oc,Ob,Oa,Ou,Ov⟩,⟨Of,NH,Od,Oe,Ow⟩⟩:=NI;show wpAny _ _ (qx (.ref z) 2 >>= _) _ _ _;refine IR (iI hz rfl (x:=.bool false) rfl ?_);show wpAny _ _ (qx (.ref z) 3 >>= _) _ _ _;refine IR (iI hz rfl (x:=.ref TI) rfl ?_);refine IR (hC NU rfl ?_);show wpAny _ _ (qL (.ref z) >>= _) _ _ _;refine IR ?_;unfold qL;refine IR (iI hz rfl (x:=.none) rfl (t3 ?_));simp only[aX];refine IR (Cc ?_);refine IR (iI hz rfl (x:=.ref TO) rfl ?_);refine IR (mO hz (by simp) λN3 Nn f=>?_);replace Nn:ef N3 z TI TO .ellipsis:=Nn;refine IR ?_;simp only[j0,Bt,p7,mL];refine IR (IR (qk ?_));show wpAny _ _ (qM (.ref j) >>= _) _ _ _;refine IR (vy (h1.extBut f.extBut Nq) (NX.extBut f.extBut N_) N0 λN4 NK h=>t3 ?_);have Nv:bU N4 TO a b c:=h.extBut _ _ L (f.extBut _ _ t NV);refine IR (hC Nv rfl ?_);refine IR (u6 Nv λN5 Nj i=>?_);replace Nj:bU N5 TO x b c:=Nj;refine IR (iJ (t3 ?_));refine IR (IR (qk ?_));show wpAny _ _ (qM (.ref l) >>= _) _ _ _;refine IR (vy (((h2.extBut f.extBut Nr).extBut h.extBut ND.symm).extBut i.extBut N.symm) (((NY.extBut f.extBut Oc).extBut h.extBut Oa).extBut i.extBut Ob) N1 λN6 NM n=>t3 ?_);have Nw:bU N6 TO x b c:=n.extBut _ _ N Nj;refine IR (hC Nw rfl ?_);refine IR (u6 Nw λN7 Nk p=>?_);replace Nk:bU N7 TO x y c:=Nk;refine IR (iJ (t3 ?_));refine IR (IR (qk ?_));show wpAny _ _ (qM (.ref m) >>= _) _ _ _;refine IR (vy (((((NO.extBut f.extBut Nu).extBut h.extBut NF.symm).extBut i.extBut T.symm).extBut n.extBut NG.symm).extBut p.extBut T.symm)
 (((((NZ.extBut f.extBut Of).extBut h.extBut Od).extBut i.extBut NH).extBut n.extBut Oe).extBut p.extBut NH) hv λN8 NQ q=>t3 ?_)
have Nx:bU N8 TO x y c:=q.extBut _ _ T Nk;refine IR (hC Nx rfl ?_);refine IR (u6 Nx λd U r=>?_);replace U:bU d TO x y v:=U;refine IR (iJ (t3 (t3 ?_)));refine IR (hC U rfl ?_);refine IR (BY ?_);have hsz:d.objs.size=s.heap.objs.size:=by rw[r.1,q.1,p.1,n.1,i.1,h.1,f.1]
have NW:∀c o,c≠z->c≠TO->c≠j->c≠l->c≠m->s.heap.get? c=some o->d.get? c=some o:=λc o c1 c2 c3 c4 D e=>
 r.extBut _ _ c2 (q.extBut _ _ D (p.extBut _ _ c2 (n.extBut _ _ c4 (i.extBut _ _ c2 (h.extBut _ _ c3 (f.extBut _ _ c1 e))))))
have NC:ef d z TI TO .ellipsis:=r.extBut _ _ t.symm (q.extBut _ _ Nu.symm (p.extBut _ _ t.symm (n.extBut _ _ Nr.symm (i.extBut _ _ t.symm (h.extBut _ _ Nq.symm Nn)))));have NL:d.IsListIter j u (k+1):=((((NK.extBut i.extBut L.symm).extBut n.extBut ND).extBut p.extBut L.symm).extBut q.extBut NF).extBut r.extBut L.symm;have NN:d.IsListIter l C (k+1):=((NM.extBut p.extBut N.symm).extBut q.extBut NG).extBut r.extBut N.symm;have NR:d.IsListIter m H (k+1):=NQ.extBut r.extBut T.symm;have NA:z<d.objs.size:=f0 NC;show wpAny _ _ (CU (.ref z) (.ref d.objs.size) >>= _) _ _ _;refine IR ?_;unfold CU;have N2:ef (d.push {cls:=.type "tuple",data:=.seq #[x,y,v]}) z TI TO .ellipsis:=ls _ NC;refine IR (mO N2 (by simp) λN9 Np Nm=>?_);replace Np:ef N9 z TI TO (gK d.objs.size):=Np;refine mO Np (by simp) λg Y Nl=>?_;replace Y:ef g z TI TO (gK d.objs.size):=Y;have J:∀c o,c≠z->d.get? c=some o->g.get? c=some o:=λc o c1 e=>Nl.extBut _ _ c1 (Nm.extBut _ _ c1 (ls _ e));have Ny:bU g d.objs.size x y v:=Nl.extBut _ _ (qE NA) (Nm.extBut _ _ (qE NA) (a9 _ rfl));have Nz:g.objs.size=d.objs.size+1:=by rw[Nl.1,Nm.1,cK]
rw[hsz]at Y Ny Nz;refine t3 ⟨_,O,?_⟩;show Q (.ref d.objs.size) _;rw[hsz];exact NS g Y (J _ _ t U) (NL.at λo e=>J _ o Nq e) (NN.at λo e=>J _ o Nr e) (NR.at λo e=>J _ o Nu e) Ny Nz λc o c1 c2 c3 c4 D e=>J c o c1 (NW c o c1 c2 c3 c4 D e))
theorem HI {z TI TO d i j l Nk Nl:B}{k:Nat}{xs:Array Wp}{a b c:Wp}{Q:Fin->Rs->Prop}(J:A.handled=none) (D:Apart z TI TO d i j l Nk Nl)
  (hz:ef s.heap z TI TO .none) (y:bU s.heap TI (.ref d) (.ref i) (.ref j)) (Nz:bU s.heap TO a b c) (h1:s.heap.IsListIter d l k) (L:s.heap.IsList l xs) (N:xs[k]?=none)
  (u:∀h' e,nL z TO d i j s.heap h'->(∃o,h'.get? e=some o/\o.cls=.type "StopIteration")->E (.ref e) {s with heap:=h'}):
  wpAny (Do prog w) A (hE.«zip.__next__» ⟨[.ref z],[]⟩) Q E s:=by(
obtain⟨⟨Nu,Nn,Np,Nq,Nr⟩,⟨Ny,Nv,Nw,Nx⟩,⟨t,NA,NC⟩,⟨NF,ND⟩,NG,⟨Nj,NL,NH,NI,NK⟩,_,_⟩:=D;show wpAny _ _ (qx (.ref z) 2 >>= _) _ _ _;refine IR (iI hz rfl (x:=.bool false) rfl ?_);show wpAny _ _ (qx (.ref z) 3 >>= _) _ _ _;refine IR (iI hz rfl (x:=.ref TI) rfl ?_);refine IR (hC y rfl ?_);show wpAny _ _ (qL (.ref z) >>= _) _ _ _;refine IR ?_;unfold qL;refine IR (iI hz rfl (x:=.none) rfl (t3 ?_));simp only[aX];refine IR (Cc ?_);refine IR (iI hz rfl (x:=.ref TO) rfl ?_);refine IR (mO hz (by simp) λT h g=>?_);replace h:ef T z TI TO .ellipsis:=h;refine IR ?_;simp only[j0,Bt,p7,mL];refine IR (IR (qk ?_));show wpAny _ _ (qM (.ref d) >>= _) _ _ _;refine IR (wpAny_nextOf_list_end J (h1.extBut g.extBut t) (L.extBut g.extBut Nj) N λU e n C=>?_);obtain⟨Nm,f,m⟩:=C;have r:ef U z TI TO .ellipsis:=n _ _ t.symm h;have H:e≠z:=λq=>by subst q;rw[r]at f;cases f;simp at m
exact mO r (by simp) λY _ p=>u Y e (λc o c1 _ c3 _ _ q=>p.extBut _ _ c1 (n _ _ c3 (g.extBut _ _ c1 q))) ⟨Nm,p.extBut _ _ H f,m⟩)
theorem JU {z TI TO d e f g h i:B}{k:Nat}{xs ys zs:Array Wp}{x y v a b c:Wp}{Q:Option Wp->Rs->Prop}(D:Apart z TI TO d e f g h i)
  (hz:ef s.heap z TI TO .none) (n:bU s.heap TI (.ref d) (.ref e) (.ref f)) (o:bU s.heap TO a b c) (h1:s.heap.IsListIter d g k) (h2:s.heap.IsListIter e h k) (l:s.heap.IsListIter f i k)
  (p:s.heap.IsList g xs) (q:s.heap.IsList h ys) (r:s.heap.IsList i zs) (t:xs[k]?=some x) (u:ys[k]?=some y) (hv:zs[k]?=some v)
  (m:∀h',ef h' z TI TO (gK s.heap.objs.size)->bU h' TO x y v->h'.IsListIter d g (k+1)->h'.IsListIter e h (k+1)->h'.IsListIter f i (k+1)->bU h' s.heap.objs.size x y v->h'.objs.size=s.heap.objs.size+1->
   nL z TO d e f s.heap h'->Q (some (.ref s.heap.objs.size)) {s with heap:=h'}):wpAny (Do prog w) A (eD (.ref z)) Q E s:=by(
have hT:s.TypeIs (.ref z) "zip":=⟨_,hz,O⟩;unfold eD;exact IR (qj (qb (name:=qY "__next__") hT F.slot_zip_next (iG F.slot_zip_next hT F.entry_zip_next
  (HK D hz n o h1 h2 l p q r t u hv λh' a1 a2 a3 a4 a5 a6 a7 j=>t3 (m h' a1 a2 a3 a4 a5 a6 a7 j)) (F.args_zip_next_1 _)))))
theorem JT {z TI TO d f g h x y:B}{k:Nat}{xs:Array Wp}{a b c:Wp}{Q:Option Wp->Rs->Prop}(p:A.handled=none) (D:Apart z TI TO d f g h x y)
  (hz:ef s.heap z TI TO .none) (j:bU s.heap TI (.ref d) (.ref f) (.ref g)) (l:bU s.heap TO a b c) (h1:s.heap.IsListIter d h k) (r:s.heap.IsList h xs) (u:xs[k]?=none)
  (i:∀h',nL z TO d f g s.heap h'->Q none {s with heap:=h'}):wpAny (Do prog w) A (eD (.ref z)) Q E s:=by
 have hT:s.TypeIs (.ref z) "zip":=⟨_,hz,O⟩;unfold eD;refine IR (qj (qb (name:=qY "__next__") hT F.slot_zip_next (iG F.slot_zip_next hT F.entry_zip_next (HI p D hz j l h1 r u λh' e q n=>?_) (F.args_zip_next_1 _))));obtain⟨o,t,m⟩:=n;exact IR (BP (T:="StopIteration") (b:=true) ⟨o,t,m⟩ BX (t3 (i _ q)))
end
abbrev d7 (l:B):Obj:= {cls:=.type "list_iterator",data:=.fields #[.ref l,.int 0 0]}
abbrev g3 (h:wn) (a b c:B):wn:=((h.push (d7 a)).push (d7 b)).push (d7 c)
abbrev g4 (h:wn) (a b c:B):wn:=(g3 h a b c).push {cls:=.type "tuple",data:=.seq #[.ref h.objs.size,.ref (h.push (d7 a)).objs.size,.ref ((h.push (d7 a)).push (d7 b)).objs.size]}
abbrev g5 (h:wn) (a b c:B):wn:=(g4 h a b c).push {cls:=.type "tuple",data:=.seq #[.none,.none,.none]}
abbrev g6 (h:wn) (a b c:B):wn:=(g5 h a b c).push {cls:=.type "zip",data:=.fields #[.none,.bool false,.bool false,.ref (g3 h a b c).objs.size,.ref (g4 h a b c).objs.size]}
theorem Hm (a b c:B) (xs ys zs:Array Wp):
  Meets (hE.«zip.__new__» ⟨[.type "zip",.ref a,.ref b,.ref c],[]⟩) (λ_ R s=>s.heap.IsList a xs/\s.heap.IsList b ys/\s.heap.IsList c zs/\R (.ok (.ret (.ref (g5 s.heap a b c).objs.size))) {s with heap:=g6 s.heap a b c}):=
 .of_wp λprog w A R s h=>by
  obtain⟨e,g,d,tk,os⟩:=s;obtain⟨k,l,m,h⟩:=h;have n:=sub_zip;have f:vZ (Shared.heap ⟨e,g,d,tk,os⟩) a xs:=k;have i:vZ (Shared.heap ⟨e.push (d7 a),g,d,tk,os⟩) b ys:=wZ l _;have j:vZ (Shared.heap ⟨(e.push (d7 a)).push (d7 b),g,d,tk,os⟩) c zs:=wZ (wZ m _) _
  wp_walk using mP f,mP i,mP j
  exact⟨_,O,h⟩
theorem Eo {prog:pu}{w:rs}{A:cs}{E:Wp->Rs->Prop}{s:Rs}{a b d:B}{xs ys zs:Array Wp}{Q:Wp->Rs->Prop}(r:s.heap.IsList a xs) (t:s.heap.IsList b ys) (u:s.heap.IsList d zs)
  (h:∀h',ef h' (s.heap.objs.size+5) (s.heap.objs.size+3) (s.heap.objs.size+4) .none->bU h' (s.heap.objs.size+3) (.ref s.heap.objs.size) (.ref (s.heap.objs.size+1)) (.ref (s.heap.objs.size+2))->bU h' (s.heap.objs.size+4) .none .none .none->
   h'.IsListIter s.heap.objs.size a 0->h'.IsListIter (s.heap.objs.size+1) b 0->h'.IsListIter (s.heap.objs.size+2) d 0->h'.objs.size=s.heap.objs.size+6->(∀c o,s.heap.get? c=some o->h'.get? c=some o)->Q (.ref (s.heap.objs.size+5)) {s with heap:=h'}):
  wpAny (Do prog w) A (call (.type "zip") [.ref a,.ref b,.ref d]) Q E s:=by(
refine callType_new F.called_zip (by decide) (LP _ _ _) (HG _ _ _) (λobj=>F6 obj _ _ _) F.entry_zip_new (Hm a b d xs ys zs) ⟨r,t,u,?_⟩;have f:(s.heap.push (d7 a)).objs.size=s.heap.objs.size+1:=cK ..;have g:((s.heap.push (d7 a)).push (d7 b)).objs.size=s.heap.objs.size+2:=by rw[cK,f]
have i:(g3 s.heap a b d).objs.size=s.heap.objs.size+3:=by rw[cK,g]
have j:(g4 s.heap a b d).objs.size=s.heap.objs.size+4:=by rw[cK,i]
have k:(g5 s.heap a b d).objs.size=s.heap.objs.size+5:=by rw[cK,j]
have y:(g6 s.heap a b d).objs.size=s.heap.objs.size+6:=by rw[cK,k]
have e:(g6 s.heap a b d).get? (g5 s.heap a b d).objs.size=some _:=a9 _ rfl;have p:(g6 s.heap a b d).get? (g4 s.heap a b d).objs.size=some _:=ls _ (a9 _ rfl);have n:(g6 s.heap a b d).get? (g3 s.heap a b d).objs.size=some _:=ls _ (ls _ (a9 _ rfl));have m:(g6 s.heap a b d).get? ((s.heap.push (d7 a)).push (d7 b)).objs.size=some _:=ls _ (ls _ (ls _ (a9 _ rfl)));have l:(g6 s.heap a b d).get? (s.heap.push (d7 a)).objs.size=some _:=ls _ (ls _ (ls _ (ls _ (a9 _ rfl))));have q:(g6 s.heap a b d).get? s.heap.objs.size=some _:=ls _ (ls _ (ls _ (ls _ (ls _ (a9 _ rfl)))));show _/\_;rw[i,j,k]at e;rw[f,g,i]at n;rw[j]at p;rw[g]at m;rw[f]at l;rw[k];exact⟨⟨_,e,O⟩,h _ e n p ⟨_,q,O,O⟩ ⟨_,l,O,O⟩ ⟨_,m,O,O⟩ y λc o x=>ls _ (ls _ (ls _ (ls _ (ls _ (ls _ x)))))⟩)
end Z3
namespace L2
open PySem PySem.Spec PyProof.Rows
def eu (xs:List XV) (lo hi st:Option Int):List XV:=(mT (fz lo hi st xs.length).1 (fz lo hi st xs.length).2.1 (fz lo hi st xs.length).2.2).filterMap (xs[·]?)
theorem wP.pick {xs:List XV}{us:List Wp}(r:wP xs us):∀l:List Nat,wP (l.filterMap (xs[·]?)) (l.filterMap (us.toArray[·]?))
 |[]=>.nil
 |i::l=>by
  rw[gP,gP];cases e:xs[i]? with
  |none=>
   have:us.toArray[i]?=none:=by simpa using r.none_of e
   rw[this];exact wP.pick r l
  |some x=>
   obtain⟨u,a,b⟩:=r.get e;have:us.toArray[i]?=some u:=by simpa using a
   rw[this];exact .cons b (wP.pick r l)
theorem JE {xs:List XV}{us:List Wp}(r:wP xs us) (lo hi st:Option Int):wP (eu xs lo hi st) (qs us.toArray lo hi st).toList:=by(
have e:us.toArray.size=xs.length:=by rw[aP];exact r.length.symm
unfold qs eu;rw[e];exact r.pick _)
def uY (K:xz) (te:TE) (tl th ts:TO):TE:=λZB H Q=>te ZB H λx H1=>tl ZB H1 λlo H2=>th ZB H2 λhi c=>ts ZB c λst b=>∃a xs,x=.ref a/\TW K b a xs/\st≠some 0/\(eu xs lo hi st).length<=Is/\∀p,b p=none->Q (.ref p) (T0 b p (.lst (eu xs lo hi st)))
theorem kI {X:Cx}{e sp:ws}{te:TE}{lo hi:Option ws}{tl th ts:TO}{pos p2:Pos}(y:PE X e te) (z:PO X lo tl) (hu:PO X hi th) (C:PO X (some sp) ts):PE X (.Subscript e (.Slice lo hi (some sp) p2) pos) (uY X.K te tl th ts):=by
 intro WP s ZB H Q W1 h;refine qQ (xL (y WP s ZB H _ W1 h) λv Nj ⟨x,H1,m,Y,L⟩=>?_);refine B7 (xL (z WP Nj ZB H1 _ m L) λg Nk ⟨l,H2,n,pl,N⟩=>xL (hu WP Nk ZB H2 _ n N) λi Nl ⟨u,j,p,J,T⟩=>xL (C WP Nl ZB j _ p T) λvs c ⟨st,k,t,ps,U⟩=>?_);obtain⟨a,xs,rfl,D,h0,E,q⟩:=U;cases Y;have d:Inv X WP ZB k {c with heap:=c.heap.push {cls:=.type "slice",data:=.fields #[g,i,vs]}}:=t.kept (t':=c.toks) λb ob q=>ls _ q;obtain⟨Op,r,f,hz⟩:=d.list D;have Nm:=r.length;show wpAny (Do X.prog X.w) X.A (qO e (.Slice lo hi (some sp) p2) (.ref a) (.ref c.heap.objs.size)) (EP X WP ZB Q) X.xe {c with heap:=c.heap.push {cls:=.type "slice",data:=.fields #[g,i,vs]}};refine tail_any (ops:=[.ref a,.ref c.heap.objs.size]) f.isList.typeIs vz.lookup (Bz f.isList (Heap.IsSliceOf.new ..) pl J ps h0 ?_ (by rw[aP];omega)) (by with_unfolding_all rfl);refine⟨.ref _,_,d.laid (t':=c.toks) (o:=.lst (eu xs l u st)) (λb ob q=>ls _ q) (t1 _) ?_,O,q _ (d.ag.fresh (t1 _))⟩;exact⟨E,_,0,JE r l u st,a9 _ rfl⟩
def bc:Nat->Bool:=λ_=>false
theorem yD:∀ {vs:List Wp}{ns:List Int}(i:Nat),cn vs ns->tupItems bc i vs=some (ns.map it)
 |_,_,_,.nil=>rfl
 |_,_,i,.cons n t h=>by
  show(if bc i=true then none else(tupItems bc (i+1) _).map (it n:: ·))=_;rw[Ps (by simp[bc]),yD (i+1) h];rfl
theorem oB:∀a b:List Int,lexLt wH (a.map it) (b.map it)=fr a b
 |[],[]=>rfl
 |[],_::_=>rfl
 |_::_,[]=>rfl
 |x::a,y::b=>by
  rw[na,na,lex_cons,oB a b];show(decide (x<y)||(!decide (y<x)&&fr a b))=(decide (x<y)||(decide (x=y)&&fr a b));by_cases h:x<y
  ·simp[h]
  ·by_cases h2:y<x
   ·simp[h,h2,show ¬x=y by omega]
   ·simp[h,h2,show x=y by omega]
theorem AJ {h:wn}{a:B}{Op:List Wp}{ns:List Int}(d:iU h a Op.toArray) (hi:cn Op ns):gQ h bc (.ref a)=some (ns.map it):=by
 obtain⟨o,b,c,n,hd⟩:=d;unfold gQ;rw[No (show C6 h (.ref a)=true by simp[C6,b,c])];simp only[tupKey,b,hd];exact yD 0 hi
def sO (K:xz):List XV->Hp->VK->Prop:=λvs H Q=>∃(a:B) (ts:List (B×List Int)),vs=[XV.ref a]/\TW K H a (ts.map λt=>XV.ref t.1)/\(∀t,t∈ts->pm K H t.1 (t.2.map XV.int)/\t.2≠[])/\
 ∀(us:List (B×List Int)) (p:B),us.Perm ts->us.Pairwise (λx y=>Tw.cR x.2 y.2)->H p=none->Q (.ref p) (T0 H p (.lst (us.map λt=>XV.ref t.1)))
theorem zO:∀ {ts:List (B×List Int)}{us:List Wp},wP (ts.map λt=>XV.ref t.1) us->us=ts.map λt=>f8 t.1
 |[],_,.nil=>rfl
 |t::ts,_,.cons r a=>by
  cases r;rw[na,zO a]
theorem AR:∀(ts:List (B×List Int)),wP (ts.map λt=>XV.ref t.1) (ts.map λt=>f8 t.1)
 |[]=>.nil
 |_::ts=>.cons rfl (AR ts)
theorem EA {X:Cx}:gV X (.builtin "sorted") (sO X.K):=by(
intro WP s ZB H vs us Q W1 r h;obtain⟨a,ts,rfl,Nx,N,q⟩:=h;obtain⟨Op,Y,Nr,hz⟩:=W1.list Nx;rw[wP.sT r];have g:=zO Y;have key:∀t,t∈ts->gQ s.heap bc (.ref t.1)=some (t.2.map it):=λt m=>by
 obtain⟨Ny,D,ND,_⟩:=W1.tuple (N t m).1;exact AJ ND D.ints
have eX:∀l:List (B×List Int),(∀t,t∈l->t∈ts)->∃fs,qS s.heap bc (l.map λt=>f8 t.1) fs:=by
 intro l
 induction l with
 |nil=>intro _;exact⟨[],.nil⟩
 |cons t l A=>
  intro hm;obtain⟨fs,f⟩:=A λu hu=>hm u (on _ hu);obtain⟨h1,h2⟩:=N t (hm t (lc ..));obtain⟨Ny,D,⟨o,Nw,Nl,n,hd⟩,_⟩:=W1.tuple h1;have hi:=D.ints;obtain⟨b,ns⟩:=t;cases ns with
  |nil=>exact absurd rfl h2
  |cons k ns=>
   cases hi with
   |cons _ tk E=>exact⟨_::fs,.cons ⟨b,o,_,n,O,Nw,Nl,hd,O,λ_=>⟨_,_,O⟩,λe=>by cases e⟩ f⟩
obtain⟨fs,f⟩:=eX ts λ_ m=>m;rw[<- g]at f;have Nu:=Y.length;refine G.sorted_tups Nr.isList f (λv hv=>?_) (by rw[<- Nu];exact hz) λNC J L _=>?_
·rw[g]at hv;obtain⟨t,m,rfl⟩:=m0.mp hv;exact⟨_,key t m⟩
·generalize NF:arrOf NC=arr at J L
 let c:aE->B×List Int:=λp=>match p.2 with
  |.ref b=>(b,((gQ s.heap bc (.ref b)).getD []).map λz=>match z with|.inl n=>n|.inr _=>0)
  |_=>(0,[])
 have w:arr.toList.Perm (Op.zip Op):=by
  have e:=wK.mp J
  rwa [wB]at e
 have C:∀t,t∈ts->c (.ref t.1,.ref t.1)=t:=λt m=>by
  show(t.1,((gQ s.heap bc (.ref t.1)).getD []).map _)=t;rw[key t m];simp only[wx,be];have:((λ(z:Int ⊕ List Nat)=>match z with|.inl n=>n|.inr _=>0)∘it)=(id:Int->Int):=rfl;rw[this,p_]
 have Nk:Op.zip Op=ts.map λt=>((.ref t.1,.ref t.1):aE):=by
  rw[g];generalize ts=l
  induction l with
  |nil=>rfl
  |cons t l A=>simp only[na,nF,A]
 have U:∀p,p∈arr.toList->∃t,t∈ts/\p=(.ref t.1,.ref t.1):=λp m=>by
  have:=w.mem_iff.mp m;rw[Nk]at this;obtain⟨t,d,e⟩:=m0.mp this;exact⟨t,d,e.symm⟩
 have perm:(arr.toList.map c).Perm ts:=by
  refine(w.map c).trans ?_;rw[Nk,be];refine w0 ?_
  conv=>rhs;rw[<- p_ ts]
  exact ei λt m=>C t m
 have Nz:(arr.map (·.2)).toList=(arr.toList.map c).map λt=>f8 t.1:=by
  rw[C4,be];refine ei λp m=>?_;obtain⟨t,d,rfl⟩:=U p m;show f8 t.1=f8 (c (.ref t.1,.ref t.1)).1;rw[C t d]
 have T:∀i (hi:i<arr.toList.length),KK (gc s.heap bc) arr i=((c arr.toList[i]).2).map it:=λi hi=>by
  obtain⟨t,d,e⟩:=U _ (eH hi);unfold KK;have E:i<arr.size:=by simpa using hi
  rw[wL E,<-C3];show((gQ s.heap bc (arr.toList[i]).1).getD [])=_;rw[e,C t d];show(gQ s.heap bc (.ref t.1)).getD []=_;rw[key t d];rfl
 have NA:(arr.toList.map c).Pairwise (λx y=>Tw.cR x.2 y.2):=by
  rw[iX,jX];intro i j hi Np Nn;have Nq:j<(gb Op).size:=by
   have:=w.length_eq;rw[qP];simp only[List.length_zip,Nat.min_self]at this;omega
  have:=L i j (d1 Nn) Nq;rw[T i hi,T j Np]at this;have Nj:lexLt wH (((c arr.toList[j]).2).map it) (((c arr.toList[i]).2).map it)=false:=this;rw[oB]at Nj;exact Tw.jr.mp (by rw[Nj];rfl)
 obtain⟨ep,Nm⟩:=CW s.heap Op (arr.map (·.2));have Nv:((arr.toList.map c).map λt=>XV.ref t.1).length<=Is:=by
  rw[FS,perm.length_eq];rw[FS]at hz;exact hz
 refine⟨.ref _,T0 H (s.heap.objs.size+1) (.lst ((arr.toList.map c).map λt=>XV.ref t.1)),W1.laid (t':=s.toks) (λ_ _=>CV) (hL _) ⟨Nv,(arr.map (·.2)).toList,ep,?_,Nm⟩,O,q _ _ perm NA (W1.ag.fresh (hL _))⟩;rw[Nz];exact AR _)
def lK (K:xz) (a b c:B):It:=
 ⟨λi H=>∃(xs ys zs:List XV) (x y z:XV),TW K H a xs/\TW K H b ys/\TW K H c zs/\xs[i]?=some x/\ys[i]?=some y/\zs[i]?=some z,
  λi H v V=>∃T x y z,v=.ref T/\H T=none/\V=T0 H T (.tup [x,y,z])/\(∀xs,TW K H a xs->xs[i]?=some x)/\(∀ys,TW K H b ys->ys[i]?=some y)/\∀zs,TW K H c zs->zs[i]?=some z,
  λi H=>∃xs:List XV,TW K H a xs/\xs.length<=i⟩
theorem LL {P:pu}{w:rs}{K:xz}{NG:List ws}{NQ:Nat}{k2:Pos}{a b c z TI TO g j m:B}(D:Z3.Apart z TI TO g j m a b c):
  g0 P w K (.Tuple NG NQ k2) (lK K a b c) [z,TI,TO,g,j,m] z (λi h=>ef h z TI TO .none/\Z3.bU h TI (.ref g) (.ref j) (.ref m)/\(∃x y v,Z3.bU h TO x y v)/\h.IsListIter g a i/\h.IsListIter j b i/\h.IsListIter m c i) where
 mem:=by simp
 obj:=λi h st c J=>by
  obtain⟨hz,f,⟨x,y,v,n⟩,⟨NR,Nj,_,NC⟩,⟨NS,Nk,_,ND⟩,⟨NU,Nl,_,NF⟩⟩:=st;have Y:c=z\/c=TI\/c=TO\/c=g\/c=j\/c=m:=by simpa using J
  rcases Y with q|q|q|q|q|q
  ·rw[q];exact⟨_,hz,λv q=>nomatch q⟩
  ·rw[q];exact⟨_,f,λv q=>nomatch q⟩
  ·rw[q];exact⟨_,n,λv q=>nomatch q⟩
  ·rw[q];exact⟨NR,Nj,λv q=>by rw[NC]at q;cases q⟩
  ·rw[q];exact⟨NS,Nk,λv q=>by rw[ND]at q;cases q⟩
  ·rw[q];exact⟨NU,Nl,λv q=>by rw[NF]at q;cases q⟩
 keep:=λi h h' st k=>by
  obtain⟨hz,f,⟨x,y,v,n⟩,h1,h2,t⟩:=st;exact⟨k z (by simp) _ hz,k TI (by simp) _ f,⟨x,y,v,k TO (by simp) _ n⟩,h1.at λo q=>k g (by simp) o q,h2.at λo q=>k j (by simp) o q,t.at λo q=>k m (by simp) o q⟩
 item:=by
  intro X Np hw Nn J i WP s ZB H E W1 hf st hg;subst Np hw Nn;obtain⟨hz,f,⟨x0,N2,N1,n⟩,h1,h2,t⟩:=st;obtain⟨xs,ys,zs,x,y,v,N,Nu,Nv,Nw,Nx,hv⟩:=hg;obtain⟨Op,Nq,p,_⟩:=W1.list N;obtain⟨N6,NZ,p2,_⟩:=W1.list Nu;obtain⟨N7,N0,NV,_⟩:=W1.list Nv;obtain⟨u,hu,NW⟩:=Nq.get Nw;obtain⟨T,NN,NX⟩:=NZ.get Nx;obtain⟨U,NO,NY⟩:=N0.get hv;have Ny:z<s.heap.objs.size:=f0 hz;refine Z3.JU D hz f n h1 h2 t p.isList p2.isList NV.isList (x:=u) (y:=T) (v:=U) (by simpa using hu) (by simpa using NN) (by simpa using NO) λh' N3 NA NH NI NK hT hsz L=>?_;refine⟨_,O,wpAny_letOwnedTupleGo_zip (s:= {s with heap:=h'}) N3 λNm N4 r=>?_⟩;have NL:Nm.get? s.heap.objs.size=some {cls:=.type "tuple",data:=.seq #[u,T,U]}:=(r.2 _ (qE Ny)).trans hT;have new:bq X.prog X.w (T0 H s.heap.objs.size (.tup [x,y,v])) Nm s.heap.objs.size (.tup [x,y,v]):=
   ⟨by show 3<=Is;decide,[u,T,U],.cons NW (.cons NX (.cons NY .nil)),⟨_,NL,O,_,O⟩⟩
  have Nz:Inv X WP ZB (T0 H s.heap.objs.size (.tup [x,y,v])) {s with heap:=Nm}:=
   W1.LN (t':=s.toks) (ch:=[z,TI,TO,g,j,m]) (λc o e q=>(r.2 c (λd=>e (by simp[d]))).trans (L c o (λd=>e (by simp[d])) (λd=>e (by simp[d])) (λd=>e (by simp[d])) (λd=>e (by simp[d])) (λd=>e (by simp[d])) q)) hf (t1 _) new
  refine⟨.ref s.heap.objs.size,_,Nz,O,⟨_,x,y,v,O,W1.ag.fresh (t1 _),O,λl C=>by rw[W1.oD C N];exact Nw,λl C=>by rw[W1.oD C Nu];exact Nx,λl C=>by rw[W1.oD C Nv];exact hv⟩,⟨N4,?_,⟨u,T,U,?_⟩,?_,?_,?_⟩,λc Nr=>?_⟩
  ·exact(r.2 _ D.kA.1).trans (L _ _ D.kA.1 D.kA.2.1 D.kA.2.2.1 D.kA.2.2.2.1 D.kA.2.2.2.2 f)
  ·exact(r.2 _ D.HA.1).trans NA
  ·exact NH.at λo q=>(r.2 _ D.n1.1).trans q
  ·exact NI.at λo q=>(r.2 _ D.n2.1).trans q
  ·exact NK.at λo q=>(r.2 _ D.n3).trans q
  ·have NM:c<s.heap.objs.size:=by
    have Y:c=z\/c=TI\/c=TO\/c=g\/c=j\/c=m:=by simpa using Nr
    rcases Y with q|q|q|q|q|q
    ·rw[q];exact Ny
    ·rw[q];exact f0 f
    ·rw[q];exact f0 n
    ·rw[q];obtain⟨_,Nj,_⟩:=h1;exact f0 Nj
    ·rw[q];obtain⟨_,Nk,_⟩:=h2;exact f0 Nk
    ·rw[q];obtain⟨_,Nl,_⟩:=t;exact f0 Nl
   rw[Uf (b1 NM)];exact(hf c Nr).1
 done:=by
  intro X Np hw Nn J i WP s ZB H E W1 hf st hg;subst Np hw Nn;obtain⟨hz,f,⟨x0,N2,N1,n⟩,h1,h2,t⟩:=st;obtain⟨xs,N,N5⟩:=hg;obtain⟨Op,Nq,p,_⟩:=W1.list N;have N8:=Nq.length;exact Z3.JT (W1.ok.hd J) D hz f n h1 p.isList (by simp;omega) λh' L=>⟨O,W1.LM (t':=s.toks) (ch:=[z,TI,TO,g,j,m]) (λc o e q=>
   L c o (λd=>e (by simp[d])) (λd=>e (by simp[d])) (λd=>e (by simp[d])) (λd=>e (by simp[d])) (λd=>e (by simp[d])) q) hf⟩
 self:=λA i s Q E st h=>BQ st.1 h
theorem aT {x y:Nat}(h:@Ne Nat x y):@Ne B x y:=h
theorem D6 {n a b c:Nat}(h1:a<n) (h2:b<n) (d:c<n):Z3.Apart (n+5) (n+3) (n+4) n (n+1) (n+2) a b c:=
 ⟨⟨aT (by omega),aT (by omega),aT (by omega),aT (by omega),aT (by omega)⟩,⟨aT (by omega),aT (by omega),aT (by omega),aT (by omega)⟩,⟨aT (by omega),aT (by omega),aT (by omega)⟩,
  ⟨aT (by omega),aT (by omega)⟩,aT (by omega),⟨aT (by omega),aT (by omega),aT (by omega),aT (by omega),aT (by omega)⟩,⟨aT (by omega),aT (by omega),aT (by omega),aT (by omega),aT (by omega)⟩,
  ⟨aT (by omega),aT (by omega),aT (by omega),aT (by omega),aT (by omega)⟩⟩
def F4 (K:xz) (ta:TA):TI:=λZB H R=>ta ZB H λvs H1=>∃a b c xs ys zs,vs=[.ref a,.ref b,.ref c]/\TW K H1 a xs/\TW K H1 b ys/\TW K H1 c zs/\R (lK K a b c) H1
theorem JD {X:Cx}{e g i:ws}{ta:TA}{p pos k2:Pos}{t:List ws}{Q:Nat}(hg:Gl X "zip") (hm:X.mg "zip"=none) (y:PA X [e,g,i] ta)
  (N:bi [e,g,i] X.env=(false,eval e X.env)::bi [g,i] X.env:=by rfl) (D:(dX pos (bi [g,i] X.env)).any (·.1)=false:=by rfl):
  PI X (.Tuple t Q k2) (.Call (.Name "zip" p) [e,g,i] [] pos) (F4 X.K ta):=by(
intro WP s ZB H R W1 h;refine qT (kv W1 hg hm Eh (ng (xL (y pos WP s ZB H _ W1 h) λus d ⟨vs,H1,f,Nj,T⟩=>?_) N D));obtain⟨a,b,c,xs,ys,zs,ex,E,J,L,q⟩:=T;subst ex;obtain⟨⟩|⟨r,j⟩:=Nj;obtain⟨⟩|⟨U,j⟩:=j;obtain⟨⟩|⟨Y,j⟩:=j;cases j;cases r;cases U;cases Y;obtain⟨Op,Nm,l,_⟩:=f.list E;obtain⟨Nk,Nn,p2,_⟩:=f.list J;obtain⟨Nl,Np,m,_⟩:=f.list L;refine Z3.Eo l.isList p2.isList m.isList λh' hz w x h1 h2 u hsz C=>BQ hz ?_;have n:Inv X WP ZB H1 {d with heap:=h'}:=f.kept (t':=d.toks) C;refine⟨d.heap.objs.size+5,[d.heap.objs.size+5,d.heap.objs.size+3,d.heap.objs.size+4,d.heap.objs.size,d.heap.objs.size+1,d.heap.objs.size+2],_,_,H1,O,n,LL (D6 l.lt p2.lt m.lt),⟨hz,w,⟨_,_,_,x⟩,h1,h2,u⟩,λc A=>?_,q⟩;have o:c=d.heap.objs.size+5\/c=d.heap.objs.size+3\/c=d.heap.objs.size+4\/c=d.heap.objs.size\/c=d.heap.objs.size+1\/c=d.heap.objs.size+2:=by simpa using A
have k:d.heap.objs.size<=c:=by
 rcases o with z|z|z|z|z|z<;>rw[z]<;>first|exact t1 _|exact Nat.le_add_right _ _
exact f.km k (f.ag.fresh k))
theorem ED {X:Cx}{WP:List (B×Obj)}{ZB:St}{H:Hp}{s:Rs}{a:B}{UF:List (List wS×XV)}{A:cs}{E:Wp->Rs->Prop}{Q:Wp->Rs->Prop}(W1:Inv X WP ZB H s) (e:H a=some (.dT UF)) (h:∀s',Inv X WP ZB (T0 H a (.dT [])) s'->Q .none s'):
  wpAny (Do X.prog X.w) A (call (.builtin "dict.clear") [.ref a]) Q E s:=by(
obtain⟨z,hd,xs,n,f⟩:=yc W1.ag e;have g:=f.typeIs (s:=s);obtain⟨o,es,ep,c,m,b,k,p,hn⟩:=id f;have j:es.size<=Is:=by
 have i:es.toList.length=xs.length:=by rw[k,FS]
 rw[qV]at i;have:=Paired.length n;omega
refine iG nc g MH ?_ (ME _);unfold hE.«dict.clear»;refine IR ?_;unfold MU;refine IR (BD g ?_);show wpAny _ _ (pure a) _ _ s;refine t3 ?_;refine IR (qe c b ?_);refine IR ?_;unfold bearsInstanceDictMark;refine IR (B9 c (t3 ?_));refine IR (wpAny_updateDictKeys (hz:=j) c b ?_);have l:bq X.prog X.w (T0 H a (.dT [])) (s.heap.update a (Dd λ_=> #[])) a (.dT []):=
 ⟨g1 _,hd,[],.nil,_,_,ep+1,jR _ c (C' (wM b _)),m.mapDictKeys _,wM b _,O,p8⟩
have d:Inv X WP ZB (T0 H a (.dT [])) {s with heap:=s.heap.update a (Dd λ_=> #[])}:=oa (t':=s.toks) W1 (by rw[e];exact True.intro) (qW ..) ⟨_,jR _ c (C' (wM b _))⟩ l;split
·exact IR (iJ (t3 ⟨.none,O,h _ d⟩))
·exact IR (t3 (t3 ⟨.none,O,h _ d⟩)))
def JY:XV->List XV->Hp->VK->Prop:=λx xs H Q=>∃a UF,x=.ref a/\xs=[]/\H a=some (.dT UF)/\Q .ak (T0 H a (.dT []))
theorem oI {X:Cx}:q7 X "dict.clear" JY:=by
 intro WP s ZB H x xs v us Q W1 c d h;obtain⟨a,UF,rfl,rfl,e,q⟩:=h;cases c;cases d;exact ED W1 e λs' b=>⟨.ak,_,b,O,q⟩
open PySem.W in
theorem zL {R:WRecords}{cl:Str->Option B}{h:wn}:∀ {vs:List Wp}{ns:List Int},cn vs ns->ReadsAllW R cl h vs (ns.map WData.int) []
 |_,_,.nil=>.nil
 |_,_,.cons n t r=>.cons (as:=[]) (bs:=[]) (.int n t) (zL r)
theorem F9:∀ {vs:List Wp}{ns:List Int},wP (ns.map XV.int) vs->cn vs ns:=λ{vs ns} r=>intsAre_of r
theorem Lc {P:pu}{w:rs}{K:xz}{mg y:Str->Option Wp}{k:Nat}{fa a:B}{fd:sc}{x:Str}{sp:Sp}{c:Rs}{vs:List Wp}{ns out:List Int}
  (A:K.In c.heap) (T:c.heap.Ns cI mg) (f:c.heap.Ns vG y) (Nu:∀x:Str,x≠ "__name__"->y x=k4 x) (Nw:c.heap.NoLimit) (hg:c.gens= #[])
  (i:c.heap.get? a=some {cls:=.type "list",data:=.seq vs.toArray}) (hi:cn vs ns) (Q:ns.length<=Is) (hr:bF k k9)
  (F:∀base:wn,K.In base->base.Ns cI mg->Db P w K mg base AC k fa fd [x] sp) (Nv:∀(s:Rs) (u:Wp),mW s fd ⟨[u],[]⟩ [(x,u)])
  (hsp:∀H:Hp,q9 H->TW K H a (ns.map XV.int)->sp [.ref a] H (λv V=>∃l,v=.ref l/\V l=some (.lst (out.map XV.int))) E0):
  codeAny (Do P w) k9 (.call (.ref fa) ⟨[.ref a],[]⟩) (λr s'=>(∃l Op n,r=.ok (.ret (.ref l))/\s'.heap.get? l=some {cls:=.type "list",data:=.seq (vw Op) n}/\cn Op out)/\OldK c.heap s'.heap/\s'.os=c.os/\iS s'.gens) c:=by(
have Y:=AO hi;have jn:=hi.length;have D:∀H:Hp,q9 H->TW K H a (ns.map XV.int)->aQ P w H c.heap->(∀b,H b≠none->b=a)->(H a≠none->K.lookup a=none)->
  codeAny (Do P w) k9 (.call (.ref fa) ⟨[.ref a],[]⟩) (λr s'=>(∃l Op n,r=.ok (.ret (.ref l))/\s'.heap.get? l=some {cls:=.type "list",data:=.seq (vw Op) n}/\cn Op out)/\OldK c.heap s'.heap/\s'.os=c.os/\iS s'.gens) c:=by
 intro H N Nr ag J Np;have C:∀ {b:B}{o:Obj},c.heap.get? b=some o->H b=none->(fU c.heap H).get? b=some o:=λe n=>FX e n;have Ny:∀ {b:B}{o:Obj}{es:Array eC}{ep:Nat},c.heap.get? b=some o->o.data=.dict es ep->H b=none:=λ{b o es ep} e d=>by
  cases q:H b with
  |none=>rfl
  |some u=>
   have p:b=a:=J b (by rw[q];simp);subst p;rw[i]at e;cases e;have d':Data.seq vs.toArray _=Data.dict es ep:=d;cases d'
 have j:∀ {b:B}{m:Str->Option Wp},c.heap.Ns b m->(fU c.heap H).Ns b m:=λ{b m} ⟨o,es,ep,e,d,r⟩=>⟨o,es,ep,C e (Ny e d),d,r⟩;have L:K.In (fU c.heap H):=λb o e=>C (A b o e) (by
  cases q:H b with
  |none=>rfl
  |some u=>
   have p:b=a:=J b (by rw[q];simp);subst p;rw[Np (by rw[q];simp)]at e;cases e)
 have Nq:Mod K mg (fU c.heap H):=⟨L,j T,⟨y,j f,Nu⟩,let ⟨Nx,h1,h2⟩:=Nw;⟨Nx,j h1,h2⟩⟩;have Nj:i2 P w K mg (fU c.heap H) k9 [] c H:=⟨O,Nq,λb o e=>HY e,jU (FY _ _),trivial,λb f=>absurd (show b∈([]:List B) from f) (by simp),ag,.of_eq hg⟩;refine qm ((F _ L (j T)).run k9 [] c H ⟨[.ref a],[]⟩ [.ref a] [.ref a] _ _ hr Nj (Nv c (.ref a)) (.cons rfl .nil) (hsp H N Nr)) λr s' h=>?_;cases r with
 |error e=>exact d3 h
 |ok fl=>
  cases fl with
  |next=>exact d3 h
  |brk=>exact d3 h
  |cont=>exact d3 h
  |ret u=>
   obtain⟨v,V,os,bare,un,U,Nz,l,Nm,Nl⟩:=h;subst Nm;cases Nz;obtain⟨_,Op,n,NA,Nn⟩:=(show bq P w V s'.heap l (.lst (out.map XV.int)) from U l _ Nl);refine⟨⟨l,Op,n,O,Nn,F9 NA⟩,OldK.of_keep λb o e=>?_,os,bare⟩;cases q:H b with
   |none=>exact un.keep b o e q (by intro z;exact absurd (show b∈([]:List B) from z) (by simp)) (by simp)
   |some u=>
    rcases N b with z|⟨ob,xs,z⟩
    ·rw[q]at z;cases z
    ·have NC:=un.fT b ob _ z;obtain⟨E,_⟩:=ag b _ z;obtain⟨Nk,_⟩:=U b _ NC;rw[e]at E;cases E;exact Nk
cases t:K.lookup a with
|some o=>
 have e:=A a o t;rw[i]at e;cases e;refine D (λ_=>none) (λ_=>.inl rfl) (.inr ⟨_,vs.toArray,_,t,O,O,O,by rw[aP,jn];exact Q,by simpa using Y⟩) (λb u z=>by have g:(none:Option HO)=some u:=z;cases g) (λb z=>absurd rfl z) λz=>absurd rfl z
|none=>
 refine D (λb=>if b=a then some (.av {cls:=.type "list",data:=.seq vs.toArray} (.lst (ns.map XV.int)))else none) (λb=>?_) (.inl (.inr ⟨{cls:=.type "list",data:=.seq vs.toArray},No rfl⟩)) (λb u z=>?_) (λb z=>?_) λ_=>t
 ·by_cases f:b=a
  ·exact .inr ⟨_,_,No f⟩
  ·exact .inl (Ps f)
 ·by_cases f:b=a
  ·have g:=(No f).symm.trans z;cases g;subst f;exact⟨i,by rw[FS];exact Q,vs,_,Y,i⟩
  ·have g:=(Ps f).symm.trans z;cases g
 ·by_cases f:b=a
  ·exact f
  ·exact absurd (Ps f) z)
section
open PySem.W
theorem F_ {P:vX}{h:wn}:∀(ns:List Int) (vs:List Wp),v' P h vs (ns.map WData.int)->cn vs ns:=w8.F8
theorem L0 {prog:pu}{name:Str}{lo hi y t:Nat}{c e z A:Int}{bS:List Int->Bool}{f:List Int->List Int}{k:Nat}{q:pu}{NA:List Str}{C:(Str->Option Wp)->wn->Prop}{m:rs->wn->Prop}{d:DefRec}{K:vX->xz}{sp:xz->Sp}{x:Str}
  (said:(OpenSpec.mk prog name [.list lo hi (.int c e)] (.list y t (.int z A)) bS f).wellSaid=true) (Nr:hi<=Is) (hdf:d.params.defaults=[]) (hr:bF k k9)
  (Nk:∀(w:rs) (h:wn),m w h->(K w.params).In h)
  (F:∀(w:rs) (mg:Str->Option Wp) (fa:B) (h:wn),(K w.params).In h->h.Ns cI mg->mg d.name=some (.ref fa)->
   ∃fd:sc,(∀(s:Rs) (u:Wp),mW s fd ⟨[u],[]⟩ [(x,u)])/\∀base:wn,(K w.params).In base->base.Ns cI mg->Db prog w (K w.params) mg base AC k fa fd [x] (sp (K w.params)))
  (hsp:∀(K:xz) (H:Hp) (a:B) (ns:List Int),ns.length<=hi->(∀n,n∈ns->c<=n/\n<=e)->bS ns=true->q9 H->TW K H a (ns.map XV.int)->sp K [.ref a] H (λv V=>∃l,v=.ref l/\V l=some (.lst ((f ns).map XV.int))) E0):
  WalkOS q NA C m (OpenSpec.mk prog name [.list lo hi (.int c e)] (.list y t (.int z A)) bS f) d [] (λf vs=>PySem.call f vs):=by(
intro w NS NC mg NQ G Y fa o NR NH NI E kV NN hd NK p Nq hg args ND as Nv NL NO Nx NM;obtain rfl:E=.none:=Dflts.none p hdf;obtain rfl:kV=.none:=Dflts.noKw p;obtain⟨D,hw,Nm,rfl⟩:=(OpenSpec.pre_iff said args).mp Nv;obtain⟨ns,u⟩:=D;have i:ns.length<=hi/\∀n,n∈ns->c<=n/\n<=e:=by
 have h1:(Codec.inList lo hi (Codec.inInt c e) ns&&true)=true:=hw;simp only[Codec.inList,Codec.inLen,Codec.inNat,Codec.inInt,wt,ga,f4,gS]at h1;exact⟨h1.1.2,h1.2⟩
have Ny:v' w.params NC.heap ND [WData.list (ns.map WData.int)]:=Nx;cases Ny with
|cons NF NG=>
 cases NG;cases NF with
 |list Nu Nl=>
  have j:=Nk w _ Y;obtain⟨fd,Nn,Q⟩:=F w mg fa _ j G.T.g Nq;have Np:=F_ ns _ Nl;refine enter_call (qm (Lc (out:=f ns) j G.T.g G.T.b G.T.builtins G.T.nolimit hg Nu Np (dg i.1 Nr) hr Q Nn λH U Nj=>hsp (K w.params) H _ ns i.1 i.2 Nm U Nj) λr s' Nw=>?_);obtain⟨⟨l,Op,n,rfl,J,Nz⟩,h2,L,N⟩:=Nw;refine⟨.inl ⟨.ref l,.list ((f ns).map WData.int),[l],O,λ_=>rfl,.list (as:=[]) J rfl rfl (by simpa using zL Nz),?_,λh=>absurd h b2⟩,h2,L,N⟩;exact osPost ((OpenSpec.post_iff said hw _ []).mpr rfl))
end
theorem TW.keep {K:xz}{H V:Hp}{a:B}{xs:List XV}(h:TW K H a xs) (k:∀o,H a=some o->V a=some o):TW K V a xs:=by(
rcases h with(h|⟨o,h⟩)|h
·exact .inl (.inl (k _ h))
·exact .inl (.inr ⟨o,k _ h⟩)
·exact .inr h)
theorem TW.same {K:xz}{H V:Hp}{a:B}{xs:List XV}(h:TW K H a xs) (k:Tl H V):TW K V a xs:=h.keep λo e=>k a o e
theorem Tl.rfl' (H:Hp):Tl H H:=λ_ _ e=>e
theorem Tl.tr {H V a:Hp}(h:Tl H V) (h':Tl V a):Tl H a:=λb o e=>h' b o (h b o e)
theorem Tl.new {H:Hp}{p:B}{o:HO}(h:H p=none):Tl H (T0 H p o):=λb u e=>by
 rw[Uf (v0 e h)];exact e
def Ev (l:List B) (H V:Hp):Prop:=∀b o,H b=some o->b∉l->V b=some o
theorem Ev.rfl' (l:List B) (H:Hp):Ev l H H:=λ_ _ e _=>e
theorem Ev.tr {l m:List B}{H V a:Hp}(h:Ev l H V) (h':Ev m V a) (hm:∀b,b∈m->b∈l\/H b=none):Ev l H a:=λb o e c=>h' b o (h b o e c) λq=>by
 rcases hm b q with z|z
 ·exact c z
 ·rw[z]at e;cases e
theorem Ev.put {l:List B}{H V:Hp}{a:B}{o:HO}(h:Ev l H V) (d:a∈l):Ev l H (T0 V a o):=λb u e c=>by
 have ne:b≠a:=λq=>c (by rw[q];exact d);rw[Uf ne];exact h b u e c
theorem Ev.new {l:List B}{H V:Hp}{a:B}{o:HO}(h:Ev l H V) (c:V a=none):Ev l H (T0 V a o):=λb u e d=>by
 have:=h b u e d;rw[Uf (v0 this c)];exact this
theorem Tl.but {H V:Hp}(h:Tl H V) (l:List B):Ev l H V:=λb o e _=>h b o e
def hide (l:List B) (H:Hp):Hp:=λb=>if b∈l then none else H b
theorem wv {l:List B}{H:Hp}{b:B}{o:HO}:hide l H b=some o↔b∉l/\H b=some o:=by(
unfold hide;by_cases h:b∈l
·rw[No h];exact⟨λq=>(by cases q),λq=>absurd h q.1⟩
·rw[Ps h];exact⟨λq=>⟨h,q⟩,λq=>q.2⟩)
theorem bW (l:List B) (H:Hp):Tl (hide l H) H:=λb o e=>(wv.mp e).2
theorem Ev.hide {l:List B}{H V:Hp}(h:Ev l H V):Tl (hide l H) (hide l V):=λb o e=>by
 obtain⟨h1,h2⟩:=wv.mp e;exact wv.mpr ⟨h1,h b o h2 h1⟩
theorem fe {l:List B}{H:Hp}{a:B}{o:HO}(h:a∈l):hide l (T0 H a o)=hide l H:=by(
funext b;unfold L2.hide;split
·rfl
·rename_i q;have ne:b≠a:=λe=>q (by rw[e];exact h);rw[Uf ne])
theorem nl {N P:List Str}{d:b7}(a:d.kind=.function) (b:d.isCoroutine=false) (c:d.isGenerator=false) (h:N.Nodup/\N.take P.length=P/\(∀x∈P,d.names.lookup x=some .local\/d.names.lookup x=some .cell)/\∀y∈d.names,y.2≠.free):pc N P d:=⟨a,b,c,h.1,h.2.1,h.2.2.1,h.2.2.2⟩
end L2
namespace Sx
open PySem PyProof.Rows
theorem Kc {TD:eE}{wf:Ctx}{base:List mY}(hf:wf.Fits base) {p:Pos}{s c d:Rs}{a b:mX}(h1:Returns TD wf p s a c) (h2:Returns TD wf p s b d):a=b/\c=d:=by
 obtain⟨e,f⟩:=Reach.det (qq h1 base hf) (qq h2 base hf);cases f;exact⟨O,e⟩
theorem z3 {TD:eE}{wf:Ctx}{base:List mY}(hf:wf.Fits base) {p:Pos}{t:Sem Fin}{fs:List mY}{s c d:Rs}{a b:End}(h1:Runs TD wf p t fs s a c) (h2:Runs TD wf p t fs s b d):a=b/\c=d:=by
 obtain⟨e,f⟩:=Reach.det (qq h1 base hf) (qq h2 base hf);exact⟨f,e⟩
theorem LW {TD:eE}{wf:Ctx}{base:List mY}(hf:wf.Fits base) {p:Pos}{g:Nat}{r:Resume}{s i e:Rs}{h d:GenResult}(h1:Wakes TD wf p g r s h i) (h2:Wakes TD wf p g r s d e):h=d/\i=e:=by(
unfold Wakes at h1 h2;split at h1
·exact h1.elim
·rename_i c a;simp only[a]at h2;split at h1
 ·obtain⟨l,o,a1,a2,rfl,rfl⟩:=h1;obtain⟨m,q,b,j,rfl,rfl⟩:=h2;obtain⟨rfl,rfl⟩:=z3 (hf.wake c g (λ_=>.unsupported "") [] p) a1 b;exact⟨O,O⟩
 ·rename_i v n;have f:d=.justStarted/\e=s:=by
   cases v<;>first|exact absurd rfl n|exact h2
  exact⟨h1.1.trans f.1.symm,h1.2.trans f.2.symm⟩
 ·exact⟨h1.1.trans h2.1.symm,h1.2.trans h2.2.symm⟩
·rename_i w x k y t u a;simp only[a]at h2;obtain⟨l,o,a1,a2,rfl,rfl⟩:=h1;obtain⟨m,q,b,j,rfl,rfl⟩:=h2;obtain⟨rfl,rfl⟩:=z3 (hf.wake k g (λ_=>.unsupported "") [] p) a1 b;exact⟨O,O⟩
all_goals
 rename_i a;simp only[a]at h2;exact⟨h1.1.trans h2.1.symm,h1.2.trans h2.2.symm⟩)
theorem L5 {D:Type}{TD:eE}{wf:Ctx}{base:List mY}(hf:wf.Fits base) {A C:D->Pos->Rs->Prop}{y z:Wp->Pos->Rs->Prop}(t:Sem D):∀ {p:Pos}{s:Rs},gT TD wf t A y p s->gT TD wf t C z p s->gT TD wf t (λa p s=>A a p s/\C a p s) (λe p s=>y e p s/\z e p s) p s:=by(
induction t with
|pure a=>intro p s h1 h2;exact⟨h1,h2⟩
|raise e=>intro p s h1 h2;exact⟨h1,h2⟩
|unsupported w=>intro p s h1 h2;exact h1.elim
|finish e=>intro p s h1 h2;exact h1.elim
|rule tag k b=>intro p s h1 h2;exact b () h1 h2
| «at» pos k b=>intro p s h1 h2;exact b () h1 h2
|load a part k b=>
 intro p s h1 h2;obtain⟨o,i,h1⟩:=h1;obtain⟨o',j,h2⟩:=h2;rw[i]at j;cases j;exact⟨o,i,b o h1 h2⟩
|update a part f k b=>intro p s h1 h2;exact⟨h1.1,b () h1.2 h2.2⟩
|alloc o k b=>intro p s h1 h2;exact b _ h1 h2
|loadIfAlive a k b=>intro p s h1 h2;exact b _ h1 h2
|point l k b=>intro p s h1 h2;exact b () h1 h2
|register a k b=>intro p s h1 h2;exact h1.elim
|fresh k b=>intro p s h1 h2;exact b _ h1 h2
|ask k b=>intro p s h1 h2;exact b _ h1 h2
|choose L n k b=>intro p s h1 h2;exact⟨h1.1,b _ h1.2 h2.2⟩
|os J l k b=>intro p s h1 h2;exact b _ h1 h2
|call c h g l k b=>
 intro p s h1 h2;obtain⟨u,x,a1,m⟩:=h1;obtain⟨E,H,a2,q⟩:=h2;obtain⟨rfl,rfl⟩:=Kc (hf.enter c (λ_=>.unsupported "") h g l p (kp:=default)) a1 a2;exact⟨u,x,a1,b _ m q⟩
|handled own k b=>intro p s h1 h2;exact b _ h1 h2
|newGen c k b=>intro p s h1 h2;exact b _ h1 h2
|genState g k b=>
 intro p s h1 h2;obtain⟨o,i,h1⟩:=h1;obtain⟨o',j,h2⟩:=h2;rw[i]at j;cases j;exact⟨o,i,b _ h1 h2⟩
|resume g r l k b=>
 intro p s h1 h2;obtain⟨u,x,a1,m⟩:=h1;obtain⟨E,H,a2,q⟩:=h2;obtain⟨rfl,rfl⟩:=LW hf a1 a2;exact⟨u,x,a1,b _ m q⟩
|yield v g l k b=>intro p s h1 h2;exact h1.elim
|stack k b=>intro p s h1 h2;exact b _ h1 h2
|fork c k b=>intro p s h1 h2;exact h1.elim
|thread k b=>intro p s h1 h2;exact b _ h1 h2
|await a f d l k b=>intro p s h1 h2;exact h1.elim)
theorem L6 {m:Type}{TD:eE}{wf:Ctx}{Q:m->Pos->Rs->Prop}{E:Wp->Pos->Rs->Prop}(t:Sem m):∀ {p:Pos}{s:Rs},gT TD wf t Q E p s->(∃a j s',Q a j s')\/∃e j s',E e j s':=by(
induction t with
|pure a=>intro p s h;exact .inl ⟨a,p,s,h⟩
|raise e=>intro p s h;exact .inr ⟨e,p,s,h⟩
|unsupported w=>intro p s h;exact h.elim
|finish e=>intro p s h;exact h.elim
|rule tag k b=>intro p s h;exact b () h
| «at» pos k b=>intro p s h;exact b () h
|load a part k b=>intro p s h;obtain⟨o,q,h⟩:=h;exact b o h
|update a part f k b=>intro p s h;exact b () h.2
|alloc o k b=>intro p s h;exact b _ h
|loadIfAlive a k b=>intro p s h;exact b _ h
|point l k b=>intro p s h;exact b () h
|register a k b=>intro p s h;exact h.elim
|fresh k b=>intro p s h;exact b _ h
|ask k b=>intro p s h;exact b _ h
|choose z n k b=>intro p s h;exact b _ h.2
|os y l k b=>intro p s h;exact b _ h
|call c h g l k b=>intro p s h;obtain⟨u,x,a1,i⟩:=h;exact b _ i
|handled own k b=>intro p s h;exact b _ h
|newGen c k b=>intro p s h;exact b _ h
|genState g k b=>intro p s h;obtain⟨o,q,h⟩:=h;exact b _ h
|resume g r l k b=>intro p s h;obtain⟨u,x,a1,i⟩:=h;exact b _ i
|yield v g l k b=>intro p s h;exact h.elim
|stack k b=>intro p s h;exact b _ h
|fork c k b=>intro p s h;exact h.elim
|thread k b=>intro p s h;exact b _ h
|await a f d l k b=>intro p s h;exact h.elim)
end Sx
namespace Sx
open PySem PyProof.Rows
class Vd (a:Type) where
 vd:qR->(aE->Prop)->a->Prop
instance:Vd Nat:=⟨λ_ _ _=>True⟩
instance:Vd Bool:=⟨λ_ _ _=>True⟩
instance:Vd PUnit:=⟨λ_ _ _=>True⟩
instance:Vd (Wp×Wp):=⟨λ_ ok x=>ok x⟩
instance {b:Type} [Vd b]:Vd (Array b):=⟨λkd ok a=>∀x,x∈a->Vd.vd kd ok x⟩
instance {b:Type} [Vd b]:Vd (Option b):=⟨λkd ok a=>∀x,a=some x->Vd.vd kd ok x⟩
instance {a b:Type} [Vd a] [Vd b]:Vd (a×b):=⟨λkd ok x=>Vd.vd kd ok x.1/\Vd.vd kd ok x.2⟩
instance:Vd aL:=⟨λkd ok st=>kindOf st=kd/\∀x,x∈arrOf st->ok x⟩
instance {b:Type} [Vd b]:Vd (ForInStep b):=⟨λkd ok x=>match x with|.done a=>Vd.vd kd ok a|.yield a=>Vd.vd kd ok a⟩
section
variable (TD:eE) (wf s4:Ctx) (s s':Rs) (kd:qR) (ok:aE->Prop)
def T {c:Type} [Vd c] (m:StateT aL Sem c):Prop:=∀(st:aL) (p:Pos) (Q:c->aL->Pos->Rs->Prop),Vd.vd kd ok st->gT TD s4 (m.run st) (λr a b=>Q r.1 r.2 a b) (λ_ _ _=>False) p s'->
 ∀p2,gT TD wf (m.run st) (λr _ b=>b=s/\(∃a,Q r.1 r.2 a s')/\Vd.vd kd ok r.2/\Vd.vd kd ok r.1) (λ_ _ _=>False) p2 s
variable {TD wf s4 s s' kd ok}
local macro_rules| `(tactic| trivial)=> `(tactic| assumption)
theorem T.pure {c:Type} [Vd c] {a:c}(h:Vd.vd kd ok a):T TD wf s4 s s' kd ok (nr a:StateT aL Sem c):=by
 intro st p Q d b p2;rw[Dn]at b⊢;rw[nq]at b⊢;exact⟨O,⟨p,b⟩,d,h⟩
theorem T.bind {e g:Type} [Vd e] [Vd g] {m:StateT aL Sem e}{f:e->StateT aL Sem g}(hm:T TD wf s4 s s' kd ok m) (hf:∀a,Vd.vd kd ok a->T TD wf s4 s s' kd ok (f a)):T TD wf s4 s s' kd ok (m >>= f):=by
 intro st p Q j d p2;rw[Dp]at d⊢;rw[wX]at d⊢;refine wY TD wf _ (λr b c h=>?_) (λ_ _ _ h=>h) p2 s (hm st p (λa l b c=>gT TD s4 ((f a).run l) (λr b c=>Q r.1 r.2 b c) (λ_ _ _=>False) b c) j d p2);obtain⟨rfl,⟨k,h1⟩,h2,i⟩:=h;exact hf r.1 i r.2 k Q h2 h1 b
theorem T.get:T TD wf s4 s s' kd ok (MonadState.get:StateT aL Sem aL):=by
 intro st p Q b a p2;have e:(MonadState.get:StateT aL Sem aL).run st=nr (st,st):=Ds ..;rw[e]at a⊢;rw[nq]at a⊢;exact⟨O,⟨p,a⟩,b,b⟩
theorem T.modify {f:aL->aL}(h:∀st,Vd.vd kd ok st->Vd.vd kd ok (f st)):T TD wf s4 s s' kd ok (modify f:StateT aL Sem PUnit):=by
 intro st p Q b a p2;rw[StateT.run_modify]at a⊢;rw[nq]at a⊢;exact⟨O,⟨p,a⟩,h st b,True.intro⟩
theorem T.set {a:aL}(h:Vd.vd kd ok a):T TD wf s4 s s' kd ok (MonadStateOf.set a:StateT aL Sem PUnit):=by
 intro st p Q c b p2;have e:(MonadStateOf.set a:StateT aL Sem PUnit).run st=nr (PUnit.unit,a):=StateT.run_set ..;rw[e]at b⊢;rw[nq]at b⊢;exact⟨O,⟨p,b⟩,h,True.intro⟩
theorem T.rule {tag:String}:T TD wf s4 s s' kd ok (liftM (vJ tag):StateT aL Sem Unit):=by
 intro st p Q c b p2;have e:(liftM (vJ tag):StateT aL Sem Unit).run st=(do let a <-vJ tag;nr (a,st)):=Dq ..;rw[e]at b⊢;rw[wX]at b⊢;exact⟨O,⟨p,b⟩,c,True.intro⟩
theorem T.none {a:Type} [Vd a] {m:StateT aL Sem a}(h:∀st Q E p s0,¬gT TD s4 (m.run st) Q E p s0):T TD wf s4 s s' kd ok m:=λst p Q _ b _=>absurd b (h _ _ _ _ _)
theorem T.ite {d:Type} [Vd d] {c:Prop} [Decidable c] {a b:StateT aL Sem d}(h1:c->T TD wf s4 s s' kd ok a) (h2:¬c->T TD wf s4 s s' kd ok b):T TD wf s4 s s' kd ok (if c then a else b):=by(
by_cases h:c
·rw[No h];exact h1 h
·rw[Ps h];exact h2 h)
theorem T.yp {a:Type} [Vd a] {f:Nat->a->StateT aL Sem (ForInStep a)}(h:∀x b,Vd.vd kd ok b->T TD wf s4 s s' kd ok (f x b)):∀(l:List Nat) (b:a),Vd.vd kd ok b->T TD wf s4 s s' kd ok (forIn l b f)
 |[],b,c=>by rw[mL];exact T.pure c
 |x::l,b,c=>by
  rw[p7];refine T.bind (h x b c) λr hr=>?_;cases r with
  |done d=>exact T.pure hr
  |yield d=>exact T.yp h l d hr
theorem T.gu {a:Type} [Vd a] {r:Std.Legacy.Range}{f:Nat->a->StateT aL Sem (ForInStep a)}{b:a}(c:Vd.vd kd ok b) (h:∀x b,Vd.vd kd ok b->T TD wf s4 s s' kd ok (f x b)):T TD wf s4 s s' kd ok (forIn r b f):=by
 rw[Std.Legacy.Range.forIn_eq_forIn_range'];exact T.yp h _ b c
theorem T.elem {arr:Array aE}{i:Nat}(h:Vd.vd kd ok arr):T TD wf s4 s s' kd ok (elem' arr i):=by(
rw[elem'_eq];cases e:arr[i]? with
|none=>exact T.none λst Q E p s0 z=>z.elim
|some x=>exact T.pure (h x (Array.mem_of_getElem? e)))
structure fK (TD:eE) (wf s4:Ctx) (s s':Rs) (kd:qR) (ok:aE->Prop):Prop where
 fits:∃base,s4.Fits base
 D3:∀x y,ok x->ok y->∃c,(∀p,gT TD s4 (wI kd x.1 y.1) (λb _ a=>a=s'/\b=c) (λ_ _ _=>False) p s')/\∀p,gT TD wf (wI kd x.1 y.1) (λb _ a=>a=s/\b=c) (λ_ _ _=>False) p s
theorem T.lt (C:fK TD wf s4 s s' kd ok) {x y:aE}(o:Vd.vd kd ok x) (q:Vd.vd kd ok y):T TD wf s4 s s' kd ok (lt' x y):=by(
obtain⟨base,hf⟩:=C.fits;obtain⟨c,h1,h2⟩:=C.D3 x y o q;intro st p Q g d p2;have l:kindOf st=kd:=g.1;rw[lt'_eq]at d⊢;simp only[Dp,Ds,pure_bind]at d⊢;rw[l]at d⊢;have e:∀(m:Sem (Except Wp Bool)),(liftM m:StateT aL Sem (Except Wp Bool)).run st=(do let a <-m;nr (a,st)):=λm=>Dq ..;rw[e]at d⊢;simp only[wX,Sem.wp_attempt,nq]at d⊢;have k:=L5 hf _ (h1 p) d;have j:∃f,Q (some c) st f s':=by
 rcases L6 _ k with⟨b,f,i,⟨rfl,rfl⟩,n⟩|⟨e,f,i,h,_⟩
 ·exact⟨f,n⟩
 ·exact h.elim
refine wY TD wf _ (λb f i h=>?_) (λ_ _ _ h=>h.elim) p2 s (h2 p2);obtain⟨rfl,rfl⟩:=h;exact⟨O,j,g,λz e=>True.intro⟩)
theorem T.ltAt (C:fK TD wf s4 s s' kd ok) {i j:Nat}:T TD wf s4 s s' kd ok (ltAt' i j):=by
 rw[ltAt'_eq];exact T.bind T.get λst a=>T.bind (T.elem a.2) λx b=>T.bind (T.elem a.2) λy c=>T.lt C b c
theorem zf {st:aL}{xs:Array aE}(h:Vd.vd kd ok st) (a:∀x,x∈xs->ok x):Vd.vd kd ok (setArr st xs):=⟨h.1,a⟩
theorem ze {xs ys:Array aE}(h:∀x,x∈xs->ok x) (a:ys.Perm xs):∀x,x∈ys->ok x:=λx b=>h x (by
 have:=wK.mp a;exact(lr).mp (this.mem_iff.mp (lr.mpr b)))
theorem T.rev {i j:Nat}:T TD wf s4 s s' kd ok (reverseSlice' i j):=by
 rw[reverseSlice'_eq];exact T.modify λst h=>zf h (ze h.2 (mirror_perm ..))
theorem T.down {i j:Nat}:T TD wf s4 s s' kd ok (moveDown' i j):=by
 rw[moveDown'_eq];exact T.modify λst h=>zf h (ze h.2 (bubble_perm ..))
theorem T.pv {g:Nat}:T TD wf s4 s s' kd ok (setMinGallop' g):=by
 rw[setMinGallop'_eq];exact T.modify λst h=>⟨h.1,h.2⟩
theorem NE {n:Nat}:Vd.vd kd ok n:=True.intro
theorem gG {n:Bool}:Vd.vd kd ok n:=True.intro
theorem pY {n:Unit}:Vd.vd kd ok n:=True.intro
theorem aC {b:Type} [Vd b] {a:b}(h:Vd.vd kd ok a):Vd.vd kd ok (ForInStep.done a):=h
theorem fy {b:Type} [Vd b] {a:b}(h:Vd.vd kd ok a):Vd.vd kd ok (nj a):=h
theorem bZ {a:Type} [Vd a]:Vd.vd kd ok (none:Option a):=λ_ h=>by cases h
theorem bg {b:Type} [Vd b] {a:b}(h:Vd.vd kd ok a):Vd.vd kd ok (some a):=λ_ e=>by cases e;exact h
theorem Tk {c d:Type} [Vd c] [Vd d] {a:c}{b:d}(h:Vd.vd kd ok a) (h':Vd.vd kd ok b):Vd.vd kd ok (a,b):=⟨h,h'⟩
theorem u_ {o:Option Nat}:Vd.vd kd ok o:=λ_ _=>True.intro
theorem LV {o:Option Bool}:Vd.vd kd ok o:=λ_ _=>True.intro
theorem jK {a b:Type} [Vd a] [Vd b] {x:a×b}(h:Vd.vd kd ok x):Vd.vd kd ok x.1:=h.1
theorem pX {a b:Type} [Vd a] [Vd b] {x:a×b}(h:Vd.vd kd ok x):Vd.vd kd ok x.2:=h.2
theorem u9 {b:Type} [Vd b] {o:Option b}{a:b}(h:Vd.vd kd ok o) (e:o=some a):Vd.vd kd ok a:=h a e
theorem o0 {a b:Array aE}(h:Vd.vd kd ok a) (h':Vd.vd kd ok b):Vd.vd kd ok (a++b):=λx c=>(Array.mem_append.mp c).elim (h x) (h' x)
theorem db {a:Array aE}{x:aE}(h:Vd.vd kd ok a) (h':Vd.vd kd ok x):Vd.vd kd ok (a.push x):=λy b=>by
 rcases Array.mem_push.mp b with q|rfl
 ·exact h y q
 ·exact h'
theorem hB {x:aE}(h':Vd.vd kd ok x):Vd.vd kd ok #[x]:=λy a=>by
 simp only[List.mem_toArray,ss,Array.mem_singleton]at a;rw[a];exact h'
theorem py {a:Array aE}{i j:Nat}(h:Vd.vd kd ok a):Vd.vd kd ok (a.extract i j):=λy b=>by
 obtain⟨k,c,e⟩:=Array.mem_iff_getElem.mp b;rw[Array.getElem_extract]at e;rw[<- e];exact h _ (Array.getElem_mem _)
theorem dC {a:Array aE}(h:Vd.vd kd ok a):Vd.vd kd ok a.reverse:=λy b=>h y (by simpa using b)
theorem T.countRun (C:fK TD wf s4 s s' kd ok) {lo a:Nat}:T TD wf s4 s s' kd ok (countRun' lo a):=by(
rw[countRun'_eq];dsimp only
repeat' (first
 |exact NE|exact gG|exact pY|exact u_|exact bZ|assumption|refine bg ?_|refine aC ?_|refine fy ?_|refine Tk ?_ ?_|refine o0 ?_ ?_|refine db ?_ ?_|refine hB ?_|refine py ?_|refine dC ?_|refine jK ?_|refine pX ?_|exact u9 (jK (by assumption)) (by assumption)
 |exact T.ltAt C|exact T.rev|exact T.rule|exact T.get
 |refine T.bind ?_ (λ_ _=>?_)
 |refine T.gu ?_ (λ_ _ _=>?_)
 |refine T.ite (λ_=>?_) (λ_=>?_)
 |refine T.pure ?_
 |split))
theorem T.binarySort (C:fK TD wf s4 s s' kd ok) {lo n k:Nat}:T TD wf s4 s s' kd ok (binarySort' lo n k):=by(
rw[binarySort'_eq];dsimp only
repeat' (first
 |exact NE|exact gG|exact pY|exact u_|exact bZ|assumption|refine bg ?_|refine aC ?_|refine fy ?_|refine Tk ?_ ?_|refine o0 ?_ ?_|refine db ?_ ?_|refine hB ?_|refine py ?_|refine dC ?_|refine jK ?_|refine pX ?_|exact u9 (jK (by assumption)) (by assumption)
 |exact T.ltAt C|exact T.down|exact T.rule|exact T.get
 |refine T.bind ?_ (λ_ _=>?_)
 |refine T.gu ?_ (λ_ _ _=>?_)
 |refine T.ite (λ_=>?_) (λ_=>?_)
 |refine T.pure ?_
 |split))
theorem T.beyond (C:fK TD wf s4 s s' kd ok) {left:Bool}{key:aE}{arr:Array aE}{base i:Nat}(a:Vd.vd kd ok key) (c:Vd.vd kd ok arr):T TD wf s4 s s' kd ok (beyond' left key arr base i):=by
 unfold beyond';exact T.bind (T.elem c) λx b=>T.ite (λ_=>T.lt C b a) λ_=>T.bind (T.lt C a b) λ_ _=>T.pure LV
theorem T.gallop (C:fK TD wf s4 s s' kd ok) {left:Bool}{key:aE}{arr:Array aE}{base n b:Nat}(c:Vd.vd kd ok key) (a:Vd.vd kd ok arr):T TD wf s4 s s' kd ok (gallop' left key arr base n b):=by(
rw[gallop'_eq];dsimp only
repeat' (first
 |exact NE|exact gG|exact pY|exact u_|exact bZ|assumption|refine bg ?_|refine aC ?_|refine fy ?_|refine Tk ?_ ?_|refine o0 ?_ ?_|refine db ?_ ?_|refine hB ?_|refine py ?_|refine dC ?_|refine jK ?_|refine pX ?_|exact u9 (jK (by assumption)) (by assumption)
 |exact T.beyond C c a|exact T.rule|exact T.get
 |refine T.bind ?_ (λ_ _=>?_)
 |refine T.gu ?_ (λ_ _ _=>?_)
 |refine T.ite (λ_=>?_) (λ_=>?_)
 |refine T.pure ?_
 |split))
end
end Sx
namespace Sx
open PySem PyProof.Rows
section
variable {TD:eE}{wf s4:Ctx}{s s':Rs}{kd:qR}{ok:aE->Prop}
theorem T.g7 {b c:Type} [Vd b] [Vd c] {m:StateT aL Sem (Option b)}{f:Option b->StateT aL Sem c}(hm:T TD wf s4 s s' kd ok m) (hf:∀a,Vd.vd kd ok a->T TD wf s4 s s' kd ok (f (some a))) (hn:T TD wf s4 s s' kd ok (f Option.none)):T TD wf s4 s s' kd ok (m >>= f):=
 T.bind hm λo d=>match o,d with
  |some a,h=>hf a (h a rfl)
  |Option.none,_=>hn
theorem T.jc {b e d:Type} [Vd b] [Vd e] [Vd d] {m:StateT aL Sem (Option b×d)}{f:Option b×d->StateT aL Sem e}(hm:T TD wf s4 s s' kd ok m) (hf:∀a c,Vd.vd kd ok a->Vd.vd kd ok c->T TD wf s4 s s' kd ok (f (some a,c))) (hn:∀c,Vd.vd kd ok c->T TD wf s4 s s' kd ok (f (Option.none,c))):T TD wf s4 s s' kd ok (m >>= f):=
 T.bind hm λo g=>match o,g with
  |(some a,c),h=>hf a c (h.1 a rfl) h.2
  |(Option.none,c),h=>hn c h.2
theorem T.mergeLo (C:fK TD wf s4 s s' kd ok) {a b:Array aE}(e:Vd.vd kd ok a) (d:Vd.vd kd ok b):T TD wf s4 s s' kd ok (mergeLo' a b):=by(
rw[mergeLo'_eq];refine T.bind T.rule λ_ _=>?_;refine T.bind (T.elem d) λx0 x=>?_;refine T.ite (λ_=>T.pure (o0 (o0 (hB x) (py e)) (py d))) λ_=>T.ite (λ_=>T.pure (o0 (o0 (hB x) (py d)) (py e))) λ_=>?_;refine T.bind T.get λst _=>?_;refine T.jc (T.gu (Tk bZ (Tk (hB x) (Tk NE (Tk NE NE)))) λ_ S m=>?_) (λr c hr j=>T.pure hr) (λc j=>T.none λst Q E p s0 z=>z.elim);obtain⟨_,out,A,D,mg⟩:=S;have f:Vd.vd kd ok out:=m.2.1;clear m;refine T.jc (T.gu (Tk bZ (Tk f (Tk NE (Tk NE (Tk NE NE))))) λ_ S m=>?_) (λr c hr j=>T.pure (Tk (bg hr) (Tk j.1 (Tk NE (Tk NE NE))))) (λc j=>?_)
·obtain⟨_,out,A,D,ac,H⟩:=S;have f:Vd.vd kd ok out:=m.2.1;clear m;refine T.bind (T.elem d) λNn y=>T.bind (T.elem e) λNp l=>T.g7 (T.lt C y l) (λw _=>?_) (T.pure (aC (Tk (bg (o0 (o0 f (py e)) (py d))) (Tk f (Tk NE (Tk NE (Tk NE NE)))))));refine T.ite (λ_=>T.bind (T.elem d) λNm h=>?_) (λ_=>T.bind (T.elem e) λNm h=>?_)
 ·exact T.ite (λ_=>T.pure (aC (Tk (bg (o0 (o0 (db f h) (py e)) (py d))) (Tk (db f h) (Tk NE (Tk NE (Tk NE NE))))))) λ_=>
   T.ite (λ_=>T.pure (aC (Tk bZ (Tk (db f h) (Tk NE (Tk NE (Tk NE NE))))))) λ_=>T.pure (fy (Tk bZ (Tk (db f h) (Tk NE (Tk NE (Tk NE NE))))))
 ·exact T.ite (λ_=>T.pure (aC (Tk (bg (o0 (o0 (db f h) (py d)) (py e))) (Tk (db f h) (Tk NE (Tk NE (Tk NE NE))))))) λ_=>
   T.ite (λ_=>T.pure (aC (Tk bZ (Tk (db f h) (Tk NE (Tk NE (Tk NE NE))))))) λ_=>T.pure (fy (Tk bZ (Tk (db f h) (Tk NE (Tk NE (Tk NE NE))))))
·obtain⟨out,A,D,ac,H⟩:=c;have f:Vd.vd kd ok out:=j.1;clear j;refine T.bind T.rule λ_ _=>?_;refine T.jc (T.gu (Tk bZ (Tk f (Tk NE (Tk NE (Tk NE (Tk NE NE)))))) λ_ S m=>?_) (λr c hr j=>?_) (λc j=>?_)
 ·obtain⟨_,out,A,D,mg,ac,H⟩:=S;have f:Vd.vd kd ok out:=m.2.1;clear m;dsimp -zeta only
  extract_lets NC Nl ND U NF Nx NG NA NH Nq Nu Ny Y
  have t:Vd.vd kd ok Nl:=f;have J:∀r n,T TD wf s4 s s' kd ok (Y r n):=by
   intro r n;refine T.bind T.pv λ_ _=>T.bind (T.elem d) λNn y=>T.g7 (T.gallop C y e) (λk _=>?_) ?_
   ·dsimp -zeta only
    extract_lets Nr Nj
    have L:∀r o i,Vd.vd kd ok o->T TD wf s4 s s' kd ok (Nj r o i):=by
     intro r o i g;refine T.bind (T.elem d) λNp l=>T.ite (λ_=>T.pure (aC (Tk (bg (o0 (o0 (db g l) (py e)) (py d))) (Tk (db g l) (Tk NE (Tk NE (Tk NE (Tk NE NE)))))))) λ_=>?_;refine T.bind (T.elem e) λNm h=>T.g7 (T.gallop C h d) (λNz _=>?_) (T.pure (aC (Tk (bg (o0 (o0 (db g l) (py e)) (py d))) (Tk (db g l) (Tk NE (Tk NE (Tk NE (Tk NE NE))))))));dsimp -zeta only
     extract_lets Nv Nw Nk
     have N:∀r o i,Vd.vd kd ok o->T TD wf s4 s s' kd ok (Nk r o i):=by
      intro r o i g;refine T.bind (T.elem e) λNI u=>T.ite (λ_=>T.pure (aC (Tk (bg (o0 (o0 (db g u) (py d)) (py e))) (Tk (db g u) (Tk NE (Tk NE (Tk NE (Tk NE NE)))))))) λ_=>?_;exact T.ite (λ_=>T.pure (aC (Tk bZ (Tk (db g u) (Tk NE (Tk NE (Tk NE (Tk NE NE)))))))) λ_=>T.pure (fy (Tk bZ (Tk (db g u) (Tk NE (Tk NE (Tk NE (Tk NE NE)))))))
     clear_value Nk
     refine T.ite (λ_=>T.ite (λ_=>?_) λ_=>N _ _ _ (o0 (db g l) (py d))) λ_=>N _ _ _ (db g l);exact T.pure (aC (Tk (bg (o0 (o0 (o0 (db g l) (py d)) (py e)) (py d))) (Tk (o0 (db g l) (py d)) (Tk NE (Tk NE (Tk NE (Tk NE NE)))))))
    clear_value Nj
    have q:Vd.vd kd ok (Nl++a.extract U (U+k)):=o0 t (py e);refine T.ite (λ_=>T.ite (λ_=>?_) λ_=>T.ite (λ_=>?_) λ_=>L _ _ _ q) λ_=>L _ _ _ t
    ·exact T.pure (aC (Tk (bg (o0 (o0 q (py d)) (py e))) (Tk q (Tk NE (Tk NE (Tk NE (Tk NE NE)))))))
    ·exact T.pure (aC (Tk (bg (o0 (o0 q (py e)) (py d))) (Tk q (Tk NE (Tk NE (Tk NE (Tk NE NE)))))))
   ·exact T.pure (aC (Tk (bg (o0 (o0 t (py e)) (py d))) (Tk t (Tk NE (Tk NE (Tk NE (Tk NE NE)))))))
  clear_value Y
  exact T.ite (λ_=>J _ _) λ_=>J _ _
 ·exact T.pure (aC (Tk (bg hr) (Tk j.1 (Tk NE (Tk NE NE)))))
 ·exact T.bind T.pv λ_ _=>T.pure (fy (Tk bZ (Tk j.1 (Tk NE (Tk NE NE))))))
theorem T.mergeHi (C:fK TD wf s4 s s' kd ok) {a b:Array aE}(d:Vd.vd kd ok a) (e:Vd.vd kd ok b):T TD wf s4 s s' kd ok (mergeHi' a b):=by(
rw[mergeHi'_eq];refine T.bind T.rule λ_ _=>?_;refine T.bind (T.elem d) λx0 y=>?_;refine T.ite (λ_=>T.pure (o0 (o0 (py d) (py e)) (dC (hB y)))) λ_=>T.ite (λ_=>T.pure (o0 (o0 (py e) (py d)) (dC (hB y)))) λ_=>?_;refine T.bind T.get λst _=>?_;refine T.jc (T.gu (Tk bZ (Tk NE (Tk NE (Tk (hB y) NE)))) λ_ S l=>?_) (λr c hr j=>T.pure hr) (λc j=>T.none λst Q E p s0 z=>z.elim);obtain⟨_,D,H,out,mg⟩:=S;have f:Vd.vd kd ok out:=l.2.2.2.1;clear l;refine T.jc (T.gu (Tk bZ (Tk NE (Tk NE (Tk f (Tk NE NE))))) λ_ S l=>?_) (λr c hr j=>T.pure (aC (Tk (bg hr) (Tk NE (Tk NE (Tk j.2.2.1 NE)))))) (λc j=>?_)
·obtain⟨_,D,H,out,ac,J⟩:=S;have f:Vd.vd kd ok out:=l.2.2.2.1;clear l;refine T.bind (T.elem e) λNu A=>T.bind (T.elem d) λNm m=>T.g7 (T.lt C A m) (λw _=>?_) (T.pure (aC (Tk (bg (o0 (o0 (py d) (py e)) (dC f))) (Tk NE (Tk NE (Tk f (Tk NE NE)))))));refine T.ite (λ_=>T.bind (T.elem d) λNn h=>?_) (λ_=>T.bind (T.elem e) λNn h=>?_)
 ·exact T.ite (λ_=>T.pure (aC (Tk (bg (o0 (o0 (py d) (py e)) (dC (db f h)))) (Tk NE (Tk NE (Tk (db f h) (Tk NE NE))))))) λ_=>T.ite (λ_=>T.pure (aC (Tk bZ (Tk NE (Tk NE (Tk (db f h) (Tk NE NE))))))) λ_=>T.pure (fy (Tk bZ (Tk NE (Tk NE (Tk (db f h) (Tk NE NE))))))
 ·exact T.ite (λ_=>T.pure (aC (Tk (bg (o0 (o0 (py e) (py d)) (dC (db f h)))) (Tk NE (Tk NE (Tk (db f h) (Tk NE NE))))))) λ_=>T.ite (λ_=>T.pure (aC (Tk bZ (Tk NE (Tk NE (Tk (db f h) (Tk NE NE))))))) λ_=>T.pure (fy (Tk bZ (Tk NE (Tk NE (Tk (db f h) (Tk NE NE))))))
·obtain⟨D,H,out,ac,J⟩:=c;have f:Vd.vd kd ok out:=j.2.2.1;clear j;refine T.bind T.rule λ_ _=>?_;refine T.jc (T.gu (Tk bZ (Tk NE (Tk NE (Tk f (Tk NE (Tk NE NE)))))) λ_ S l=>?_) (λr c hr j=>?_) (λc j=>?_)
 ·obtain⟨_,D,H,out,mg,ac,J⟩:=S;have f:Vd.vd kd ok out:=l.2.2.2.1;clear l;dsimp -zeta only
  extract_lets NG Nq NH NF NI Nl NK NC NL Nv Nx Nr Y
  have t:Vd.vd kd ok Nl:=f;have L:∀r n,T TD wf s4 s s' kd ok (Y r n):=by
   intro r n;refine T.bind T.pv λ_ _=>T.bind (T.elem e) λNu A=>T.g7 (T.gallop C A d) (λk _=>?_) (T.pure (aC (Tk (bg (o0 (o0 (py d) (py e)) (dC t))) (Tk NE (Tk NE (Tk t (Tk NE (Tk NE NE))))))));dsimp -zeta only
   extract_lets Nz Nw Nj
   have N:∀r i o,Vd.vd kd ok o->T TD wf s4 s s' kd ok (Nj r i o):=by
    intro r i o g;refine T.bind (T.elem e) λNm m=>T.ite (λ_=>T.pure (aC (Tk (bg (o0 (o0 (py e) (py d)) (dC (db g m)))) (Tk NE (Tk NE (Tk (db g m) (Tk NE (Tk NE NE)))))))) λ_=>?_;refine T.bind (T.elem d) λNn h=>T.g7 (T.gallop C h e) (λNp _=>?_) (T.pure (aC (Tk (bg (o0 (o0 (py d) (py e)) (dC (db g m)))) (Tk NE (Tk NE (Tk (db g m) (Tk NE (Tk NE NE))))))));dsimp -zeta only
    extract_lets NA Ny ND Nk
    have U:∀r i o,Vd.vd kd ok o->T TD wf s4 s s' kd ok (Nk r i o):=by
     intro r i o g;refine T.bind (T.elem d) λNM u=>T.ite (λ_=>T.pure (aC (Tk (bg (o0 (o0 (py d) (py e)) (dC (db g u)))) (Tk NE (Tk NE (Tk (db g u) (Tk NE (Tk NE NE)))))))) λ_=>?_;exact T.ite (λ_=>T.pure (aC (Tk bZ (Tk NE (Tk NE (Tk (db g u) (Tk NE (Tk NE NE)))))))) λ_=>T.pure (fy (Tk bZ (Tk NE (Tk NE (Tk (db g u) (Tk NE (Tk NE NE)))))))
    clear_value Nk
    have q:Vd.vd kd ok (o.push Nm++(b.extract Np Nr).reverse):=o0 (db g m) (dC (py e));exact T.ite (λ_=>T.ite (λ_=>T.pure (aC (Tk (bg (o0 (o0 (py e) (py d)) (dC q))) (Tk NE (Tk NE (Tk q (Tk NE (Tk NE NE)))))))) λ_=>T.ite (λ_=>T.pure (aC (Tk (bg (o0 (o0 (py d) (py e)) (dC q))) (Tk NE (Tk NE (Tk q (Tk NE (Tk NE NE)))))))) λ_=>U _ _ _ q) λ_=>U _ _ _ (db g m)
   clear_value Nj
   have x:Vd.vd kd ok (Nl++(a.extract k Nq).reverse):=o0 t (dC (py d));exact T.ite (λ_=>T.ite (λ_=>T.pure (aC (Tk (bg (o0 (o0 (py d) (py e)) (dC x))) (Tk NE (Tk NE (Tk x (Tk NE (Tk NE NE)))))))) λ_=>N _ _ _ x) λ_=>N _ _ _ t
  clear_value Y
  exact T.ite (λ_=>L _ _) λ_=>L _ _
 ·exact T.pure (aC (Tk (bg hr) (Tk NE (Tk NE (Tk j.2.2.1 NE)))))
 ·exact T.bind T.pv λ_ _=>T.pure (fy (Tk bZ (Tk NE (Tk NE (Tk j.2.2.1 NE))))))
theorem rO {n:Nat}:∀(l:List (aE×Nat)) (arr:Array aE),(∀p,p∈l->ok p.1)->(∀x,x∈arr->ok x)->∀x,x∈l.foldl (λa x=>match x with|(p,j)=>a.setIfInBounds (n+j) p) arr->ok x
 |[],arr,_,h,x,b=>h x b
 |(p,j)::l,arr,c,h,x,b=>by
  rw[dF]at b;refine rO l _ (λq d=>c q (on _ d)) (λy e=>?_) x b;rcases Array.mem_or_eq_of_mem_setIfInBounds e with z|z
  ·exact h y z
  ·rw[z];exact c (p,j) (lc ..)
theorem T.mergeAt (C:fK TD wf s4 s s' kd ok) {i:Nat}:T TD wf s4 s s' kd ok (mergeAt' i):=by(
rw[mergeAt'_eq];refine T.bind T.get λst a=>?_;split
·rename_i sa g pw j h _ _;refine T.bind (T.set ⟨a.1,a.2⟩) λ_ _=>T.bind (T.elem a.2) λl c=>T.g7 (T.gallop C c a.2) (λk _=>?_) (T.pure gG);refine T.ite (λ_=>T.pure gG) λ_=>T.bind (T.elem a.2) λn d=>T.g7 (T.gallop C d a.2) (λf _=>T.ite (λ_=>T.pure gG) λ_=>?_) (T.pure gG);have hz:∀m:Array aE,Vd.vd kd ok m->∀p,p∈m.toList.zipIdx->ok p.1:=λm hm p b=>hm _ (by
  have:=hK.mp b;exact lr.mp (pi this))
 refine T.ite (λ_=>T.bind (T.mergeLo C (py a.2) (py a.2)) λm hm=>?_) (λ_=>T.bind (T.mergeHi C (py a.2) (py a.2)) λm hm=>?_)
 ·exact T.bind (T.modify λe h'=>⟨h'.1,rO _ _ (hz m hm) h'.2⟩) λ_ _=>T.bind T.get λ_ _=>T.pure gG
 ·exact T.bind (T.modify λe h'=>⟨h'.1,rO _ _ (hz m hm) h'.2⟩) λ_ _=>T.bind T.get λ_ _=>T.pure gG
·exact T.none λst Q E p s0 z=>z.elim)
theorem T.pend {f:aL->Array (Nat×Nat×Nat)}:T TD wf s4 s s' kd ok (_root_.modify λst=>setPending st (f st):StateT aL Sem PUnit):=T.modify λst h=>⟨h.1,h.2⟩
theorem T.sortRuns (C:fK TD wf s4 s s' kd ok):T TD wf s4 s s' kd ok sortRuns':=by(
rw[sortRuns'_eq]
repeat' (first
 |exact NE|exact gG|exact pY|exact bZ|assumption|refine bg ?_|refine aC ?_|refine fy ?_|refine Tk ?_ ?_|refine jK ?_|refine pX ?_
 |exact T.countRun C|exact T.binarySort C|exact T.mergeAt C|exact T.pend|exact T.rule|exact T.get
 |refine T.gu ?_ (λ_ _ _=>?_)
 |refine T.jc ?_ (λ_ _ _ _=>?_) (λ_ _=>?_)
 |refine T.g7 ?_ (λ_ _=>?_) ?_
 |refine T.bind ?_ (λ_ _=>?_)
 |refine T.ite (λ_=>?_) (λ_=>?_)
 |refine T.pure ?_
 |dsimp -zeta only
 |dsimp only
 |split))
end
end Sx
namespace Sx
open PySem PySem.W PyProof.Rows L2
def NT (h:wn) (a:B) (k:Int) (d:List Int):Prop:=∃t b Op,iU h a #[.int k t,.ref b]/\iU h b (vw Op)/\cn Op d
theorem r6 {P:pu}{w:rs}:∀ {vs:List Wp}{ns:List Int},cn vs ns->ItemsAre (B3 P w) ns vs
 |_,_,.nil=>.nil
 |_,_,.cons n t h=>.cons (by show qJ n (.int n t)=true;simp[qJ]) (r6 h)
section
variable {prog:pu}{w:rs}{A:cs}{s:Rs}
theorem yX:∀a b:List Int,HT.lexLt a b=fr a b
 |[],[]=>rfl
 |[],_::_=>rfl
 |_::_,[]=>rfl
 |x::a,y::b=>by
  rw[HT.kx,yX a b];show _=(decide (x<y)||(decide (x=y)&&fr a b));by_cases e:x=y
  ·subst e;simp
  ·simp[e]
theorem HB (hu:A.units<cJ) {x y:B}{a g:Int}{c d:List Int}(h1:NT s.heap x a c) (h2:NT s.heap y g d):
  wpAny (Do prog w) A (wI (jV true) (.ref x) (.ref y)) (λb C=>C=s/\b=fr (a::c) (g::d)) (λ_ _=>False) s:=by(
obtain⟨U,D,L,⟨Q,u,H,n1,r⟩,k,m⟩:=h1;obtain⟨Y,E,N,⟨T,z,J,n2,t⟩,l,p⟩:=h2;refine kat_lt u r z t (kat_cons (BL ?_));by_cases e:a=g
·subst e;have q:(a==a)=true:=by simp
 rw[q];refine kat_yes (kat_cons (wpAny_eqBool_tuple (knd:=B3 prog w) (x:=c) (y:=d) hu ?_ ?_ ?_))
 ·obtain⟨o,j,h,n,i⟩:=k;exact⟨o,_,n,j,h,i,r6 m⟩
 ·obtain⟨o,j,h,n,i⟩:=l;exact⟨o,_,n,j,h,i,r6 p⟩
 by_cases f:c=d
 ·subst f;rw[s2 rfl];exact kat_yes (kat_nil ⟨O,by rw[Tw.nX];rfl⟩)
 ·rw[sw f];refine kat_no (kat_one _ _ (HT.y1 k l m p hu ⟨O,?_⟩));rw[yX c d];simp[fr]
·have q:(a==g)=false:=by simpa using e
 rw[q];refine kat_no (oneLt_int ⟨O,?_⟩);simp[fr,e])
def rN (ns:List Int):Obj:=iT "tuple" (ns.map λn=>hN n 0).toArray 0
def dn (f:B->List Int) (n:Nat):wn:= {objs:=((s5 n).map λi=>rN (f i)).toArray}
theorem Fw {f:B->List Int}{n a:Nat}(h:a<n):(dn f n).get? a=some (rN (f a)):=by(
have e:(dn f n).objs[a]?=some (rN (f a)):=by
 unfold dn;simp[f' h]
unfold Heap.get?;rw[e];rfl)
theorem ym:∀ns:List Int,cn (ns.map λn=>hN n 0) ns
 |[]=>.nil
 |n::ns=>.cons n 0 (ym ns)
theorem om {f:B->List Int}{n a:Nat}(h:a<n):gQ (dn f n) bc (.ref a)=some ((f a).map it):=
 AJ (Op:=(f a).map λn=>hN n 0) ⟨_,Fw h,O,0,O⟩ (ym _)
theorem HC (hu:A.units<cJ) {arr:Array aE}{f:B->List Int}{n:Nat}(h2:2<=arr.size) (ag:∀x,x∈arr->∃a k d,x.1=.ref a/\a<n/\NT s.heap a k d/\f a=k::d) {E:Wp->Rs->Prop}{Q:Unit->aL->Prop}
  (h:∀e,(arrOf e).Perm arr->nh e=none->lp (gc (dn f n) bc) (arrOf e) arr.size->Q () e):
  wpS (Do prog w) A E s sortRuns' Q (SortSt.mk' (jV true) arr #[] 7 none):=by(
let s':Rs:= {s with heap:=dn f n}
let ok:aE->Prop:=λx=>∃a k d,x.1=.ref a/\a<n/\NT s.heap a k d/\f a=k::d
let s4:Ctx:=Ctx.of (.call .none ⟨[],[]⟩) []
let m:cs:= {handled:=s4.handled,depth:=frameCount s4.below+s4.code.weight,units:=s4.units}
have H:s4.In m:=⟨O,t1 _,(λl U=>nomatch (show(none:Option (List Env))=some l from U)),(λg hg=>nomatch (show(none:Option (List Code))=some g from hg)),t1 _⟩;have lt':G.LtAt prog w s' (gc (dn f n) bc) (jV true):=G.tupC_ltAt (s:=s') true (G.KeepsTups.refl _);have keys:KeysOf (gc (dn f n) bc) arr:=by
 intro p Y;obtain⟨a,k,d,i,o,q,u⟩:=ag p (lr.mp Y);rw[i];exact⟨_,om o⟩
have run:=G.wpS_sortRunsSt (prog:=prog) (w:=w) (s:=s') (A:=m) (E:=λ_ _=>False) (κ:=gc (dn f n) bc) (kd:=jV true) (a₀:=arr) (st:=SortSt.mk' (jV true) arr #[] 7 none)
 (Q:=λ_ e=>(arrOf e).Perm arr/\nh e=none/\lp (gc (dn f n) bc) (arrOf e) arr.size) lt' keys ⟨w1 _,O,O⟩ rfl (Stable.refl _) h2 λe a1 a2 a3 _=>⟨a1,a2,a3⟩
intro wf p Nm;have C:fK (Do prog w) wf s4 s s' (jV true) ok:=by
 refine⟨⟨[],Ctx.fits_of _ _⟩,λx y Nk Nl=>?_⟩;obtain⟨a,k,d,i,o,q,u⟩:=Nk;obtain⟨b,l,g,D,J,L,N⟩:=Nl;refine⟨fr (k::d) (l::g),λp=>?_,λp=>?_⟩
 ·have:=lt' m (λ_ _=>False) x.1 y.1 ((f a).map it) ((f b).map it) (Q:=λc j=>j=s'/\c=fr (k::d) (l::g)) (by rw[i];exact om o) (by rw[D];exact om J) ⟨O,by
   rw[<- u,<-N,<-oB]⟩
  exact this s4 p H
 ·rw[i,D];exact HB hu q L wf p Nm
have t:=T.sortRuns C (SortSt.mk' (jV true) arr #[] 7 none) p (λa e _ j=>j=s'/\(arrOf e).Perm arr/\nh e=none/\lp (gc (dn f n) bc) (arrOf e) arr.size) ⟨O,ag⟩ (run s4 p H) p;refine wY (Do prog w) wf _ (λr Nu j Nj=>?_) (λ_ _ _ z=>z.elim) p s t;obtain⟨Nn,⟨_,_,Np,Nq,Nr⟩,_⟩:=Nj;exact⟨Nn,h r.2 Np Nq Nr⟩)
open G in
theorem HD (hu:A.units<cJ) {E:Wp->Rs->Prop}{a:B}{vs fs:List Wp}{n:Nat}{P:PySem.Fin->Rs->Prop}{f:B->List Int}(l:s.heap.get? a=some (iT "list" vs.toArray n)) (C:qS s.heap bc vs fs)
  (Nl:∀v,v∈vs->∃b k d,v=.ref b/\b<s.heap.objs.size/\NT s.heap b k d/\f b=k::d) (u:vs.length<=Is)
  (h:∀arr:Array aE,arr.Perm (gb vs)->lp (gc (dn f s.heap.objs.size) bc) arr (gb vs).size->P (.done (.ret .none)) {s with heap:=sortedHeap s.heap a vs (arr.map (·.2))}):
  wpAny (Do prog w) A (hE.«list.sort» ⟨[.ref a],[]⟩) P E s:=by
 have hz:vs.length<=16777216:=by rw[hD]at u;exact u
 have r:a<s.heap.objs.size:=f0 l;obtain⟨ep,p⟩:∃ep,(s.heap.update a (gR λ_=> #[])).get? a=some (iT "list" #[] ep):=⟨_,get?_update_seq l λ_=> #[]⟩;rw[list_sort_plain];refine IR (listItems_at l rfl (IR (wC l rfl (IR (wD p rfl (IR (BY (IR (B4 (iH ?_))))))))));have q:=keeps_sort6 (vs:=vs) l;have m:(lu s.heap a vs).get? a=some (iT "list" #[] ep):=by
  unfold lu;rw[Cd _ _ _ (by rw[wG,vY];exact b1 (lh r)),Cd _ _ _ (by rw[vY];exact b1 r)];exact p
 show wpAny (Do prog w) A _ P E {s with heap:=lu s.heap a vs};have Ny:vs.toArray.size=vs.length:=by simp
 have H:∀arr:Array aE,arr.Perm (gb vs)->(arr.map (·.2)).size<=Is+1:=λarr p=>by
  rw[Array.size_map,p.size_eq,qP];omega
 dsimp only;by_cases c:vs.toArray.size<2
 ·rw[No c,No c];refine IR (t3 ?_);rw[Dn];refine IR (t3 ?_);dsimp only;refine IR (wD m rfl (IR (wC m rfl ?_ (hsz2:=H _ (w1 _)))));simp only[Bv,fF,aF];refine t3 (h (gb vs) (w1 _) λi j Nw Nk=>?_);have:i=j:=by rw[qP]at Nk;omega
  subst this;exact KeyOrd.kle_refl _
 ·rw[Ps c,Ps c];have h2:2<=vs.length:=by omega
  refine IR (tup_kind (s:= {s with heap:=lu s.heap a vs}) (by rw[TupsOf.length C];omega) (TupsOf.keep q C) ?_);have kept:∀b k d,NT s.heap b k d->NT (lu s.heap a vs) b k d:=by
   rintro b k d ⟨t,c,Op,⟨o,Nm,y,Y⟩,⟨Nq,Nn,z,Nj⟩,hi⟩;exact⟨t,c,Op,⟨o,q _ _ Nm y,y,Y⟩,⟨Nq,q _ _ Nn z,z,Nj⟩,hi⟩
  refine IR (eB (HC (s:= {s with heap:=lu s.heap a vs}) (E:=E) hu (arr:=gb vs) (f:=f) (n:=s.heap.objs.size) (by rw[qP];exact h2) (λx Np=>?_) (Q:=λ_ g=>(arrOf g).Perm (gb vs)/\nh g=none/\lp (gc (dn f s.heap.objs.size) bc) (arrOf g) (gb vs).size) λg a1 a2 a3=>⟨a1,a2,a3⟩) ?_ λ_ _ e=>e)
  ·have D:=lr.mpr Np;rw[wB]at D;obtain⟨e,hm⟩:=mem_zip_self D;obtain⟨b,k,d,L,N,T,U⟩:=Nl x.1 hm;exact⟨b,k,d,L,N,kept _ _ _ T,U⟩
  ·rintro⟨⟨⟩,g⟩ Nx ⟨rfl,J,Nr,Nv⟩;dsimp only;refine IR (wD m rfl (IR (wC m rfl ?_ (hsz2:=H _ J))));have Nu:nh g=Option.none:=Nr;rw[Nu];simp only[Bv,fF,aF];exact t3 (h _ J Nv)
open G in
theorem HE (hu:A.units+64<cJ) {E:Wp->Rs->Prop}{l:B}{vs fs:List Wp}{Q:Wp->Rs->Prop}{f:B->List Int}(z:s.heap.IsList l vs.toArray) (D:qS s.heap bc vs fs)
  (y:∀v,v∈vs->∃b k d,v=.ref b/\NT s.heap b k d/\f b=k::d) (r:vs.length<=Is)
  (h:∀(arr:Array aE) (n:Nat),s.heap.objs.size<=n->arr.Perm (gb vs)->lp (gc (dn f n) bc) arr (gb vs).size->Q (.ref (s.heap.objs.size+1)) {s with heap:=sortedAll s.heap vs (arr.map (·.2))}):
  wpAny (Do prog w) A (call (.builtin "sorted") [.ref l]) Q E s:=by
 refine Calls.call_function_entry kind_sorted plain_sorted entry_sorted (args_sorted1 _) ?_;unfold hE.«sorted»;refine IR (m:=checkCount "sorted" 1 1 _) (t3 (IR (collect_list z (IR (B4 ?_)))));have g:((s.heap.push (iT "list" #[] 0)).update s.heap.objs.size (gR (· ++vs.toArray))).objs.size=s.heap.objs.size+1:=by rw[vY,wG]
 generalize a:(((s.heap.push (iT "list" #[] 0)).update s.heap.objs.size (gR (· ++vs.toArray))).push (iT "list" vs.toArray 0))=h1;have j:h1.get? (s.heap.objs.size+1)=some (iT "list" vs.toArray 0):=by rw[<- a,<-g];exact a9 _ rfl
 have e:KeepsTups s.heap h1:=by
  rw[<- a];exact((KeepsTups.push _ _).trans (KeepsTups.update _ (a9 _ rfl) not_tuple_list)).trans (KeepsTups.push _ _)
 have sz:s.heap.objs.size<=h1.objs.size:=by rw[<- a,wG,g];omega
 dsimp only;rw[g];refine IR (iH (iG slot_list_sort ⟨_,j,O⟩ entry_list_sort (HD (s:= {s with heap:=h1}) (f:=f) ?_ j (TupsOf.keep e D) (λv hv=>?_) r λarr a1 a2=>⟨_,O,t3 ⟨_,O,?_⟩⟩) (args_list_sort _)))
 ·show A.units+1+1<cJ;omega
 ·obtain⟨b,k,d,J,⟨t,c,Op,⟨o,q,i,u⟩,⟨H,C,p,x⟩,hi⟩,L⟩:=y v hv;refine⟨b,k,d,J,f0 (e _ _ q i),⟨t,c,Op,⟨o,e _ _ q i,i,u⟩,⟨H,e _ _ C p,p,x⟩,hi⟩,L⟩
 ·have:=h arr h1.objs.size sz a1 a2;unfold sortedAll at this;rw[a]at this;exact this
end
end Sx
namespace L2
open PySem PySem.Spec PyProof.Rows
structure NP where
 a:B
 k:Int
 b:B
 d:List Int
def J6 (K:xz):List XV->Hp->VK->Prop:=λvs H Q=>∃(a:B) (ts:List NP),vs=[XV.ref a]/\TW K H a (ts.map λt=>XV.ref t.a)/\(∀t,t∈ts->pm K H t.a [.int t.k,.ref t.b]/\pm K H t.b (t.d.map XV.int))/\
 ∀(us:List NP) (p:B),us.Perm ts->us.Pairwise (λx y=>x.k<=y.k)->H p=none->Q (.ref p) (T0 H p (.lst (us.map λt=>XV.ref t.a)))
theorem zN:∀ {ts:List NP}{us:List Wp},wP (ts.map λt=>XV.ref t.a) us->us=ts.map λt=>f8 t.a
 |[],_,.nil=>rfl
 |t::ts,_,.cons r b=>by cases r;rw[na,zN b]
theorem AQ:∀(ts:List NP),wP (ts.map λt=>XV.ref t.a) (ts.map λt=>f8 t.a)
 |[]=>.nil
 |_::ts=>.cons rfl (AQ ts)
open Sx in
theorem Ez {X:Cx}(hu:X.A.units+64<cJ):gV X (.builtin "sorted") (J6 X.K):=by
 intro WP s ZB H vs us Q W1 r h;obtain⟨a,ts,rfl,NK,Y,q⟩:=h;obtain⟨Op,Nu,NH,hz⟩:=W1.list NK;rw[wP.sT r];have T:=zN Nu;have Nj:∀t,t∈ts->NT s.heap t.a t.k t.d/\∃u o n,s.heap.get? t.a=some o/\o.cls=.type "tuple" /\o.data=.seq #[.int t.k u,.ref t.b] n:=λt m=>by
  obtain⟨h1,h2⟩:=Y t m;obtain⟨NV,J,Nw,_⟩:=W1.tuple h1;obtain⟨ks,NR,tk,_⟩:=W1.tuple h2;cases J with
  |cons NO J=>
   cases J with
   |cons NQ J=>
    cases J;obtain⟨u,rfl⟩:=NO;cases NQ;obtain⟨o,D,U,n,hd⟩:=id Nw;exact⟨⟨u,t.b,ks,Nw,tk,NR.ints⟩,u,o,n,D,U,hd⟩
 have inj:∀(l m:List Int),l.map XV.int=m.map XV.int->l=m:=λl=>by
  induction l with
  |nil=>intro m e;cases m with
   |nil=>rfl
   |cons=>cases e
  |cons x l E=>intro m e;cases m with
   |nil=>cases e
   |cons y m=>
    rw[na,na]at e;injection e with N Ny;injection N with N;rw[N,E m Ny]
 have same:∀t t',t∈ts->t'∈ts->t.a=t'.a->t=t':=λt t' m g e=>by
  obtain⟨h1,h2⟩:=Y t m;obtain⟨Nz,NA⟩:=Y t' g;rw[e]at h1;have z:=W1.u4 h1 Nz;injection z with C w;injection w with w N0;injection C with C;injection w with w;rw[w]at h2;have Nx:=inj _ _ (W1.u4 h2 NA);obtain⟨ta,tk,tb,td⟩:=t;obtain⟨NW,NZ,NX,NY⟩:=t';simp only at e C w Nx;subst e C w Nx;rfl
 let f:B->List Int:=λb=>match ts.find? (λt=>decide (t.a=b))with
  |some t=>t.k::t.d
  |none=>[]
 have Nl:∀t,t∈ts->f t.a=t.k::t.d:=λt m=>by
  show(match ts.find? (λt'=>decide (t'.a=t.a))with|some t=>t.k::t.d|none=>[])=_;cases e:ts.find? (λt'=>decide (t'.a=t.a))with
  |none=>exact absurd (Bk.mp e t m) (by simp)
  |some t'=>
   have h1:=Bu e;have h2:=A7 e;have C:=same t' t h2 m (by simpa using h1);simp only;rw[C]
 have eX:∀l:List NP,(∀t,t∈l->t∈ts)->∃fs,qS s.heap bc (l.map λt=>f8 t.a) fs:=by
  intro l
  induction l with
  |nil=>intro _;exact⟨[],.nil⟩
  |cons t l E=>
   intro hm;obtain⟨fs,L⟩:=E λu hu=>hm u (on _ hu);obtain⟨_,u,o,n,D,U,hd⟩:=Nj t (hm t (lc ..));exact⟨_,.cons ⟨t.a,o,_,n,O,D,U,hd,O,λ_=>⟨_,_,O⟩,λe=>by cases e⟩ L⟩
 obtain⟨fs,L⟩:=eX ts λ_ m=>m;rw[<- T]at L;refine HE hu (f:=f) NH.isList L (λv hv=>?_) (by have:=Nu.length;omega) λarr n hn Nn NL=>?_
 ·rw[T]at hv;obtain⟨t,m,rfl⟩:=m0.mp hv;exact⟨t.a,t.k,t.d,O,(Nj t m).1,Nl t m⟩
 let c:aE->NP:=λp=>match p.2 with
  |.ref b=>(ts.find? (λt=>decide (t.a=b))).getD ⟨0,0,0,[]⟩
  |_=>⟨0,0,0,[]⟩
 have Nk:∀t,t∈ts->c (.ref t.a,.ref t.a)=t:=λt m=>by
  show(ts.find? (λt'=>decide (t'.a=t.a))).getD ⟨0,0,0,[]⟩=t;cases e:ts.find? (λt'=>decide (t'.a=t.a))with
  |none=>exact absurd (Bk.mp e t m) (by simp)
  |some t'=>exact same t' t (A7 e) m (by simpa using Bu e)
 have Np:arr.toList.Perm (ts.map λt=>((.ref t.a,.ref t.a):aE)):=by
  have e:=wK.mp Nn;rw[wB,T]at e;have z:∀l:List NP,(l.map λt=>f8 t.a).zip (l.map λt=>f8 t.a)=l.map λt=>((.ref t.a,.ref t.a):aE):=λl=>by
   induction l with
   |nil=>rfl
   |cons t l E=>simp only[na,nF,E]
  rw[z ts]at e;exact e
 have Nr:∀p,p∈arr.toList->∃t,t∈ts/\p=(.ref t.a,.ref t.a):=λp m=>by
  obtain⟨t,g,e⟩:=m0.mp (Np.mem_iff.mp m);exact⟨t,g,e.symm⟩
 have perm:(arr.toList.map c).Perm ts:=by
  refine(Np.map c).trans ?_;rw[be];refine w0 ?_
  conv=>rhs;rw[<- p_ ts]
  exact ei λt m=>Nk t m
 have NN:(arr.map (·.2)).toList=(arr.toList.map c).map λt=>f8 t.a:=by
  rw[C4,be];refine ei λp m=>?_;obtain⟨t,g,rfl⟩:=Nr p m;show f8 t.a=f8 (c (.ref t.a,.ref t.a)).a;rw[Nk t g]
 have NM:∀t,t∈ts->t.a<n:=λt m=>by
  obtain⟨_,u,o,_,D,_⟩:=Nj t m;exact cT (f0 D) hn
 have Nq:∀i (hi:i<arr.toList.length),KK (gc (dn f n) bc) arr i=(((c arr.toList[i]).k::(c arr.toList[i]).d)).map it:=λi hi=>by
  obtain⟨t,g,e⟩:=Nr _ (eH hi);unfold KK;have ND:i<arr.size:=by simpa using hi
  rw[wL ND,<-C3];show((gQ (dn f n) bc (arr.toList[i]).1).getD [])=_;rw[e,Nk t g];show(gQ (dn f n) bc (.ref t.a)).getD []=_;rw[om (NM t g),Nl t g];rfl
 have NS:(arr.toList.map c).Pairwise (λx y=>x.k<=y.k):=by
  rw[iX,jX];intro i j hi Nm NF;have NG:j<(gb Op).size:=by
   have e:=Nn.size_eq;have NU:j<arr.size:=by simpa using Nm
   omega
  have:=NL i j (d1 NF) NG;rw[Nq i hi,Nq j Nm]at this;have Nv:lexLt wH ((((c arr.toList[j]).k::(c arr.toList[j]).d)).map it) ((((c arr.toList[i]).k::(c arr.toList[i]).d)).map it)=false:=this;rw[oB]at Nv;simp only[fr,Bool.or_eq_false_iff,vn]at Nv;omega
 obtain⟨ep,NC⟩:=CW s.heap Op (arr.map (·.2));have NI:((arr.toList.map c).map λt=>XV.ref t.a).length<=Is:=by
  rw[FS,perm.length_eq];rw[FS]at hz;exact hz
 refine⟨.ref _,T0 H (s.heap.objs.size+1) (.lst ((arr.toList.map c).map λt=>XV.ref t.a)),W1.laid (t':=s.toks) (λ_ _=>CV) (hL _) ⟨NI,(arr.map (·.2)).toList,ep,?_,NC⟩,O,q _ _ perm NS (W1.ag.fresh (hL _))⟩;rw[NN];exact AQ _
end L2
namespace Dv
open PySem L2 Tw
variable {P:pu}{w:rs}{K:xz}{mg:Str->Option Wp}{base:wn}{CP CN CS CL CG:B}
def nb (i:Nat):v1:=PySem.Challenge.pw_timeways_s01_answers.main.body.getD i (.Pass ⟨0,0,0,0⟩)
abbrev t_:v1:=ba (nb 21) 0
abbrev tn:v1:=ba (nb 21) 1
abbrev tm:v1:=ba (nb 21) 2
abbrev kQ:v1:=ba (nb 21) 3
abbrev ug:v1:=ba (nb 21) 4
abbrev uc:v1:=ba (nb 21) 5
abbrev tO:v1:=ba (nb 21) 6
abbrev ue:v1:=ba (nb 21) 7
theorem cF {b a:Type}{R:b->a->Prop}:∀ {xs:List b}{ys:List a}{i:Nat}{y:a},Paired R xs ys->ys[i]?=some y->∃x,xs[i]?=some x/\R x y
 |_,_,_,_,.nil,e=>by simp at e
 |_,_,0,_,.cons r _,e=>by simp at e;subst e;exact⟨_,O,r⟩
 |_,_,i+1,_,.cons _ t,e=>by
  obtain⟨x,h1,h2⟩:=cF (i:=i) t (by simpa using e);exact⟨x,by simpa using h1,h2⟩
theorem dP {a b:Type}{R:a->b->Prop}:∀ {xs:List a}{ys:List b}{i:Nat}{x:a},Paired R xs ys->xs[i]?=some x->∃y,ys[i]?=some y/\R x y
 |_,_,_,_,.nil,e=>by simp at e
 |_,_,0,_,.cons r _,e=>by simp at e;subst e;exact⟨_,O,r⟩
 |_,_,i+1,_,.cons _ t,e=>by
  obtain⟨x,h1,h2⟩:=dP (i:=i) t (by simpa using e);exact⟨x,by simpa using h1,h2⟩
theorem aj {a b:Type}{R S:a->b->Prop}(h:∀x y,R x y->S x y):∀ {xs:List a}{ys:List b},Paired R xs ys->Paired S xs ys
 |_,_,.nil=>.nil
 |_,_,.cons r t=>.cons (h _ _ r) (aj h t)
def TupAt (H:Hp) (v:XV) (xs:List XV):Prop:=∃a,v=.ref a/\H a=some (.tup xs)
def LstAt (H:Hp) (v:XV) (xs:List XV):Prop:=∃a,v=.ref a/\H a=some (.lst xs)
theorem TupAt.same {H V:Hp}{v:XV}{xs:List XV}(s:Tl H V) (h:TupAt H v xs):TupAt V v xs:=let ⟨a,e,q⟩:=h;⟨a,e,s a _ q⟩
theorem LstAt.same {H V:Hp}{v:XV}{xs:List XV}(s:Tl H V) (h:LstAt H v xs):LstAt V v xs:=let ⟨a,e,q⟩:=h;⟨a,e,s a _ q⟩
def Sc (n:Nat):XV:=.int (n:Int)
def aS (e:s3):List XV:=[.int e.1,Sc e.2.1,Sc e.2.2]
def ji (w:Nat×Int×Nat):List XV:=[Sc w.1,.int w.2.1,Sc w.2.2]
def jw (x:Nat×Int):List XV:=[Sc x.1,.int x.2]
def nf (c r o d f:B):List (Str×XV):=[("changes",.ref c),("runs",.ref r),("origins",.ref o),("departures",.ref d),("footpaths",.ref f)]
structure gt (CN:B) (H:Hp) (n:B) (N:Nt):Prop where
 ex:∃g c r o d f b os ds fs,H n=some (.ins CN g (nf c r o d f))/\H c=some (.lst (N.chg.map XV.int))/\
  H r=some (.lst b)/\Paired (λv (x:List Nat×List Int)=>∃s a,TupAt H v [.ref s,.ref a]/\H s=some (.lst (x.1.map Sc))/\H a=some (.lst (x.2.map XV.int))) b N.runs/\
  H d=some (.lst ds)/\Paired (λv x=>∃es,LstAt H v es/\Paired (λv e=>TupAt H v (aS e)) es x) ds N.af/\
  H f=some (.lst fs)/\Paired (λv x=>∃es,LstAt H v es/\Paired (λv e=>TupAt H v (ji e)) es x) fs N.foot/\
  H o=some (.lst os)/\Paired (λv x=>TupAt H v (jw x)) os N.aU
theorem gt.same {CN:B}{H V:Hp}{n:B}{N:Nt}(s:Tl H V) (h:gt CN H n N):gt CN V n N:=by
 obtain⟨i,c,r,o,d,f,A,os,ds,fs,h1,h2,k,l,m,p,t,u,y,j⟩:=h.ex;refine⟨i,c,r,o,d,f,A,os,ds,fs,s _ _ h1,s _ _ h2,s _ _ k,aj (λv x ⟨a,b,e,g,z⟩=>⟨a,b,e.same s,s _ _ g,s _ _ z⟩) l,s _ _ m,aj (λv x ⟨es,e,g⟩=>⟨es,e.same s,aj (λ_ _ q=>q.same s) g⟩) p,s _ _ t,aj (λv x ⟨es,e,g⟩=>⟨es,e.same s,aj (λ_ _ q=>q.same s) g⟩) u,s _ _ y,aj (λ_ _ q=>q.same s) j⟩
def sf (n a1 a2 a3 a4 a5 a6 a7:B) (k:Nat):List (Str×XV):=[("network",.ref n),("taken",Sc k),("arrivals",.ref a1),("rides",.ref a2),("ridden",.ref a3),("ready",.ref a4),("unboarded",.ref a5),("first_calls",.ref a6),("boardings",.ref a7)]
structure SA where
 x:B
 dx:B
 n:B
 a1:B
 a2:B
 a3:B
 a4:B
 a5:B
 a6:B
 a7:B
def SA.own (A:SA):List B:=[A.x,A.a1,A.a2,A.a3,A.a4,A.a5,A.a6,A.a7]
structure ul (CS CN:B) (H:Hp) (A:SA) (N:Nt) (S:SS):Prop where
 ob:H A.x=some (.ins CS A.dx (sf A.n A.a1 A.a2 A.a3 A.a4 A.a5 A.a6 A.a7 S.taken))
 arr:H A.a1=some (.lst (S.arr.map XV.int))
 rides:H A.a2=some (.lst (S.rides.map Sc))
 ab:H A.a3=some (.lst (S.ab.map XV.int))
 ready:H A.a4=some (.lst (S.ready.map XV.int))
 ah:H A.a5=some (.lst (S.ah.map Sc))
 aa:H A.a6=some (.lst (S.aa.map Sc))
 ae:∃es,H A.a7=some (.lst es)/\Paired (λv e=>TupAt (hide A.own H) v (aS e)) es S.ae
 nd:A.own.Nodup
 ar:gt CN (hide A.own H) A.n N
structure cX (N:Nt):Prop where
 af:N.af.length=N.n
 foot:N.foot.length=N.n
 kk:∀s g m,s<N.n->(g,m)∈N.ft s->g<N.n
 ew:∀r i,r<N.runs.length->i<N.len r->N.stop r i<N.n
 pos:∀r,r<N.runs.length->0<N.len r
 comes:∀r,r<N.runs.length->(N.runs.getD r ([],[])).2.length=N.len r
 lT:∀s e,s<N.n->e∈N.af.getD s []->e.2.1<N.runs.length
 small:N.n<=1000/\(N.af.map cm).sum<=300000/\N.runs.length<=1000000/\∀r,N.len r<=1000000
structure pp (N:Nt) (S:SS):Prop where
 ar:cX N
 ic:∀e,e∈S.ae->e.2.1<N.runs.length
 dm:∀r,r<N.runs.length->S.aa.getD r 0<N.len r
 arr:S.arr.length=N.n
 rides:S.rides.length=N.n
 ab:S.ab.length=N.n
 ready:S.ready.length=N.n
 ah:S.ah.length=N.n
 aa:S.aa.length=N.runs.length
 bw:∀s,s<N.n->S.ah.getD s 0<=(N.af.getD s []).length
 dj:S.ae.length+S.ah.sum<=1000000
structure a' (K:xz) (mg:Str->Option Wp) (CS CN:B):Prop where
 aq:cp K CS
 kR:ao K CS "network"
 mB:ao K CS "taken"
 dv:ao K CS "arrivals"
 mz:ao K CS "rides"
 o_:ao K CS "ridden"
 o9:ao K CS "ready"
 uf:ao K CS "unboarded"
 o7:ao K CS "first_calls"
 kP:ao K CS "boardings"
 aN:cp K CN
 oJ:ao K CN "changes"
 iq:ao K CN "runs"
 oK:ao K CN "origins"
 hj:ao K CN "departures"
 mc:ao K CN "footpaths"
 range:mg "range"=none
 len:mg "len"=none
theorem jo:∀(l:List Nat) (i:Nat),l.getD i 0<=l.sum
 |[],i=>by simp
 |x::l,0=>by simp
 |x::l,i+1=>by have:=jo l i;simp at this ⊢;omega
theorem ky {a b:Type}(f:a->b) (l:List a) (i:Nat) (x:a):(l.set i x).map f=(l.map f).set i (f x):=by rw[List.map_set]
theorem bN {a:Type}{l:List a}{i:Nat}(h:i<l.length) (d:a):l[i]?=some (l.getD i d):=Tw.getD_some h d
theorem LR {H:Hp}{a:B}{o:HO}(h:H a=some o):T0 H a o=H:=by(
funext b;by_cases e:b=a
·subst e;rw[KE,h]
·rw[Uf e])
theorem small {n:Nat}(h:n<=1000000):n<Is:=by rw[hD];omega
def pz (CS CN:B):Sp:=λvs H Q _=>∃(A:SA) (N:Nt) (S:SS) (stop:Nat) (ready:Int),vs=[.ref A.x,Sc stop,.int ready]/\ul CS CN H A N S/\pp N S/\stop<N.n/\
 ∀V:Hp,ul CS CN V A N (Tw.board N S stop ready)->Ev A.own H V->Q .ak V
theorem pb:pc ["self","stop","ready","departures","place"] ["self","stop","ready"] (sB kQ):=nl rfl rfl rfl (by decide +kernel)
theorem zc {f:B}{fd:sc}(F:sn K "get_on" "Search.get_on" kQ f fd) (T:a' K mg CS CN):Db P w K mg base AC 1 f fd ["self","stop","ready"] (pz CS CN):=by(
refine F.ok pb (λvs H Q E h=>?_) (λNQ NO outer s H vs Q E hr h=>?_)
·obtain⟨A,N,S,stop,ready,rfl,_⟩:=h;rfl
·obtain⟨A,N,S,stop,ready,rfl,g,C,Y,k⟩:=h;obtain⟨Nz,c,r,og,d,NU,N4,N3,ds,fs,h1,h2,NW,NX,NC,ND,NY,NZ,N0,NV⟩:=g.ar.ex;obtain⟨bs,Nm,NK⟩:=g.ae;have nd:=g.nd;have sub:=bW A.own H;obtain⟨NR,NF,es,⟨t,rfl,Nn⟩,Nw⟩:=cF ND (bN (l:=N.af) (i:=stop) (by rw[C.ar.af];exact Y) []);refine⟨_,On (tt (i:=3) pb.nd rfl (IN rfl) (Ch wT (zn (zn (I 0) rfl) rfl) (I 1) (λ_ _=>rfl)))
  (On (tt (i:=4) pb.nd rfl (IN rfl) (Ch wT (zn (I 0) rfl) (I 1) (λ_ _=>rfl)))
  (On (kK bD (PW.pt (mx (he ml (I 4) Fa (lm _)) (my (he kC (Ch gw (Ch wT (I 3) (kw gy (I 4) Fa) (λ_ _=>rfl)) Fa (λ_ _=>rfl)) (I 2) (lm _)))))
   (On (sJ (i:=4) pb.nd rfl (IN rfl) Fa yB)
   (FM (dL (cv b8 cV cW cP (zn (I 0) rfl) (WF (Ch wT (I 3) (I 4) (λ_ _=>rfl)) PP))))))
  (FM (du (I 4) (kJ (zn (I 0) rfl) (I 1) kU))))),?_⟩
 refine⟨_,O,A.x,CS,A.dx,_,_,O,g.ob,T.aq,T.kR,O,A.n,CN,Nz,_,_,O,sub _ _ h1,T.aN,T.hj,O,_,O,d,ds,_,_,O,O,TW.of (sub _ _ NC),lw NF,?_⟩;have hu:(S.ah.map Sc)[stop]?=some (Sc (S.ah.getD stop 0)):=by rw[pr,bN (l:=S.ah) (i:=stop) (by rw[C.ah];exact Y) 0];rfl
 refine⟨_,O,A.x,CS,A.dx,_,_,O,g.ob,T.aq,T.uf,O,_,O,A.a5,_,_,_,O,O,TW.of g.ah,lw hu,?_⟩;generalize Nl:N.af.getD stop []=D at Nw;generalize Nv:S.ah.getD stop 0=y;have N2:y<=D.length:=by rw[<- Nv,<-Nl];exact C.bw stop Y
 have dj:S.ae.length+y<=1000000:=by have:=C.dj;have:=jo S.ah stop;omega
 have Ny:t≠A.a7:=λe=>(wv.mp Nn).1 (by rw[e];simp[SA.own]);have NM:A.x≠A.a7:=by have:=nd;simp[SA.own]at this;exact this.1.2.2.2.2.2.2
 have Nx:A.a5≠A.a7:=by have:=nd;simp[SA.own]at this;exact this.2.2.2.2.2.1.2
 have Nj:∀o,(T0 H A.a7 o) A.x=some (.ins CS A.dx (sf A.n A.a1 A.a2 A.a3 A.a4 A.a5 A.a6 A.a7 S.taken)):=λo=>by rw[Uf NM];exact g.ob
 refine⟨λm ZB H2=>∃(b:List s3) (a:List XV),ZB=[some (.ref A.x),some (Sc stop),some (.int ready),some (.ref t),some (Sc m)]/\H2=T0 H A.a7 (.lst a)/\Paired (λv e=>TupAt (hide A.own H) v (aS e)) a b/\
  m<=y/\aM D ready m b=aM D ready y S.ae/\b.length+m=S.ae.length+y,⟨y,S.ae,bs,rfl,(LR Nm).symm,NK,t1 _,rfl,rfl⟩,?_⟩
 rintro m ZB H2 ⟨b,a,rfl,rfl,Nk,hm,Nu,N1⟩;have fin:∀q,aM D ready m b=(q,b)->m=q->Q .ak (T0 (T0 H A.a7 (.lst a)) A.a5 (.lst ((S.ah.set stop q).map Sc))):=by
  intro q u L;have NA:Tw.board N S stop ready= {S with ah:=S.ah.set stop q,ae:=b}:=by
   unfold Tw.board;rw[Nl,Nv,<-Nu,u]
  refine k _ ?_ (((Ev.rfl' _ _).put (by simp[SA.own])).put (by simp[SA.own]));rw[NA];have Nr:hide A.own (T0 (T0 H A.a7 (.lst a)) A.a5 (.lst ((S.ah.set stop q).map Sc)))=hide A.own H:=by
   rw[fe (by simp[SA.own]),fe (by simp[SA.own])]
  have j:=nd;simp[SA.own]at j;refine {ob:=?_,arr:=?_,rides:=?_,ab:=?_,ready:=?_,ah:=KE,aa:=?_,ae:=⟨a,?_,by rw[Nr];exact Nk⟩,nd:=nd,ar:=by rw[Nr];exact g.ar}
  ·rw[Uf (by simp[j])];exact Nj _
  ·rw[Uf (by simp[j]),Uf (by simp[j])];exact g.arr
  ·rw[Uf (by simp[j]),Uf (by simp[j])];exact g.rides
  ·rw[Uf (by simp[j]),Uf (by simp[j])];exact g.ab
  ·rw[Uf (by simp[j]),Uf (by simp[j])];exact g.ready
  ·rw[Uf (by simp[Ne.symm,j,eq_comm]),Uf (by simp[j])];exact g.aa
  ·rw[Uf (Ne.symm Nx),KE]
 have NL:Q .ak (T0 (T0 H A.a7 (.lst a)) A.a5 (.lst ((S.ah.set stop m).map Sc)))->Q .ak (T0 (T0 H A.a7 (.lst a)) A.a5 (.lst ((S.ah.map Sc).set stop (Sc m)))):=λq=>by rw[ky]at q;exact q
 have done:∀q,aM D ready m b=(q,b)->m=q->iA (bQ 4) (rV (pO K (bQ 0) "unboarded") (bQ 1) sN) {nx:=λ_ V=>Q .ak V,rt:=Q} [some (.ref A.x),some (Sc stop),some (.int ready),some (.ref t),some (Sc m)] (T0 H A.a7 (.lst a)):=by
  intro q u L;refine⟨_,O,_,O,A.x,CS,A.dx,_,_,O,Nj _,T.aq,T.uf,O,_,O,A.a5,S.ah.map Sc,_,stop,O,O,by rw[Uf Nx];exact g.ah,?_,?_⟩
  ·unfold eS;rw[No (by omega),No (by rw[FS,C.ah];omega)];simp
  ·exact NL (L▸fin q u L)
 refine⟨_,O,_,_,O,O,_,O,?_⟩;cases m with
 |zero=>
  rw[Ps (by decide)];refine v6 ?_;exact done 0 rfl rfl
 |succ p=>
  rw[No (s2 (by show(0:Int)<((p+1:Nat):Int);omega))];have NH:p<D.length:=by omega
  obtain⟨NS,Nq,⟨J,rfl,U⟩⟩:=cF Nw (bN NH di);have NG:(T0 H A.a7 (.lst a)) J=some (.tup (aS (D.getD p di))):=by
   rw[Uf (y6 (sub _ _ U) Nm (by intro z;cases z))];exact sub _ _ U
  have Np:(T0 H A.a7 (.lst a)) t=some (.lst es):=by rw[Uf Ny];exact sub _ _ Nn
  have u:((p+1:Nat):Int)-1=(p:Int):=by omega
  refine⟨_,O,_,O,_,_,O,O,t,es,_,_,O,O,TW.of Np,by rw[u];exact lw Nq,J,_,_,_,O,O,pm.of NG,O,_,O,_,_,O,O,_,O,?_⟩;by_cases c:ready<=(D.getD p di).1
  ·rw[s2 c];refine ww ⟨λNN V=>∃NI,NI<p+1/\_,λNN V q=>q,?_⟩;refine⟨_,O,_,_,O,O,?_⟩;refine⟨_,O,A.x,CS,A.dx,_,_,O,Nj _,T.aq,T.kP,O,.inl ⟨O,_,TW.of KE⟩,_,O,_,O,t,es,_,_,O,O,TW.of Np,by show dI es (((p+1:Nat):Int)-1)=_;rw[u];exact lw Nq,A.a7,a,_,O,O,KE,?_,?_⟩
   ·have:a.length=b.length:=Paired.length Nk;exact small (by omega)
   ·rw[gF];refine⟨p,qC _,b++[D.getD p di],a++[XV.ref J],?_,O,Paired.snoc Nk ⟨J,O,U⟩,by omega,?_,?_⟩
    ·show [some (XV.ref A.x),some (Sc stop),some (XV.int ready),some (XV.ref t),some (XV.int (((p+1:Nat):Int)-1))]=_;rw[u];rfl
    ·rw[<- Nu]
     conv=>rhs;unfold aM
     rw[No c]
    ·rw[lv,bz];omega
  ·rw[sw c];refine v6 ?_;refine done (p+1) ?_ rfl;unfold aM;rw[Ps c])
theorem y5 {l:List B}(nd:l.Nodup) (i j:Nat) (hi:i<l.length) (a:j<l.length) (h:i≠j):l[i]≠l[j]:=λe=>h ((p5 nd).mp e)
theorem gz {A:SA}(nd:A.own.Nodup) (i j:Nat) (hi:i<8) (a:j<8) (h:i≠j):A.own[i]'hi≠A.own[j]'a:=y5 nd i j hi a h
section
variable {CS CN:B}{H:Hp}{A:SA}{N:Nt}{S:SS}
theorem ul.setArr (h:ul CS CN H A N S) (l:List Int):ul CS CN (T0 H A.a1 (.lst (l.map XV.int))) A N {S with arr:=l}:=by
 have a:hide A.own (T0 H A.a1 (.lst (l.map XV.int)))=hide A.own H:=fe (by simp[SA.own]);have n:=gz h.nd;obtain⟨es,b,c⟩:=h.ae;exact {ob:=(Uf (n 0 1 (by decide) (by decide) (by decide))).trans h.ob,arr:=KE,rides:=(Uf (n 2 1 (by decide) (by decide) (by decide))).trans h.rides,ab:=(Uf (n 3 1 (by decide) (by decide) (by decide))).trans h.ab,ready:=(Uf (n 4 1 (by decide) (by decide) (by decide))).trans h.ready,ah:=(Uf (n 5 1 (by decide) (by decide) (by decide))).trans h.ah,aa:=(Uf (n 6 1 (by decide) (by decide) (by decide))).trans h.aa,ae:=⟨es,(Uf (n 7 1 (by decide) (by decide) (by decide))).trans b,by rw[a];exact c⟩,nd:=h.nd,ar:=by rw[a];exact h.ar}
theorem ul.K5 (h:ul CS CN H A N S) (l:List Nat):ul CS CN (T0 H A.a2 (.lst (l.map Sc))) A N {S with rides:=l}:=by
 have a:hide A.own (T0 H A.a2 (.lst (l.map Sc)))=hide A.own H:=fe (by simp[SA.own]);have n:=gz h.nd;obtain⟨es,b,c⟩:=h.ae;exact {ob:=(Uf (n 0 2 (by decide) (by decide) (by decide))).trans h.ob,arr:=(Uf (n 1 2 (by decide) (by decide) (by decide))).trans h.arr,rides:=KE,ab:=(Uf (n 3 2 (by decide) (by decide) (by decide))).trans h.ab,ready:=(Uf (n 4 2 (by decide) (by decide) (by decide))).trans h.ready,ah:=(Uf (n 5 2 (by decide) (by decide) (by decide))).trans h.ah,aa:=(Uf (n 6 2 (by decide) (by decide) (by decide))).trans h.aa,ae:=⟨es,(Uf (n 7 2 (by decide) (by decide) (by decide))).trans b,by rw[a];exact c⟩,nd:=h.nd,ar:=by rw[a];exact h.ar}
theorem ul.K4 (h:ul CS CN H A N S) (l:List Int):ul CS CN (T0 H A.a3 (.lst (l.map XV.int))) A N {S with ab:=l}:=by
 have a:hide A.own (T0 H A.a3 (.lst (l.map XV.int)))=hide A.own H:=fe (by simp[SA.own]);have n:=gz h.nd;obtain⟨es,b,c⟩:=h.ae;exact {ob:=(Uf (n 0 3 (by decide) (by decide) (by decide))).trans h.ob,arr:=(Uf (n 1 3 (by decide) (by decide) (by decide))).trans h.arr,rides:=(Uf (n 2 3 (by decide) (by decide) (by decide))).trans h.rides,ab:=KE,ready:=(Uf (n 4 3 (by decide) (by decide) (by decide))).trans h.ready,ah:=(Uf (n 5 3 (by decide) (by decide) (by decide))).trans h.ah,aa:=(Uf (n 6 3 (by decide) (by decide) (by decide))).trans h.aa,ae:=⟨es,(Uf (n 7 3 (by decide) (by decide) (by decide))).trans b,by rw[a];exact c⟩,nd:=h.nd,ar:=by rw[a];exact h.ar}
theorem ul.K3 (h:ul CS CN H A N S) (l:List Int):ul CS CN (T0 H A.a4 (.lst (l.map XV.int))) A N {S with ready:=l}:=by
 have a:hide A.own (T0 H A.a4 (.lst (l.map XV.int)))=hide A.own H:=fe (by simp[SA.own]);have n:=gz h.nd;obtain⟨es,b,c⟩:=h.ae;exact {ob:=(Uf (n 0 4 (by decide) (by decide) (by decide))).trans h.ob,arr:=(Uf (n 1 4 (by decide) (by decide) (by decide))).trans h.arr,rides:=(Uf (n 2 4 (by decide) (by decide) (by decide))).trans h.rides,ab:=(Uf (n 3 4 (by decide) (by decide) (by decide))).trans h.ab,ready:=KE,ah:=(Uf (n 5 4 (by decide) (by decide) (by decide))).trans h.ah,aa:=(Uf (n 6 4 (by decide) (by decide) (by decide))).trans h.aa,ae:=⟨es,(Uf (n 7 4 (by decide) (by decide) (by decide))).trans b,by rw[a];exact c⟩,nd:=h.nd,ar:=by rw[a];exact h.ar}
theorem ul.K2 (h:ul CS CN H A N S) (l:List Nat):ul CS CN (T0 H A.a6 (.lst (l.map Sc))) A N {S with aa:=l}:=by
 have a:hide A.own (T0 H A.a6 (.lst (l.map Sc)))=hide A.own H:=fe (by simp[SA.own]);have n:=gz h.nd;obtain⟨es,b,c⟩:=h.ae;exact {ob:=(Uf (n 0 6 (by decide) (by decide) (by decide))).trans h.ob,arr:=(Uf (n 1 6 (by decide) (by decide) (by decide))).trans h.arr,rides:=(Uf (n 2 6 (by decide) (by decide) (by decide))).trans h.rides,ab:=(Uf (n 3 6 (by decide) (by decide) (by decide))).trans h.ab,ready:=(Uf (n 4 6 (by decide) (by decide) (by decide))).trans h.ready,ah:=(Uf (n 5 6 (by decide) (by decide) (by decide))).trans h.ah,aa:=KE,ae:=⟨es,(Uf (n 7 6 (by decide) (by decide) (by decide))).trans b,by rw[a];exact c⟩,nd:=h.nd,ar:=by rw[a];exact h.ar}
theorem ul.K6 (h:ul CS CN H A N S) (k:Nat):ul CS CN (T0 H A.x (.ins CS A.dx (sf A.n A.a1 A.a2 A.a3 A.a4 A.a5 A.a6 A.a7 k))) A N {S with taken:=k}:=by
 have a:hide A.own (T0 H A.x (.ins CS A.dx (sf A.n A.a1 A.a2 A.a3 A.a4 A.a5 A.a6 A.a7 k)))=hide A.own H:=fe (by simp[SA.own]);have n:=gz h.nd;obtain⟨es,b,c⟩:=h.ae;exact {ob:=KE,arr:=(Uf (n 1 0 (by decide) (by decide) (by decide))).trans h.arr,rides:=(Uf (n 2 0 (by decide) (by decide) (by decide))).trans h.rides,ab:=(Uf (n 3 0 (by decide) (by decide) (by decide))).trans h.ab,ready:=(Uf (n 4 0 (by decide) (by decide) (by decide))).trans h.ready,ah:=(Uf (n 5 0 (by decide) (by decide) (by decide))).trans h.ah,aa:=(Uf (n 6 0 (by decide) (by decide) (by decide))).trans h.aa,ae:=⟨es,(Uf (n 7 0 (by decide) (by decide) (by decide))).trans b,by rw[a];exact c⟩,nd:=h.nd,ar:=by rw[a];exact h.ar}
theorem l4 {n k:Nat}(h:k<n):eS n (k:Int)=some k:=by
 unfold eS;rw[No (by omega),No (by omega)];simp
theorem jb {l:List Int}{i:Nat}(h:i<l.length):dI (l.map XV.int) (i:Int)=some (.int (l.getD i 0)):=lw (by rw[pr,bN h 0];rfl)
theorem ri {l:List Nat}{i:Nat}(h:i<l.length):dI (l.map Sc) (i:Int)=some (Sc (l.getD i 0)):=lw (by rw[pr,bN h 0];rfl)
theorem sum_set:∀(l:List Nat) (i x:Nat),i<l.length->(l.set i x).sum+l.getD i 0=l.sum+x
 |[],i,x,h=>absurd h (wj _)
 |y::l,0,x,_=>by simp;omega
 |y::l,i+1,x,h=>by
  have:=sum_set l i x (by simpa using h);simp at this⊢;omega
theorem rq {d:List s3}{ready:Int}:∀(p:Nat) (b:List s3),(aM d ready p b).1<=p/\(aM d ready p b).2.length+(aM d ready p b).1=b.length+p
 |0,b=>⟨t1 _,O⟩
 |p+1,b=>by
  unfold aM;split
  ·obtain⟨h1,h2⟩:=rq (d:=d) (ready:=ready) p (b++[d.getD p di]);rw[lv,bz]at h2;exact⟨by omega,by omega⟩
  ·exact⟨t1 _,O⟩
theorem xI {d:List s3}{ready:Int}:∀(p:Nat) (b:List s3),p<=d.length->∀e,e∈(aM d ready p b).2->e∈b\/e∈d
 |0,b,_,e,h=>.inl h
 |p+1,b,a,e,h=>by
  unfold aM at h;split at h
  ·rcases xI p (b++[d.getD p di]) (by omega) e h with q|q
   ·rcases f1.mp q with q|q
    ·exact .inl q
    ·simp only[ss]at q;rw[q];exact .inr (Tw.getD_mem (by omega) _)
   ·exact .inr q
  ·exact .inl h
theorem pp.board (h:pp N S) {stop:Nat}(a:stop<N.n) (ready:Int):pp N (Tw.board N S stop ready):=by(
obtain⟨h1,h2⟩:=rq (d:=N.af.getD stop []) (ready:=ready) (S.ah.getD stop 0) S.ae;refine {ar:=h.ar,ic:=λe b=>(xI _ _ (h.bw stop a) e b).elim (h.ic e) (h.ar.lT stop e a),dm:=h.dm,arr:=h.arr,rides:=h.rides,ab:=h.ab,ready:=h.ready,ah:=by simp[Tw.board,h.ah],aa:=h.aa,bw:=λs c=>?_,dj:=?_}
·show(S.ah.set stop _).getD s 0<=_;rw[Tw.gC (by rw[h.ah];exact a)];split
 ·rename_i e;rw[e];exact dg h1 (h.bw stop a)
 ·exact h.bw s c
·have:=h.dj;have e:=sum_set S.ah stop (aM (N.af.getD stop []) ready (S.ah.getD stop 0) S.ae).1 (by rw[h.ah];exact a);show(aM (N.af.getD stop []) ready (S.ah.getD stop 0) S.ae).2.length+(S.ah.set stop (aM (N.af.getD stop []) ready (S.ah.getD stop 0) S.ae).1).sum<=_;omega)
theorem pp.aw (h:pp N S) (stop:Nat) (Ix:Int):pp N (Tw.aw S stop Ix):=by(
unfold Tw.aw;split
·exact {h with arr:=by simp[h.arr],rides:=by simp[h.rides]}
·exact h)
theorem pp.eM (h:pp N S) {stop:Nat}(a:stop<N.n) (ready:Int):pp N (Tw.eM N S stop ready):=by(
unfold Tw.eM;split
·exact pp.board (S:= {S with ready:=S.ready.set stop ready}) {h with ready:=by simp[h.ready]} a ready
·exact h)
theorem pp.au (h:pp N S) {stop:Nat}(a:stop<N.n) (Ix ready:Int):pp N (Tw.au N S stop Ix ready):=(h.aw stop Ix).eM a ready
end
def mH (CS CN:B):Sp:=λvs H Q _=>∃(A:SA) (N:Nt) (S:SS) (stop:Nat) (Ix ready:Int),vs=[.ref A.x,Sc stop,.int Ix,.int ready]/\ul CS CN H A N S/\pp N S/\stop<N.n/\
 ∀V:Hp,ul CS CN V A N (Tw.au N S stop Ix ready)->Ev A.own H V->Q .ak V
theorem KC:pc ["self","stop","minute","ready"] ["self","stop","minute","ready"] (sB tm):=nl rfl rfl rfl (by decide +kernel)
theorem Ia {f n:B}{fd o:sc}(F:sn K "arrive" "Search.arrive" tm f fd) (T:a' K mg CS CN) (FB:sn K "get_on" "Search.get_on" kQ n o) (bB:Binds K o ["self","stop","ready"] []) (D:b3 K CS "get_on" n):
  Db P w K mg base AC 2 f fd ["self","stop","minute","ready"] (mH CS CN):=by(
have t:Db P w K mg base AC 1 n o ["self","stop","ready"] (pz CS CN):=zc FB T;refine F.ok KC (λvs H Q E h=>?_) (λL J outer s H vs Q E hr h=>?_)
·obtain⟨A,N,S,stop,Ix,ready,rfl,_⟩:=h;rfl
·obtain⟨A,N,S,stop,Ix,ready,rfl,a,l,g,k⟩:=h;refine⟨_,On (kt (he dO (I 2) (Ch wT (zn (I 0) rfl) (I 1) (λ_ _=>rfl)) (lm _))
   (On (du (I 2) (kJ (zn (I 0) rfl) (I 1) kU)) (FM (du (zn (I 0) rfl) (kJ (zn (I 0) rfl) (I 1) kU)))) io)
  (FM (kt (he dO (I 3) (Ch wT (zn (I 0) rfl) (I 1) (λ_ _=>rfl)) (lm _))
   (On (du (I 3) (kJ (zn (I 0) rfl) (I 1) kU)) (FM (dL (an (I 0) T.aq D t hr bB .nil wE (WF (I 1) (WF (I 3) PP)))))) io)),?_⟩
 have r:∀(H1:Hp),ul CS CN H1 A N (aw S stop Ix)->Ev A.own H H1->
   uU (pS (hy (dR λi j=>.bl (decide (i<j))) (bQ 3) (hy (zD K) (pO K (bQ 0) "ready") (bQ 1))))
    (kY (iA (bQ 3) (rV (pO K (bQ 0) "ready") (bQ 1) sN)) (Au (uW CS "get_on" (pz CS CN) [] E0 (bQ 0) (pN (bQ 1) (pN (bQ 3) jE))))) pP
    {nx:=λ_ V=>Q .ak V,rt:=Q} [some (.ref A.x),some (Sc stop),some (.int Ix),some (.int ready)] H1:=by
  intro H1 d q;have m:=l.aw stop Ix;refine⟨_,O,_,O,A.x,CS,A.dx,_,_,O,d.ob,T.aq,T.o9,O,_,O,A.a4,_,_,_,O,O,TW.of d.ready,jb (by rw[m.ready];exact g),_,_,O,O,_,O,?_⟩;by_cases c:ready<(aw S stop Ix).ready.getD stop 0
  ·rw[s2 c];refine ww ?_;have p:=d.K3 ((aw S stop Ix).ready.set stop ready);rw[ky]at p;refine⟨_,O,_,O,A.x,CS,A.dx,_,_,O,d.ob,T.aq,T.o9,O,_,O,A.a4,_,_,stop,O,O,d.ready,l4 (by rw[FS,m.ready];exact g),?_⟩;refine⟨_,O,A.x,A.dx,_,O,p.ob,O,_,O,_,O,A,N,_,stop,ready,O,p,{m with ready:=by simp[m.ready]},g,λu z y=>?_⟩;refine k u ?_ ((q.put (by simp[SA.own])).tr y λb C=>.inl C);have e:Tw.au N S stop Ix ready=Tw.board N {aw S stop Ix with ready:=(aw S stop Ix).ready.set stop ready} stop ready:=by
    unfold Tw.au eM;rw[No c]
   rw[e];exact z
  ·rw[sw c];refine v6 ?_;refine k H1 ?_ q;have e:Tw.au N S stop Ix ready=aw S stop Ix:=by unfold Tw.au eM;rw[Ps c]
   rw[e];exact d
 refine⟨_,O,_,O,A.x,CS,A.dx,_,_,O,a.ob,T.aq,T.dv,O,_,O,A.a1,_,_,_,O,O,TW.of a.arr,jb (by rw[l.arr];exact g),_,_,O,O,_,O,?_⟩;by_cases c:Ix<S.arr.getD stop 0
 ·rw[s2 c];refine ww ?_;have h1:=a.setArr (S.arr.set stop Ix);rw[ky]at h1;have h2:=h1.K5 (S.rides.set stop S.taken);rw[ky]at h2;refine⟨_,O,_,O,A.x,CS,A.dx,_,_,O,a.ob,T.aq,T.dv,O,_,O,A.a1,_,_,stop,O,O,a.arr,l4 (by rw[FS,l.arr];exact g),?_⟩;refine⟨_,O,A.x,CS,A.dx,_,_,O,h1.ob,T.aq,T.mB,O,_,O,A.x,CS,A.dx,_,_,O,h1.ob,T.aq,T.mz,O,_,O,A.a2,_,_,stop,O,O,h1.rides,l4 (by rw[FS,l.rides];exact g),?_⟩;refine r _ ?_ (((Ev.rfl' _ _).put (by simp[SA.own])).put (by simp[SA.own]));have e:aw S stop Ix= {S with arr:=S.arr.set stop Ix,rides:=S.rides.set stop S.taken}:=by unfold aw;rw[No c]
  rw[e];exact h2
 ·rw[sw c];refine v6 ?_;refine r H ?_ (Ev.rfl' _ _);have e:aw S stop Ix=S:=by unfold aw;rw[Ps c]
  rw[e];exact a)
section
variable {N:Nt}{S:SS}
theorem pp.walks {Ix:Int}:∀(W:List (Nat×Int)) {S:SS},pp N S->(∀g m,(g,m)∈W->g<N.n)->pp N (W.foldl (λS w=>Tw.au N S w.1 (Ix+w.2) (Ix+w.2)) S)
 |[],S,h,_=>h
 |(g,m)::W,S,h,hw=>by
  rw[dF];exact pp.walks W (h.au (hw g m (lc ..)) _ _) λg' a q=>hw g' a (on _ q)
theorem pp.bx (h:pp N S) {stop:Nat}(a:stop<N.n) (Ix:Int):pp N (Tw.bx N S stop Ix):=pp.walks _ h λg m q=>h.ar.kk stop g m a q
end
def pG (CS CN:B):Sp:=λvs H Q _=>∃(A:SA) (N:Nt) (S:SS) (stop:Nat) (Ix:Int),vs=[.ref A.x,Sc stop,.int Ix]/\ul CS CN H A N S/\pp N S/\stop<N.n/\
 ∀V:Hp,ul CS CN V A N (Tw.bx N S stop Ix)->Ev A.own H V->Q .ak V
theorem pq:pc ["self","stop","minute","goal","minutes","number"] ["self","stop","minute"] (sB ug):=nl rfl rfl rfl (by decide +kernel)
theorem I0 {f y:B}{fd z:sc}(F:sn K "walk_on" "Search.walk_on" ug f fd) (T:a' K mg CS CN) (L:Db P w K mg base AC 2 y z ["self","stop","minute","ready"] (mH CS CN)) (U:Binds K z ["self","stop","minute","ready"] []) (mA:b3 K CS "arrive" y):
  Db P w K mg base AC 3 f fd ["self","stop","minute"] (pG CS CN):=by(
refine F.ok pq (λvs H Q E h=>?_) (λNA Ny outer s H vs Q E hr h=>?_)
·obtain⟨A,N,S,stop,Ix,rfl,_⟩:=h;rfl
·obtain⟨A,N,S,stop,Ix,rfl,p,o,t,k⟩:=h;obtain⟨Y,c,r,og,d,Nj,NL,NK,ds,fs,h1,h2,ND,NF,NG,NH,Nk,Nl,NI,NC⟩:=p.ar.ex;have sub:=bW A.own H;obtain⟨fv,Nr,es,⟨fa,rfl,C⟩,J⟩:=cF Nl (bN (l:=N.foot) (i:=stop) (by rw[o.ar.foot];exact t) []);refine⟨_,FM (cw bD rfl (cf (Ch wT (zn (zn (I 0) rfl) rfl) (I 1) (λ_ _=>rfl))) (cb rfl (re (v4 (i:=3) pq.nd rfl (IN rfl)) (re (v4 (i:=4) pq.nd rfl (IN rfl)) (re (v4 (i:=5) pq.nd rfl (IN rfl)) cc))))
  (FM (dL (an (I 0) T.aq mA L hr U .nil wE (WF (I 3) (WF (kw bu (I 2) (I 4)) (WF (kw bu (I 2) (I 4)) PP))))))),?_⟩
 refine⟨_,O,A.x,CS,A.dx,_,_,O,p.ob,T.aq,T.kR,O,A.n,CN,Y,_,_,O,sub _ _ h1,T.aN,T.mc,O,_,O,Nj,fs,_,_,O,O,TW.of (sub _ _ Nk),lw Nr,fa,O,⟨es,TW.of (sub _ _ C)⟩,?_⟩;have Nu:es.length=(N.foot.getD stop []).length:=Paired.length J;refine gv (K:=K) (a:=fa) (xs:=es) (λi ZB H2=>∃g m q,ZB=[some (.ref A.x),some (Sc stop),some (.int Ix),g,m,q]/\
   ul CS CN H2 A N (((N.ft stop).take i).foldl (λS w=>Tw.au N S w.1 (Ix+w.2) (Ix+w.2)) S)/\Ev A.own H H2)
  ⟨none,none,none,O,p,Ev.rfl' _ _⟩ (λi ZB H2 _ ⟨_,_,_,_,_,e⟩=>TW.of (bW _ _ _ _ (e.hide _ _ C))) ?_ ?_
 ·rintro i x ZB H2 hi ⟨g,m,q,rfl,j,e⟩;obtain⟨⟨goal,u,num⟩,Nx,⟨ta,rfl,Nv⟩⟩:=dP J hi;have D:(N.ft stop)[i]?=some (goal,u):=by unfold Nt.ft;rw[pr,Nx];rfl
  have Nw:H2 ta=some (.tup (ji (goal,u,num))):=bW _ _ _ _ (e.hide _ _ Nv);refine⟨ta,_,O,pm.of Nw,O,_,_,O,_,_,O,_,_,O,O,?_⟩;have Nn:pp N (((N.ft stop).take i).foldl (λS w=>Tw.au N S w.1 (Ix+w.2) (Ix+w.2)) S):=pp.walks _ o λg m q=>o.ar.kk stop g m t (nA q);have hg:goal<N.n:=o.ar.kk stop goal u t (pi D);refine⟨_,O,A.x,A.dx,_,O,j.ob,O,_,O,_,O,_,O,_,_,O,O,_,O,_,O,_,_,O,O,A,N,_,goal,_,_,O,j,Nn,hg,λNz Np Nm=>?_⟩;refine⟨_,_,_,O,?_,e.tr Nm λb Nq=>.inl Nq⟩;rw[ck,D,cz,nG];exact Np
 ·rintro ZB H2 ⟨g,m,q,rfl,j,e⟩;refine k H2 ?_ e;rw[show es.length=(N.ft stop).length by unfold Nt.ft;rw[FS];exact Nu,de]at j;exact j)
def dk (r:List Nat):List (wS×XV):=r.map λ(s:Nat)=>((it (s:Int):wS),XV.bl true)
theorem ER (r:List Nat) (s:Nat):ax (dk r) (it (s:Int)) (XV.bl true)=dk (if s∈r then r else r++[s]):=by(
have e:((dk r).any λc=>decide (c.1=it (s:Int)))=decide (s∈r):=by
 unfold dk;rw[List.any_map]
 induction r with
 |nil=>rfl
 |cons x r b=>
  rw[p9,b];by_cases e:x=s
  ·subst e;simp
  ·have a:¬((it (x:Int):wS)=it (s:Int)):=λq=>e (by injection q with q;omega);simp[a,Ne.symm e]
unfold ax;rw[e];by_cases m:s∈r
·rw[No (s2 m),No m];unfold dk;rw[be];refine ei λx _=>?_;show(if(it (x:Int):wS)=it (s:Int)then(it (x:Int),XV.bl true)else(it (x:Int),XV.bl true))=_;split<;>rfl
·rw[Ps (by simpa using m),Ps m];unfold dk;rw[bA];rfl)
section
variable {N:Nt}{S:SS}
structure cY (N:Nt) (o:Off):Prop where
 ab:o.ab.length=N.n
 aa:o.aa.length=N.runs.length
 dm:∀r,r<N.runs.length->o.aa.getD r 0<N.len r
 ai:∀s,s∈o.ai->s<N.n
 nd:o.ai.Nodup
theorem cY.step (h:cY N o) {run bX:Nat}(g:N.stop run bX<N.n):cY N (cE N run o bX):=by(
unfold cE;split
·refine {ab:=by simp[h.ab],aa:=h.aa,dm:=h.dm,ai:=λs c=>?_,nd:=?_}
 ·have c:s∈(if N.stop run bX∈o.ai then o.ai else o.ai++[N.stop run bX]):=c;split at c
  ·exact h.ai s c
  ·rcases f1.mp c with q|q
   ·exact h.ai s q
   ·simp at q;rw[q];exact g
 ·show(if N.stop run bX∈o.ai then o.ai else o.ai++[N.stop run bX]).Nodup;split
  ·exact h.nd
  ·rename_i q;rw[hQ];refine⟨h.nd,by simp,λa d b f=>?_⟩;simp at f;rw[f];intro e;rw[e]at d;exact q d
·exact h)
theorem cY.steps {run:Nat}:∀(L:List Nat) {o:Off},cY N o->(∀j,j∈L->N.stop run j<N.n)->cY N (L.foldl (cE N run) o)
 |[],o,h,_=>h
 |j::L,o,h,a=>by
  rw[dF];exact cY.steps L (h.step (a j (lc ..))) λi hi=>a i (on _ hi)
theorem cY.run (b:cX N) (h:cY N o) {e:s3}(a:e.2.1<N.runs.length):cY N (ea N o e):=by(
unfold ea;split
·rename_i c;have f:=h.dm e.2.1 a;refine cY.steps _ {ab:=h.ab,aa:=by simp[h.aa],dm:=λr hr=>?_,ai:=h.ai,nd:=h.nd} λj d=>b.ew _ _ a ?_
 ·show(o.aa.set e.2.1 e.2.2).getD r 0<_;rw[Tw.gC (by rw[h.aa];exact a)];split
  ·rename_i q;rw[q];omega
  ·exact h.dm r hr
 ·rw[q3]at d;omega
·exact h)
theorem cY.fold (b:cX N):∀(L:List s3) {o:Off},cY N o->(∀e,e∈L->e.2.1<N.runs.length)->cY N (L.foldl (ea N) o)
 |[],o,h,_=>h
 |e::L,o,h,a=>by
  rw[dF];exact cY.fold b L (h.run b (a e (lc ..))) λi hi=>a i (on _ hi)
theorem rX (h:pp N S):cY N (bt N S):=cY.fold h.ar _ ⟨h.ab,h.aa,h.dm,λs q=>by simp at q,p8⟩ h.ic
theorem HR:∀(n:Nat) (l:List Nat),l.Nodup->(∀s,s∈l->s<n)->l.length<=n:=by
 intro n l nd h;have:=Di (l₂:=s5 n) nd (λx a=>bJ.mpr (h x a));simpa using this
end
section
variable {CS CN:B}{H:Hp}{A:SA}{N:Nt}{S:SS}
theorem ul.nY (h:ul CS CN H A N S) {d:B}{o:HO}(hd:d∉A.own) (ar:gt CN (hide A.own (T0 H d o)) A.n N) {es:List XV}(a:H A.a7=some (.lst es)) (b:Paired (λv e=>TupAt (hide A.own (T0 H d o)) v (aS e)) es S.ae):ul CS CN (T0 H d o) A N S:=by
 have ne:∀i (hi:i<8),A.own[i]'hi≠d:=λi hi e=>hd (by rw[<- e];exact eH _);exact {ob:=(Uf (ne 0 (by decide))).trans h.ob,arr:=(Uf (ne 1 (by decide))).trans h.arr,rides:=(Uf (ne 2 (by decide))).trans h.rides,ab:=(Uf (ne 3 (by decide))).trans h.ab,ready:=(Uf (ne 4 (by decide))).trans h.ready,ah:=(Uf (ne 5 (by decide))).trans h.ah,aa:=(Uf (ne 6 (by decide))).trans h.aa,ae:=⟨es,(Uf (ne 7 (by decide))).trans a,b⟩,nd:=h.nd,ar:=ar}
theorem mm (h:ul CS CN H A N S) {b:B}(a:b∈A.own):H b≠none:=by(
obtain⟨es,c,d⟩:=h.ae;simp only[SA.own,s1,hR,gI]at a;rcases a with rfl|rfl|rfl|rfl|rfl|rfl|rfl|rfl
·rw[h.ob];simp
·rw[h.arr];simp
·rw[h.rides];simp
·rw[h.ab];simp
·rw[h.ready];simp
·rw[h.ah];simp
·rw[h.aa];simp
·rw[c];simp)
theorem r0 {l:List B}{H H2:Hp}{d:B}{o:HO}(hd:H d=none) (a:Ev l H H2):Tl (hide l H) (hide l (T0 H2 d o)):=λb u e=>by
 obtain⟨h1,h2⟩:=wv.mp e;refine wv.mpr ⟨h1,?_⟩;rw[Uf (v0 h2 hd)];exact a b u h2 h1
end
def uF (CS CN:B):Sp:=λvs H Q _=>∃(A:SA) (N:Nt) (S:SS),vs=[.ref A.x]/\ul CS CN H A N S/\pp N S/\
 ∀(V:Hp) (d:B),H d=none->V d=some (.dK (dk (bt N S).ai))->ul CS CN V A N {S with aa:=(bt N S).aa,ab:=(bt N S).ab}->Ev A.own H V->Q (.ref d) V
theorem fZ:pc ["self","ridden","reached","goes","run","call","last","stops","comes","later","stop"] ["self"] (sB tO):=nl rfl rfl rfl (by decide +kernel)
structure fN (CS CN:B) (H:Hp) (A:SA) (N:Nt) (S:SS) (d:B) (es:List XV) (H2:Hp) (o:Off):Prop where
 at_:ul CS CN H2 A N {S with aa:=o.aa,ab:=o.ab}
 es:H2 A.a7=some (.lst es)
 rG:H2 d=some (.dK (dk o.ai))
 but:Ev A.own H H2
 ok:cY N o
theorem Iy {f:B}{fd:sc}(F:sn K "get_off" "Search.get_off" tO f fd) (T:a' K mg CS CN):Db P w K mg base AC 1 f fd ["self"] (uF CS CN):=by(
refine F.ok fZ (λvs H Q E h=>?_) (λOi Oh outer s H vs Q E hr h=>?_)
·obtain⟨A,N,S,rfl,_⟩:=h;rfl
·obtain⟨A,N,S,rfl,p,t,k⟩:=h;have hu:=hc hr;obtain⟨NW,c,r,og,d',Oj,Oe,Ow,ds,fs,h1,h2,N0,N1,Om,Oo,Oq,Ot,Ou,Ol⟩:=p.ar.ex;obtain⟨bs,Nn,Nj⟩:=p.ae;refine⟨_,On (tt (i:=1) fZ.nd rfl (IN rfl) (zn (I 0) rfl))
  (On (tt (i:=2) fZ.nd rfl (IN rfl) Jt)
  (On (cw bD rfl (cf (zn (I 0) rfl)) (cb rfl (re (v4 (i:=3) fZ.nd rfl (IN rfl)) (re (v4 (i:=4) fZ.nd rfl (IN rfl)) (re (v4 (i:=5) fZ.nd rfl (IN rfl)) cc))))
   (On (tt (i:=6) fZ.nd rfl (IN rfl) (Ch wT (zn (I 0) rfl) (I 4) (λ_ _=>rfl)))
   (FM (kt (he dO (I 5) (I 6) (lm _))
    (On (du (I 5) (kJ (zn (I 0) rfl) (I 4) kU))
    (On (du (Ch wT (zn (zn (I 0) rfl) rfl) (I 4) (λ_ _=>rfl)) (cb rfl (re (v4 (i:=7) fZ.nd rfl (IN rfl)) (re (v4 (i:=8) fZ.nd rfl (IN rfl)) cc))))
    (FM (cw bD rfl (JA rfl T.range (WF (kw bu (I 5) Fa) (WF (kw bu (I 6) Fa) PP))) (v4 (i:=9) fZ.nd rfl (IN rfl))
     (On (tt (i:=10) fZ.nd rfl (IN rfl) (Ch wT (I 7) (I 9) (λ_ _=>rfl)))
     (FM (kt (he dO (Ch wT (I 8) (I 9) (λ_ _=>rfl)) (Ch wT (I 1) (I 10) (λ_ _=>rfl)) (lm _))
      (On (du (Ch wT (I 8) (I 9) (λ_ _=>rfl)) (kJ (I 1) (I 10) kU)) (FM (mv hu (I 2) (I 10) mn rfl))) io)))))))
    io))))
  (FM (tz (I 2))))),?_⟩
 refine⟨_,O,A.x,CS,A.dx,_,_,O,p.ob,T.aq,T.o_,O,?_⟩;intro d hd;have D:d∉A.own:=λq=>mm p q hd;have NG:ul CS CN (T0 H d (.dK [])) A N S:=p.nY D (p.ar.same (r0 hd (Ev.rfl' _ _))) Nn (aj (λ_ _ q=>q.same (r0 hd (Ev.rfl' _ _))) Nj);have Nm:A.a7≠d:=λe=>D (by rw[<- e];simp[SA.own]);refine⟨_,O,A.x,CS,A.dx,_,_,O,NG.ob,T.aq,T.kP,O,A.a7,O,⟨bs,TW.of (by rw[Uf Nm];exact Nn)⟩,?_⟩;have N3:bs.length=S.ae.length:=Paired.length Nj;refine gv (K:=K) (a:=A.a7) (xs:=bs) (λi ZB H2=>∃Nv Nw Nx Ny Nz NA U L,ZB=[some (.ref A.x),some (.ref A.a3),some (.ref d),Nv,Nw,Nx,Ny,Nz,NA,U,L]/\
   fN CS CN H A N S d bs H2 ((S.ae.take i).foldl (ea N) ⟨S.aa,S.ab,[]⟩))
  ⟨none,none,none,none,none,none,none,none,O,NG,by rw[Uf Nm];exact Nn,KE,(Ev.rfl' _ _).new hd,⟨t.ab,t.aa,t.dm,λs q=>by simp at q,p8⟩⟩
  (λi ZB H2 _ ⟨_,_,_,_,_,_,_,_,_,q⟩=>TW.of q.es) ?_ ?_
 ·rintro i x ZB H2 hi ⟨Nv,Nw,Nx,Ny,Nz,NA,U,L,rfl,W1⟩;obtain⟨⟨g,run,call⟩,NL,⟨ta,rfl,Oa⟩⟩:=dP Nj hi;have y:run<N.runs.length:=t.ic _ (pi NL);generalize N5:(S.ae.take i).foldl (ea N) ⟨S.aa,S.ab,[]⟩=o at W1;have NN:(S.ae.take (i+1)).foldl (ea N) ⟨S.aa,S.ab,[]⟩=ea N o (g,run,call):=by
   rw[ck,NL,cz,nG,N5];rfl
  have Ob:H2 ta=some (.tup (aS (g,run,call))):=bW _ _ _ _ (W1.but.hide _ _ Oa);refine⟨ta,_,O,pm.of Ob,O,_,_,O,_,_,O,_,_,O,O,?_⟩;refine⟨_,O,A.x,CS,A.dx,_,_,O,W1.at_.ob,T.aq,T.o7,O,_,O,A.a6,_,_,_,O,O,TW.of W1.at_.aa,ri (by show run<o.aa.length;rw[W1.ok.aa];exact y),?_⟩;generalize Y:o.aa.getD run 0=m;refine⟨_,O,_,O,_,_,O,O,_,O,?_⟩;by_cases c:call<m
  ·rw[s2 (show((call:Nat):Int)<((m:Nat):Int) by omega)];refine ww ?_;have NS:call<o.aa.getD run 0:=by rw[Y];exact c
   have Ov:m<N.len run:=by rw[<- Y];exact W1.ok.dm run y
   have Nk:=W1.at_.K2 (o.aa.set run call);rw[ky]at Nk;refine⟨_,O,_,O,A.x,CS,A.dx,_,_,O,W1.at_.ob,T.aq,T.o7,O,_,O,A.a6,_,_,run,O,O,W1.at_.aa,l4 (by rw[FS];show run<o.aa.length;rw[W1.ok.aa];exact y),?_⟩;obtain⟨Ox,N9,sa,Nl,⟨Od,rfl,N8⟩,N_,NH⟩:=cF N1 (bN (l:=N.runs) (i:=run) y ([],[]));have Nr:∀b u,hide A.own H b=some u->∀o',(T0 H2 A.a6 o') b=some u:=λb u e o'=>by
    have q:=wv.mp (W1.but.hide _ _ e);have ne:b≠A.a6:=λz=>q.1 (by rw[z];simp[SA.own]);rw[Uf ne];exact q.2
   refine⟨_,O,A.x,CS,A.dx,_,_,O,Nk.ob,T.aq,T.kR,O,A.n,CN,NW,_,_,O,Nr _ _ h1 _,T.aN,T.iq,O,_,O,r,Oe,_,_,O,O,TW.of (Nr _ _ N0 _),lw N9,Od,_,O,pm.of (Nr _ _ N8 _),O,_,_,O,_,_,O,O,?_⟩;refine⟨_,O,_,_,O,O,_,O,_,_,O,O,_,_,O,?_,?_⟩
   ·have h':=t.ar.small.2.2.2 run;refine⟨?_,?_,?_,?_⟩
    ·show -(2^62)<=((call:Nat):Int)+1;omega
    ·show((call:Nat):Int)+1<2^62;omega
    ·show -(2^62)<=((m:Nat):Int)+1;omega
    ·show((m:Nat):Int)+1<2^62;omega
   ·have en:(((m:Nat):Int)+1-(((call:Nat):Int)+1)).toNat=m-call:=by omega
    refine kl (λq ZB C=>∃U L,ZB=[some (.ref A.x),some (.ref A.a3),some (.ref d),some (.int g),some (Sc run),some (Sc call),some (Sc m),some (.ref sa),some (.ref Nl),U,L]/\
      fN CS CN H A N S d bs C ((j3 (call+1) q).foldl (cE N run) {o with aa:=o.aa.set run call}))
     ⟨_,_,O,?_⟩ ?_ ?_
    ·have Oc:=gz p.nd 7 6 (by decide) (by decide) (by decide);have NV:d≠A.a6:=λe=>D (by rw[e];simp[SA.own]);refine⟨Nk,(Uf Oc).trans W1.es,(Uf NV).trans W1.rG,W1.but.put (by simp[SA.own]),{ab:=W1.ok.ab,aa:=by simp[W1.ok.aa],dm:=λNR N7=>?_,ai:=W1.ok.ai,nd:=W1.ok.nd}⟩;show(o.aa.set run call).getD NR 0<_;rw[Tw.gC (by rw[W1.ok.aa];exact y)];split
     ·rename_i q;rw[q];omega
     ·exact W1.ok.dm NR N7
    ·rintro q ZB C NK ⟨Og,Of,rfl,J⟩;have NK:q<m-call:=m7 NK en;generalize N6:(j3 (call+1) q).foldl (cE N run) {o with aa:=o.aa.set run call}=j at J;have NO:(j3 (call+1) (q+1)).foldl (cE N run) {o with aa:=o.aa.set run call}=cE N run j (call+1+q):=by
      rw[List.range'_1_concat,nG,N6];rfl
     have Np:call+1+q<N.len run:=by omega
     have Nq:=t.ar.ew run (call+1+q) y Np;have NX:(((call:Nat):Int)+1+((q:Nat):Int))=((call+1+q:Nat):Int):=by omega
     have Nu:∀b u,hide A.own H b=some u->C b=some u:=λb u e=>bW _ _ _ _ (J.but.hide _ _ e);show bG 9 (XV.int (((call:Nat):Int)+1+((q:Nat):Int))) _ _ _;rw[NX];have NZ:dI ((N.runs.getD run ([],[])).1.map Sc) ((call+1+q:Nat):Int)=some (Sc (N.stop run (call+1+q))):=ri Np;have NF:dI ((N.runs.getD run ([],[])).2.map XV.int) ((call+1+q:Nat):Int)=some (XV.int (N.comes run (call+1+q))):=jb (by rw[t.ar.comes run y];exact Np);refine⟨_,O,_,O,sa,_,_,_,O,O,TW.of (Nu _ _ N_),NZ,?_⟩;have NY:dI (j.ab.map XV.int) ((N.stop run (call+1+q):Nat):Int)=some (XV.int (j.ab.getD (N.stop run (call+1+q)) 0)):=jb (by rw[J.ok.ab];exact Nq);refine⟨_,O,_,O,Nl,_,_,_,O,O,TW.of (Nu _ _ NH),NF,_,O,_,O,A.a3,_,_,_,O,O,TW.of J.at_.ab,NY,_,_,O,O,_,O,?_⟩;by_cases c3:N.comes run (call+1+q)<j.ab.getD (N.stop run (call+1+q)) 0
     ·rw[s2 c3];refine ww ?_;have NC:=J.at_.K4 (j.ab.set (N.stop run (call+1+q)) (N.comes run (call+1+q)));rw[ky]at NC;refine⟨_,O,_,O,Nl,_,_,_,O,O,TW.of (Nu _ _ NH),NF,_,O,_,O,A.a3,_,_,N.stop run (call+1+q),O,O,J.at_.ab,l4 (by rw[FS,J.ok.ab];exact Nq),?_⟩;have NU:d≠A.a3:=λe=>D (by rw[e];simp[SA.own]);have NM:=gz p.nd 7 3 (by decide) (by decide) (by decide);have N4:(dk j.ai).length<Is:=by
       have:=HR N.n _ J.ok.nd J.ok.ai;have:=t.ar.small.1;unfold dk;rw[FS];exact Af (by omega)
      refine⟨_,O,_,O,d,_,O,fL.k (k:=it ((N.stop run (call+1+q):Nat):Int)) ((Uf NU).trans J.rG) N4,?_⟩;rw[ER];have ND:Ev A.own H (T0 C A.a3 (.lst ((j.ab.map XV.int).set (N.stop run (call+1+q)) (XV.int (N.comes run (call+1+q)))))):=J.but.put (by simp[SA.own]);have NI:=λo'=>r0 (o:=o') hd ND;have e:cE N run j (call+1+q)= {j with ab:=j.ab.set (N.stop run (call+1+q)) (N.comes run (call+1+q)),ai:=if N.stop run (call+1+q)∈j.ai then j.ai else j.ai++[N.stop run (call+1+q)]}:=by
       unfold cE;rw[No c3]
      refine⟨_,_,O,?_⟩;rw[NO];have NQ:=J.ok.step (run:=run) (bX:=call+1+q) Nq;rw[e]at NQ⊢;exact⟨NC.nY D (p.ar.same (NI _)) ((Uf NM).trans J.es) (aj (λ_ _ z=>z.same (NI _)) Nj),(Uf Nm).trans ((Uf NM).trans J.es),KE,λb u z N2=>by rw[Uf (v0 z hd)];exact ND b u z N2,NQ⟩
     ·rw[sw c3];refine v6 ?_;refine⟨_,_,O,?_⟩;rw[NO];have e:cE N run j (call+1+q)=j:=by unfold cE;rw[Ps c3]
      rw[e];exact J
    ·rintro ZB C ⟨Og,Of,rfl,J⟩;refine⟨_,_,_,_,_,_,_,_,O,?_⟩;rw[NN];have e:ea N o (g,run,call)=(j3 (call+1) (m-call)).foldl (cE N run) {o with aa:=o.aa.set run call}:=by
      unfold ea;rw[No NS,Y]
     rw[e,<-en];exact J
  ·rw[sw (show ¬((call:Nat):Int)<((m:Nat):Int) by omega)];refine v6 ?_;refine⟨_,_,_,_,_,_,_,_,O,?_⟩;rw[NN];have e:ea N o (g,run,call)=o:=by unfold ea;rw[Ps (by rw[Y];exact c)]
   rw[e];exact W1
 ·rintro ZB H2 ⟨Nv,Nw,Nx,Ny,Nz,NA,U,L,rfl,W1⟩;rw[N3,de]at W1;exact⟨_,O,k H2 d hd W1.rG W1.at_ W1.but⟩)
end Dv
namespace L2
open PySem
theorem yq {d:B}{o:Obj}{UF:List (wS×XV)}{g:TG}{tb:TS}{D:Ends}{ZB:St}{H:Hp}(Pv:Nat->St->Hp->Prop) (h0:Pv 0 ZB H) (l:∀i ZB H,i<=UF.length->Pv i ZB H->H d=some (.av o (.dK UF)))
  (n:∀i k v ZB H,UF[i]?=some (k,v)->Pv i ZB H->g (kV k) ZB H λb H2=>tb {D with nx:=Pv (i+1),ct:=Pv (i+1),bk:=D.nx} b H2) (hd:∀ZB H,Pv UF.length ZB H->D.nx ZB H):
  ∃W:Nat->Nat->St->Hp->Prop,(∃m,W 0 m ZB H)/\∀i m ZB H,W i m ZB H->
   ((lI d o UF).stop i H/\D.nx ZB H)\/((lI d o UF).go i H/\∃N:St->Hp->Prop,(∀a V,N a V->∃f,f<m/\W (i+1) f a V)/\∀x V,(lI d o UF).ez i H x V->g x ZB V λb H2=>tb {D with nx:=N,ct:=N,bk:=D.nx} b H2):=by(
refine⟨λi m ZB H=>m=UF.length-i/\i<=UF.length/\Pv i ZB H,⟨UF.length,by simp,g1 _,h0⟩,?_⟩;rintro i m ZB H ⟨rfl,hi,p⟩;have q:=l i ZB H hi p;by_cases c:i<UF.length
·refine .inr ⟨⟨q,c⟩,Pv (i+1),λa V r=>⟨UF.length-(i+1),by omega,O,c,r⟩,λx V y=>?_⟩;obtain⟨e,k,v,h,j⟩:=y;subst e j;exact n i k v ZB _ h p
·have e:i=UF.length:=by omega
 subst e;exact .inl ⟨⟨q,t1 _⟩,hd ZB H p⟩)
end L2
namespace Dv
open PySem L2 Tw
variable {P:pu}{w:rs}{K:xz}{mg:Str->Option Wp}{base:wn}{CP CN CS CL CG:B}
section
variable {N:Nt}{S:SS}
theorem xq (h:pp N S) {stop:Nat}(a:stop<N.n) (Ix ready:Int):(Tw.au N S stop Ix ready).ae.length+(Tw.au N S stop Ix ready).ah.sum=S.ae.length+S.ah.sum:=by(
have h':=h.aw stop Ix;have e:(aw S stop Ix).ae=S.ae/\(aw S stop Ix).ah=S.ah:=by unfold aw;split<;>exact⟨O,O⟩
unfold Tw.au eM;split
·have h1:=rq (d:=N.af.getD stop []) (ready:=ready) ((aw S stop Ix).ah.getD stop 0) (aw S stop Ix).ae;have h2:=sum_set (aw S stop Ix).ah stop (aM (N.af.getD stop []) ready ((aw S stop Ix).ah.getD stop 0) (aw S stop Ix).ae).1 (by rw[h'.ah];exact a);show(aM (N.af.getD stop []) ready ((aw S stop Ix).ah.getD stop 0) (aw S stop Ix).ae).2.length+((aw S stop Ix).ah.set stop (aM (N.af.getD stop []) ready ((aw S stop Ix).ah.getD stop 0) (aw S stop Ix).ae).1).sum=_;rw[<- e.1,<-e.2];omega
·rw[e.1,e.2])
theorem AX {Ix:Int}:∀(W:List (Nat×Int)) {S:SS},pp N S->(∀g m,(g,m)∈W->g<N.n)->(W.foldl (λS w=>Tw.au N S w.1 (Ix+w.2) (Ix+w.2)) S).ae.length+(W.foldl (λS w=>Tw.au N S w.1 (Ix+w.2) (Ix+w.2)) S).ah.sum=S.ae.length+S.ah.sum
 |[],S,h,_=>rfl
 |(g,m)::W,S,h,hw=>by
  rw[dF];have hg:=hw g m (lc ..);rw[AX W (h.au hg _ _) λg' a q=>hw g' a (on _ q)];exact xq h hg _ _
theorem pp.a8 (h:pp N S) {stop:Nat}(a:stop<N.n):pp N (Tw.a8 N S stop):=(h.au a _ _).bx a _
theorem I4 (h:pp N S) {stop:Nat}(a:stop<N.n):(Tw.a8 N S stop).ae.length+(Tw.a8 N S stop).ah.sum=S.ae.length+S.ah.sum:=
 (AX _ (h.au a _ _) λg m q=>h.ar.kk stop g m a q).trans (xq h a _ _)
theorem sv:∀(U:List Nat) {S:SS},pp N S->(∀u,u∈U->u<N.n)->pp N (U.foldl (Tw.a8 N) S)/\(U.foldl (Tw.a8 N) S).ae.length+(U.foldl (Tw.a8 N) S).ah.sum=S.ae.length+S.ah.sum
 |[],S,h,_=>⟨h,O⟩
 |u::U,S,h,hu=>by
  rw[dF];have hg:=hu u (lc ..);obtain⟨h1,h2⟩:=sv U (h.a8 hg) λv q=>hu v (on _ q);exact⟨h1,h2.trans (I4 h hg)⟩
def jv (N:Nt) (S:SS):SS:= {S with taken:=S.taken+1,aa:=(bt N S).aa,ab:=(bt N S).ab,ae:=[]}
theorem zg (h:pp N S):pp N (jv N S):=by
 have o:=rX h;exact {ar:=h.ar,ic:=λe q=>by simp[jv]at q,dm:=o.dm,arr:=h.arr,rides:=h.rides,ab:=o.ab,ready:=h.ready,ah:=h.ah,aa:=o.aa,bw:=h.bw,dj:=by have:=h.dj;show 0+S.ah.sum<=_;omega}
theorem u0 (h:pp N S):pp N (cj N S)/\(cj N S).ae.length+(cj N S).ah.sum=S.ah.sum:=by
 obtain⟨h1,h2⟩:=sv (bt N S).ai (zg h) (rX h).ai;exact⟨h1,h2.trans (by show 0+S.ah.sum=_;omega)⟩
end
section
variable {CS CN:B}{H:Hp}{A:SA}{N:Nt}{S:SS}
theorem ul.HF (h:ul CS CN H A N S) {p:B}(f:H p=none):ul CS CN (T0 (T0 H p (.lst [])) A.x (.ins CS A.dx (sf A.n A.a1 A.a2 A.a3 A.a4 A.a5 A.a6 p S.taken))) {A with a7:=p} N {S with ae:=[]}:=by(
have n:=gz h.nd;have d:∀i (hi:i<8),A.own[i]'hi≠p:=λi hi e=>mm h (eH (l:=A.own) (n:=i) hi) (by rw[e];exact f);have s:Tl (hide A.own H) (hide ({A with a7:=p}:SA).own (T0 (T0 H p (.lst [])) A.x (.ins CS A.dx (sf A.n A.a1 A.a2 A.a3 A.a4 A.a5 A.a6 p S.taken)))):=λb o e=>by
 obtain⟨c,j⟩:=wv.mp e;have g:b≠p:=v0 j f;have q:b≠A.x:=λz=>c (by rw[z];simp[SA.own]);refine wv.mpr ⟨λz=>?_,by rw[Uf q,Uf g];exact j⟩;simp only[SA.own,s1,hR,gI]at z c;rcases z with z|z|z|z|z|z|z|z
 ·exact c (.inl z)
 ·exact c (.inr (.inl z))
 ·exact c (.inr (.inr (.inl z)))
 ·exact c (.inr (.inr (.inr (.inl z))))
 ·exact c (.inr (.inr (.inr (.inr (.inl z)))))
 ·exact c (.inr (.inr (.inr (.inr (.inr (.inl z))))))
 ·exact c (.inr (.inr (.inr (.inr (.inr (.inr (.inl z)))))))
 ·exact g z
refine {ob:=KE,arr:=(Uf (n 1 0 (by decide) (by decide) (by decide))).trans ((Uf (d 1 (by decide))).trans h.arr),rides:=(Uf (n 2 0 (by decide) (by decide) (by decide))).trans ((Uf (d 2 (by decide))).trans h.rides),ab:=(Uf (n 3 0 (by decide) (by decide) (by decide))).trans ((Uf (d 3 (by decide))).trans h.ab),ready:=(Uf (n 4 0 (by decide) (by decide) (by decide))).trans ((Uf (d 4 (by decide))).trans h.ready),ah:=(Uf (n 5 0 (by decide) (by decide) (by decide))).trans ((Uf (d 5 (by decide))).trans h.ah),aa:=(Uf (n 6 0 (by decide) (by decide) (by decide))).trans ((Uf (d 6 (by decide))).trans h.aa),ae:=⟨[],?_,.nil⟩,nd:=?_,ar:=h.ar.same s}
·exact(Uf (b:=p) (a:=A.x) (Ne.symm (d 0 (by decide)))).trans KE
·have nd:=h.nd;show([A.x,A.a1,A.a2,A.a3,A.a4,A.a5,A.a6,p]:List B).Nodup;have e:([A.x,A.a1,A.a2,A.a3,A.a4,A.a5,A.a6,A.a7]:List B)=[A.x,A.a1,A.a2,A.a3,A.a4,A.a5,A.a6]++[A.a7]:=rfl;have m:([A.x,A.a1,A.a2,A.a3,A.a4,A.a5,A.a6]++[A.a7]:List B).Nodup:=nd;rw[hQ]at m;show([A.x,A.a1,A.a2,A.a3,A.a4,A.a5,A.a6]++[p]:List B).Nodup;rw[hQ];refine⟨m.1,by simp,λa r b k=>?_⟩;simp only[ss]at k;rw[k];intro z;have:a∈A.own:=by
  show a∈([A.x,A.a1,A.a2,A.a3,A.a4,A.a5,A.a6]++[A.a7]:List B);exact f_ _ r
 exact mm h this (by rw[z];exact f))
theorem AI {l:List B}{H:Hp}{d:B}{u o:HO}{v:XV}{xs:List XV}(hd:H d=some u) (c:∀ys,u≠.tup ys) (h:TupAt (hide l H) v xs):TupAt (hide l (T0 H d o)) v xs:=by(
obtain⟨a,e,q⟩:=h;obtain⟨f,b⟩:=wv.mp q;have ne:a≠d:=λz=>by rw[z,hd]at b;exact c _ (bT b)
exact⟨a,e,wv.mpr ⟨f,(Uf ne).trans b⟩⟩)
theorem oU {p b:B}(a:b∈({A with a7:=p}:SA).own):b∈A.own\/b=p:=by(
simp only[SA.own,s1,hR,gI]at a⊢;rcases a with z|z|z|z|z|z|z|z
·exact .inl (.inl z)
·exact .inl (.inr (.inl z))
·exact .inl (.inr (.inr (.inl z)))
·exact .inl (.inr (.inr (.inr (.inl z))))
·exact .inl (.inr (.inr (.inr (.inr (.inl z)))))
·exact .inl (.inr (.inr (.inr (.inr (.inr (.inl z))))))
·exact .inl (.inr (.inr (.inr (.inr (.inr (.inr (.inl z)))))))
·exact .inr z)
end
theorem Ej {H c:Hp}{A:SA}{p:B}(f:Ev A.own H c) (g:H p=none):Tl (hide A.own H) (hide ({A with a7:=p}:SA).own c):=λb u e=>by
 obtain⟨d,a⟩:=wv.mp e;refine wv.mpr ⟨λz=>?_,f b u a d⟩;rcases oU z with q|q
 ·exact d q
 ·rw[q,g]at a;cases a
def mJ (CS CN:B):Sp:=λvs H Q _=>∃(A:SA) (N:Nt) (S:SS),vs=[.ref A.x]/\ul CS CN H A N S/\pp N S/\
 ∀(V:Hp) (p:B),H p=none->ul CS CN V {A with a7:=p} N (cj N S)->Ev A.own H V->Q .ak V
theorem pk:pc ["self","reached","stop","minute"] ["self"] (sB uc):=nl rfl rfl rfl (by decide +kernel)
theorem IX {f NG NI NH:B}{fd NK NM NL:sc}(F:sn K "take_ride" "Search.take_ride" uc f fd) (T:a' K mg CS CN)
  (N2:Db P w K mg base AC 2 NG NK ["self","stop","minute","ready"] (mH CS CN)) (N6:Binds K NK ["self","stop","minute","ready"] []) (mA:b3 K CS "arrive" NG)
  (N4:Db P w K mg base AC 3 NI NM ["self","stop","minute"] (pG CS CN)) (N8:Binds K NM ["self","stop","minute"] []) (Oi:b3 K CS "walk_on" NI)
  (N3:Db P w K mg base AC 1 NH NL ["self"] (uF CS CN)) (N7:Binds K NL ["self"] []) (Oh:b3 K CS "get_off" NH):Db P w K mg base AC 4 f fd ["self"] (mJ CS CN):=by(
refine F.ok pk (λvs H Q E h=>?_) (λOu Oo outer s H vs Q E hr h=>?_)
·obtain⟨A,N,S,rfl,_⟩:=h;rfl
·obtain⟨A,N,S,rfl,y,Nu,k⟩:=h;refine⟨_,On (JJ (I 0) Fa F5)
  (On (tt (i:=1) pk.nd rfl (IN rfl) (kH (I 0) T.aq Oh N3 (hr.mono) N7 .nil wE))
  (On (bf (I 0) (f2 PP) rfl)
  (FM (sL (cw bD rfl (zx (I 1)) (v4 (i:=2) pk.nd rfl (IN rfl))
   (On (tt (i:=3) pk.nd rfl (IN rfl) (Ch wT (zn (I 0) rfl) (I 2) (λ_ _=>rfl)))
   (On (dL (an (I 0) T.aq mA N2 (hr.mono) N6 .nil wE (WF (I 2) (WF (I 3) (WF (kw bu (I 3) (Ch wT (zn (zn (I 0) rfl) rfl) (I 2) (λ_ _=>rfl))) PP)))))
   (FM (dL (an (I 0) T.aq Oi N4 hr N8 .nil wE (WF (I 2) (WF (I 3) PP)))))))))))),?_⟩
 refine⟨_,O,A.x,CS,A.dx,_,_,O,y.ob,T.aq,T.mB,O,_,_,O,O,_,_,y.ob,(by show 9<1000;decide),?_⟩;have NR:=y.K6 (S.taken+1);have N_:rc ("taken":Str) (XV.int ((S.taken:Int)+1)) (sf A.n A.a1 A.a2 A.a3 A.a4 A.a5 A.a6 A.a7 S.taken)=sf A.n A.a1 A.a2 A.a3 A.a4 A.a5 A.a6 A.a7 (S.taken+1):=rfl;rw[N_];have Od:pp N {S with taken:=S.taken+1}:= {Nu with};have Oc:bt N {S with taken:=S.taken+1}=bt N S:=rfl;refine⟨_,O,A.x,A.dx,_,O,NR.ob,O,A,N,_,O,NR,Od,λH2 d Nj Nv C NN=>?_⟩;rw[Oc]at Nv C;have hd:H d=none:=by
  have dx:d≠A.x:=λz=>by rw[z,KE]at Nj;cases Nj
  rw[Uf dx]at Nj;exact Nj
 have NF:d∉A.own:=λq=>mm y q hd;refine⟨g1 _,λp m=>?_⟩;have pd:p≠d:=λz=>by rw[z,Nv]at m;cases m
 have N1:A.x≠p:=λz=>by rw[<- z,C.ob]at m;cases m
 refine⟨_,O,A.x,CS,A.dx,_,O,(Uf N1).trans C.ob,T.aq,T.kP,(by show 9<1000;decide),?_⟩;have D:=C.HF m;have Oa:rc ("boardings":Str) (XV.ref p) (sf A.n A.a1 A.a2 A.a3 A.a4 A.a5 A.a6 A.a7 (S.taken+1))=sf A.n A.a1 A.a2 A.a3 A.a4 A.a5 A.a6 p (S.taken+1):=rfl;rw[show rc _ (XV.ref p) (sf A.n A.a1 A.a2 A.a3 A.a4 A.a5 A.a6 A.a7 (S.taken+1))=sf A.n A.a1 A.a2 A.a3 A.a4 A.a5 A.a6 p (S.taken+1) from Oa];generalize t:({A with a7:=p}:SA)=g at D;generalize Nr:T0 (T0 H2 p (.lst [])) A.x (.ins CS A.dx (sf A.n A.a1 A.a2 A.a3 A.a4 A.a5 A.a6 p (S.taken+1)))=Nq;have D:ul CS CN Nq g N (jv N S):=by rw[<- Nr];exact D
 have Np:g.x=A.x:=by rw[<- t]
 have n1:g.n=A.n:=by rw[<- t]
 have Nl:H p=none:=by
  cases q:H p with
  |none=>rfl
  |some o=>
   have Ol:p∉A.own:=λz=>mm C z m;have Om:p≠A.x:=Ne.symm N1;have:=NN p o (by rw[Uf Om];exact q) Ol;rw[m]at this;cases this
 have dx:d≠A.x:=λz=>NF (by rw[z];simp[SA.own]);have U:d∉g.own:=λz=>by
  rw[<- t]at z;rcases oU z with q|q
  ·exact NF q
  ·exact pd q.symm
 have NC:Ev A.own H Nq:=λb u e l=>by
  have ND:b≠A.x:=λz=>l (by rw[z];simp[SA.own]);rw[<- Nr,Uf ND,Uf (v0 e Nl)];exact NN b u (by rw[Uf ND];exact e) l
 have NU:Nq d=some (.dK (dk (bt N S).ai)):=by rw[<- Nr,Uf dx,Uf (Ne.symm pd)];exact Nv
 have N0:∀b,b∈g.own->b∈A.own\/H b=none:=λb l=>by
  rw[<- t]at l;rcases oU l with q|q
  ·exact .inl q
  ·exact .inr (by rw[q];exact Nl)
 have NW:∀a,Ev A.own H a->gt CN (hide g.own a) g.n N:=λa l=>by
  rw[n1,<-t];exact y.ar.same (Ej l Nl)
 have Nn:∀ {a:Hp}{o:HO},Ev A.own H a->Ev A.own H (T0 a d o):=λ{a o} l b u e Of=>by rw[Uf (v0 e hd)];exact l b u e Of
 refine⟨d,_,NU,True.intro,λNY=>?_⟩;refine⟨_,O,d,NY,O,.inl ⟨_,KE,?_⟩⟩;have NZ:=rX Nu;have eT:(dk (bt N S).ai).length=(bt N S).ai.length:=by unfold dk;rw[FS]
 refine yq (λi ZB a=>∃Ny Nz,ZB=[some (.ref A.x),some (.ref d),Ny,Nz]/\ul CS CN a g N (((bt N S).ai.take i).foldl (a8 N) (jv N S))/\a d=some (.av NY (.dK (dk (bt N S).ai)))/\Ev A.own H a)
  ⟨none,none,O,?_,KE,Nn NC⟩ (λi ZB a _ ⟨_,_,_,_,q,_⟩=>q) ?_ ?_
 ·obtain⟨es,Nw,Nx⟩:=D.ae;exact D.nY U (NW _ (Nn NC)) Nw (aj (λ_ _ z=>AI NU (λys NA=>by cases NA) z) Nx)
 ·rintro i Og v ZB a hi ⟨Ny,Nz,rfl,j,Nk,L⟩;obtain⟨st,NV,Ob⟩:∃st,(bt N S).ai[i]?=some st/\Og=it ((st:Nat):Int):=by
   unfold dk at hi;rw[pr]at hi;cases q:(bt N S).ai[i]? with
   |none=>rw[q]at hi;cases hi
   |some st=>rw[q]at hi;cases hi;exact⟨st,O,O⟩
  subst Ob;have J:st<N.n:=NZ.ai st (pi NV);obtain⟨Y,_⟩:=sv ((bt N S).ai.take i) (zg Nu) λu q=>NZ.ai u (nA q);have Oj:((bt N S).ai.take (i+1)).foldl (a8 N) (jv N S)=a8 N (((bt N S).ai.take i).foldl (a8 N) (jv N S)) st:=by
   rw[ck,NV,cz,nG];rfl
  rw[Oj];generalize ((bt N S).ai.take i).foldl (a8 N) (jv N S)=N5 at j Y;have Nm:=j.ob;rw[Np]at Nm;obtain⟨N9,c,r,og,Ov,Ow,OG,OF,ds,fs,h1,h2,Oy,Oz,OA,OB,OC,OD,OE,Ox⟩:=j.ar.ex;have sub:=bW g.own a;refine⟨_,O,A.x,CS,_,_,_,O,Nm,T.aq,T.o_,O,_,O,g.a3,_,_,_,O,O,TW.of j.ab,jb (by rw[Y.ab];exact J),?_⟩;refine⟨_,O,A.x,_,_,O,Nm,O,_,O,_,O,_,O,_,O,A.x,CS,_,_,_,O,Nm,T.aq,T.kR,O,g.n,CN,N9,_,_,O,sub _ _ h1,T.aN,T.oJ,O,_,O,c,_,_,_,O,O,TW.of (sub _ _ h2),jb J,_,_,O,O,g,N,N5,st,_,_,by rw[Np];rfl,j,Y,J,λOq NS NO=>?_⟩;have NX:=NS.ob;rw[Np]at NX;refine⟨_,O,A.x,_,_,O,NX,O,_,O,_,O,g,N,_,st,_,by rw[Np];rfl,NS,Y.au J _ _,J,λOt Oe NQ=>?_⟩;exact⟨_,_,O,Oe,NQ d _ (NO d _ Nk U) U,(L.tr NO N0).tr NQ N0⟩
 ·rintro ZB a ⟨Ny,Nz,rfl,j,Nk,L⟩;refine⟨Nk,?_⟩;rw[eT,de]at j;refine k _ p Nl ?_ (Nn L);rw[t];obtain⟨es,Nw,Nx⟩:=j.ae;exact j.nY U (NW _ (Nn L)) Nw (aj (λ_ _ z=>AI Nk (λys NA=>by cases NA) z) Nx))
def aI (N:Nt) (S:SS):Nat->SS
 |0=>S
 |k+1=>cj N (aI N S k)
def oz (S:SS):Nat:=S.ah.sum+(if S.ae=[]then 0 else 1)
theorem fm {N:Nt}{S:SS}(h:pp N S):∀k,pp N (aI N S k)
 |0=>h
 |k+1=>(u0 (fm h k)).1
def pF (CS CN:B):Sp:=λvs H Q _=>∃(A:SA) (N:Nt) (S:SS),vs=[.ref A.x]/\ul CS CN H A N S/\pp N S/\
 ∀(V:Hp) (UV:SA) (k:Nat),UV.x=A.x->UV.n=A.n->(∀b,b∈UV.own->b∈A.own\/H b=none)->ul CS CN V UV N (aI N S k)->(aI N S k).ae=[]->Ev A.own H V->Q .ak V
theorem KY:pc ["self"] ["self"] (sB ue):=nl rfl rfl rfl (by decide +kernel)
theorem IZ {f i:B}{fd l:sc}(F:sn K "ride_to_the_end" "Search.ride_to_the_end" ue f fd) (T:a' K mg CS CN)
  (GT:Db P w K mg base AC 4 i l ["self"] (mJ CS CN)) (y:Binds K l ["self"] []) (Nm:b3 K CS "take_ride" i):Db P w K mg base AC 5 f fd ["self"] (pF CS CN):=by(
refine F.ok KY (λvs H Q E h=>?_) (λNr Np outer s H vs Q E hr h=>?_)
·obtain⟨A,N,S,rfl,_⟩:=h;rfl
·obtain⟨A,N,S,rfl,Y,U,k⟩:=h;refine⟨_,FM (kK bD (he ml (aV bV (by rfl) T.len bR (WF (zn (I 0) rfl) PP)) Fa (lm _))
  (FM (dL (kH (I 0) T.aq Nm GT hr y .nil wE)))),?_⟩
 refine⟨λm ZB H2=>∃(UV:SA) (j:Nat),ZB=[some (.ref A.x)]/\(UV.x=A.x/\UV.n=A.n)/\ul CS CN H2 UV N (aI N S j)/\Ev A.own H H2/\(∀b,b∈UV.own->b∈A.own\/H b=none)/\m=oz (aI N S j),⟨_,A,0,rfl,⟨rfl,rfl⟩,Y,Ev.rfl' _ _,λb g=>.inl g,O⟩,?_⟩;rintro m ZB H2 ⟨UV,j,rfl,⟨d,u⟩,a,e,own,rfl⟩;have r:=fm U j;obtain⟨es,D,J⟩:=a.ae;have t:es.length=(aI N S j).ae.length:=Paired.length J;have ob:=a.ob;rw[d]at ob;refine⟨_,O,A.x,CS,_,_,_,O,ob,T.aq,T.kP,O,UV.a7,es,O,.inl (TW.of D),_,_,O,O,_,O,?_⟩;by_cases c:0<es.length
 ·rw[s2 (show(0:Int)<(es.length:Int) by omega)];have C:(aI N S j).ae≠[]:=λz=>by rw[z]at t;rw[t]at c;exact absurd c (gM _)
  refine ww ⟨λNn V=>∃Nl,Nl<oz (aI N S j)/\_,λNn V q=>q,?_⟩;refine⟨_,O,A.x,_,_,O,ob,O,UV,N,_,by rw[d];rfl,a,r,λNq p Nk Nj L=>?_⟩;obtain⟨Nu,hf⟩:=u0 r;refine⟨oz (cj N (aI N S j)),?_,{UV with a7:=p},j+1,O,⟨d,u⟩,Nj,e.tr L own,λb g=>?_,O⟩
  ·unfold oz;rw[Ps C];split
   ·omega
   ·rename_i z;have:0<(cj N (aI N S j)).ae.length:=List.length_pos_iff.mpr z;omega
  ·rcases oU g with z|z
   ·exact own b z
   ·subst z;cases q:H b with
    |none=>exact .inr rfl
    |some o=>
     by_cases hm:b∈A.own
     ·exact .inl hm
     ·have:=e b o q hm;rw[Nk]at this;cases this
 ·rw[sw (show ¬(0:Int)<(es.length:Int) by omega)];refine v6 ?_;refine k H2 UV j d u own a ?_ e;exact A'.mp (by omega))
end Dv
namespace L2
open PySem
theorem ox {K:xz}{a:B}{xs:List XV}{g:TG}{te:TE}{vs:List Nat}{ZB:St}{H1:Hp}{D:B}{k:Hp->Prop}(f:XV->XV) (l:H1 D=none) (o:TW K H1 a xs) (hz:xs.length<=Is)
  (step:∀x,x∈xs->∀(H:Hp) (Q:VK),Tl H1 H->Q (f x) H->g x (np ZB vs) H λc H2=>np c vs=np ZB vs/\te c H2 Q) (post:k (T0 H1 D (.lst (xs.map f)))):
  ∃W:Nat->Nat->Hp->Prop,(∃m,W 0 m (T0 H1 D (.lst [])))/\∀i m H,W i m H->
   ((cD K a).stop i H/\k H)\/((cD K a).go i H/\∃d:Hp->Prop,(∀V,d V->∃n,n<m/\W (i+1) n V)/\∀x V,(cD K a).ez i H x V->g x (np ZB vs) V λc H2=>np c vs=np ZB vs/\iB c H2 λb h=>
    if b=true then te c h λy j=>∃wl,j D=some (.lst wl)/\wl.length<Is/\d (T0 j D (.lst (wl++[y])))else d h):=by(
refine l7 (xs:=xs) (λi H=>H=T0 H1 D (.lst ((xs.take i).map f))) (by simp) (λi H _ (e:H=_)=>by rw[e];exact o.same (Tl.new l)) ?_ (λH (e:H=_)=>by rw[e,de];exact post);rintro i x H hi rfl;have p:i<xs.length:=(ay.mp hi).1;refine step x (pi hi) _ _ (Tl.new l) ⟨_,KE,by rw[FS,aK];omega,?_⟩;rw[gF]
congr 2
rw[ck,hi,cz,bA,List.map_singleton])
end L2
namespace Dv
open PySem L2 Tw
variable {P:pu}{w:rs}{K:xz}{mg:Str->Option Wp}{base:wn}{CP CN CS CL CG:B}
def sM (K:xz):List XV->Hp->VK->Prop:=λxs H Q=>∃p ys,xs=[.ref p]/\(TW K H p ys\/pm K H p ys)/\Q (.int ys.length) H
theorem xR {X:Cx}:gV X (.builtin "len") (sM X.K):=bV
def aY (mg:Str->Option Wp) (x:Str) (i:Int):Prop:=∃t,mg x=some (.int i t)
theorem nm {X:Cx}{x:Str}{i:Int}{pos:Pos}(h:aY X.mg x i) (hg:Gl X x) (hd:(x==("__debug__":Str))=false:=by decide):PE X (.Name x pos) (tC (.int i)):=by
 obtain⟨t,e⟩:=h;exact Ju hg e ⟨t,O⟩ hd
theorem oo {ZB:St}{H:Hp}{D:Ends}{x C dx:B}{fs:List (Str×XV)}{c:XV}{n j:Nat}{fl:Str}(h0:ZB[0]?=some (some (.ref x))) (g:ZB[j]?=some (some (Sc n))) (b:H x=some (.ins C dx fs)) (hn:n<=1000) (cl:cp K C) (i:ao K C fl) (hf:fs.length<1000)
  (k:∀(V:Hp) (q:B),Ev [x] H V->H q=none->V q=some (.lst (g2 n c))->V x=some (.ins C dx (rc fl (.ref q) fs))->D.nx ZB V):
  z4 K (bQ 0) (hy zF (uV (pN (tC c) jE)) (bQ j)) fl D ZB H:=by(
refine⟨by show 1<=Is;decide,λp d=>⟨_,g,p,_,[c],O,O,KE,by omega,by omega,?_,λq a=>?_⟩⟩
·have:(n:Int).toNat=n:=by omega
 rw[this];show 1*n<=Is;have:=Af hn;omega
·have r:x≠p:=v0 b d;have l:q≠p:=λz=>by rw[z,KE]at a;cases a
 have e:H q=none:=by rw[Uf l]at a;exact a
 have f:x≠q:=v0 b e;refine⟨_,h0,x,C,dx,fs,O,(Uf f).trans ((Uf r).trans b),cl,i,hf,?_⟩;refine k _ q ((((Ev.rfl' _ _).new d).new (o:=.lst _) a).put (by simp)) e ?_ KE;rw[Uf (Ne.symm f),KE];have:(n:Int).toNat=n:=by omega
 rw[this]
 congr 2
 have:∀m:Nat,(g2 m [c]).flatten=g2 m c:=λm=>by
  induction m with
  |zero=>rfl
  |succ m h=>rw[iW,jZ,h,iW];rfl
 exact this n)
theorem gr {ZB:St}{H:Hp}{D:Ends}{x C dx q:B}{fs:List (Str×XV)}{l:List XV}{fl:Str}(h0:ZB[0]?=some (some (.ref x))) (c:H x=some (.ins C dx fs)) (b:H q=none) (cl:cp K C) (e:ao K C fl) (hf:fs.length<1000)
  (k:∀(V:Hp),Ev [x] H V->V q=some (.lst l)->V x=some (.ins C dx (rc fl (.ref q) fs))->D.nx ZB V):
  bQ 0 ZB (T0 H q (.lst l)) λf H2=>∃a C dx fs,f=.ref a/\H2 a=some (.ins C dx fs)/\cp K C/\ao K C fl/\fs.length<1000/\D.nx ZB (T0 H2 a (.ins C dx (rc fl (.ref q) fs))):=by
 have d:x≠q:=v0 c b;refine⟨_,h0,x,C,dx,fs,O,(Uf d).trans c,cl,e,hf,k _ (((Ev.rfl' _ _).new b).put (by simp)) ?_ KE⟩;rw[Uf (Ne.symm d),KE]
def iz (CS CN:B):Sp:=λvs H Q _=>∃(x dx n:B) (N:Nt),vs=[.ref x,.ref n]/\H x=some (.ins CS dx [])/\gt CN (hide [x] H) n N/\cX N/\
 ∀(V:Hp) (A:SA),A.x=x->A.n=n->ul CS CN V A N (gl N)->Ev [x] H V->(∀b,b∈A.own->b=x\/H b=none)->Q .ak V
theorem jB:pc ["self","network","stop_count","departures","stops","comes"] ["self","network"] (sB t_):=nl rfl rfl rfl (by decide +kernel)
theorem e8 {N:Nt}(h:cX N):pp N (gl N):=by(
refine {ar:=h,ic:=λe q=>by simp[gl]at q,dm:=λr hr=>?_,arr:=by simp[gl],rides:=by simp[gl],ab:=by simp[gl],ready:=by simp[gl],ah:=by simp[gl,h.af],aa:=by simp[gl],bw:=λs a=>?_,dj:=?_}
·have e:(gl N).aa.getD r 0=N.len r-1:=by
  show(N.runs.map λr=>r.1.length-1).getD r 0=_;simp only[nw,pr,Nt.len];rw[im hr];rfl
 rw[e];have:=h.pos r hr;omega
·show(N.af.map cm).getD s 0<=_;simp only[nw,pr];rw[im (by rw[h.af];exact a)];exact t1 _
·have:=h.small.2.1;show 0+(N.af.map cm).sum<=_;omega)
theorem kF {a b:Type}{R:a->b->Prop}{x:a}:∀ {xs:List a}{ys:List b},Paired R xs ys->x∈xs->∃y,y∈ys/\R x y
 |_,_,.nil,h=>by simp at h
 |_,_,.cons r t,h=>by
  rcases s1.mp h with rfl|h
  ·exact⟨_,lc ..,r⟩
  ·obtain⟨y,h1,h2⟩:=kF t h;exact⟨y,on _ h1,h2⟩
theorem zm {a b c:Type}{R:a->b->Prop}{f:a->c}{g:b->c}(h:∀x y,R x y->f x=g y):∀ {xs:List a}{ys:List b},Paired R xs ys->xs.map f=ys.map g
 |_,_,.nil=>rfl
 |_,_,.cons r t=>by rw[na,na,h _ _ r,zm h t]
structure d5 (x:B) (H V:Hp) (l:List B):Prop where
 but:Ev [x] H V
 nd:l.Nodup
 there:∀b,b∈l->V b≠none
 fresh:∀b,b∈l->b=x\/H b=none
theorem d5.start {x:B}{H:Hp}(h:H x≠none):d5 x H H [x]:=⟨Ev.rfl' _ _,by simp,λb a=>by simp at a;rw[a];exact h,λb a=>.inl (by simpa using a)⟩
theorem d5.put {x:B}{H H1:Hp}{l:List B}(h:d5 x H H1 l) (o:HO):d5 x H (T0 H1 x o) l:=⟨h.but.put (by simp),h.nd,λb a=>by
 by_cases e:b=x
 ·rw[e,KE];simp
 ·rw[Uf e];exact h.there b a,h.fresh⟩
theorem d5.free {x q:B}{H H1:Hp}{l:List B}(h:d5 x H H1 l) (b:H1 x≠none) (a:H1 q=none):H q=none:=by(
cases e:H q with
|none=>rfl
|some o=>
 have ne:q≠x:=λz=>b (by rw[<- z];exact a);rw[h.but q o e (by simpa using ne)]at a;cases a)
theorem d5.step {x q:B}{H H1 H2:Hp}{l:List B}(h:d5 x H H1 l) (d:Ev [x] H1 H2) (j:H1 x≠none) (k:H2 x≠none) (f:H1 q=none) (i:H2 q≠none):d5 x H H2 (l++[q]):=by(
refine⟨h.but.tr d λb c=>.inl c,?_,λb c=>?_,λb c=>?_⟩
·rw[hQ];refine⟨h.nd,by simp,λa g b c=>?_⟩;simp only[ss]at c;rw[c];intro z;exact h.there a g (by rw[z];exact f)
·rcases f1.mp c with c|c
 ·by_cases e:b=x
  ·rw[e];exact k
  ·cases z:H1 b with
   |none=>exact absurd z (h.there b c)
   |some o=>rw[d b o z (by simpa using e)];simp
 ·simp only[ss]at c;rw[c];exact i
·rcases f1.mp c with c|c
 ·exact h.fresh b c
 ·simp only[ss]at c;rw[c];exact .inr (h.free j f))
theorem d5.hide {x:B}{H V:Hp}{l:List B}(h:d5 x H V l):Tl (hide [x] H) (L2.hide l V):=λb o e=>by
 obtain⟨c,a⟩:=wv.mp e;refine wv.mpr ⟨λz=>?_,h.but b o a c⟩;rcases h.fresh b z with q|q
 ·exact c (by simp[q])
 ·rw[q]at a;cases a
theorem li {H:Hp}{a:B}{o:HO}(h:H a=some o):H a≠none:=by rw[h];simp
def jn (H:Hp) (v:XV):XV:=match v with
 |.ref a=>match H a with
  |some (.lst es)=>Sc es.length
  |_=>.ak
 |_=>.ak
def kO (H:Hp) (v:XV):XV:=match v with
 |.ref a=>match H a with
  |some (.tup (.ref s::_))=>match H s with
   |some (.lst es)=>.int ((es.length:Int)-1)
   |_=>.ak
  |_=>.ak
 |_=>.ak
theorem IU {f:B}{fd:sc}(F:sn K "__init__" "Search.__init__" t_ f fd) (T:a' K mg CS CN) (Nz:aY mg "NEVER" 1000000):Db P w K mg base AC 1 f fd ["self","network"] (iz CS CN):=by(
refine F.ok jB (λvs H Q E h=>?_) (λOL OH outer s H vs Q E hr h=>?_)
·obtain⟨x,dx,n,N,rfl,_⟩:=h;rfl
·obtain⟨x,dx,n,N,rfl,N3,N0,Nl,k⟩:=h;obtain⟨NA,c,r,og,d,OM,NN,OS,ds,fs,h1,h2,NY,NK,NZ,NL,OO,OP,OQ,ON⟩:=N0.ex;have sub:=bW [x] H;refine⟨_,On (tt (i:=2) jB.nd rfl (IN rfl) (aV bV (by rfl) T.len bR (WF (zn (I 1) rfl) PP)))
  (On (bf (I 0) (I 1) rfl)
  (On (bf (I 0) Fa rfl)
  (On (bf (I 0) (kw oS (f2 (WF (nm Nz rfl) PP)) (I 2)) rfl)
  (On (bf (I 0) (kw oS (f2 (WF Fa PP)) (I 2)) rfl)
  (On (bf (I 0) (kw oS (f2 (WF (nm Nz rfl) PP)) (I 2)) rfl)
  (On (bf (I 0) (kw oS (f2 (WF (nm Nz rfl) PP)) (I 2)) rfl)
  (On (bf (I 0) (iu (own:=[("departures",3)]) rfl jB.nd (cf (zn (I 1) rfl)) (e9 rfl) (λ_ _ _ _ _=>v4 (i:=3) jB.nd rfl (IN rfl)) (λ_ _ _ _ _=>fW) (λ_ _ _ _ _=>aV (r:=sM K) xR (by rfl) T.len bR (WF (I 3) PP))) rfl)
  (On (bf (I 0) (iu (own:=[("stops",4),("comes",5)]) (g:=rW K 2 (ko (bG 4) (ko (bG 5) rT))) rfl jB.nd (cf (zn (I 1) rfl)) (e9 rfl) (λ_ _ _ _ _=>cb rfl (re (v4 (i:=4) jB.nd rfl (IN rfl) (dE rfl)) (re (v4 (i:=5) jB.nd rfl (IN rfl) (dE rfl)) cc))) (λ_ _ _ _ _=>fW) (λ_ _ _ _ _=>kw gy (aV (r:=sM K) xR (by rfl) T.len bR (WF (I 4) PP)) Fa)) rfl)
  (FM (bf (I 0) (f2 PP) rfl)))))))))),?_⟩
 refine⟨_,O,n,CN,NA,_,_,O,sub _ _ h1,T.aN,T.oJ,O,c,_,O,.inl (TW.of (sub _ _ h2)),?_⟩;have en:((N.chg.map XV.int).length:Int)=((N.n:Nat):Int):=by rw[FS];rfl
 rw[en];have Nm:N.n<=1000:=Nl.small.1;refine⟨_,O,_,O,x,CS,dx,[],O,N3,T.aq,T.kR,by decide,?_⟩;refine⟨_,O,x,CS,dx,_,O,KE,T.aq,T.mB,by show 1<1000;decide,?_⟩;have N_:=((d5.start (li N3)).put (.ins CS dx (rc "network" (.ref n) []))).put (.ins CS dx (rc "taken" (.int 0) (rc "network" (.ref n) [])));have x0:(T0 (T0 H x (.ins CS dx (rc "network" (.ref n) []))) x (.ins CS dx (rc "taken" (.int 0) (rc "network" (.ref n) [])))) x=some _:=KE;refine oo rfl rfl KE Nm T.aq T.dv (by show 2<1000;decide) λH1 Oz Oh n1 NC Nq=>?_;have Oa:=N_.step Oh (li x0) (li Nq) n1 (li NC);refine oo rfl rfl Nq Nm T.aq T.mz (by show 3<1000;decide) λH2 OA NV n2 ND Nr=>?_;have Ob:=Oa.step NV (li Nq) (li Nr) n2 (li ND);refine oo rfl rfl Nr Nm T.aq T.o_ (by show 4<1000;decide) λOI OB Ny n3 NF Nu=>?_;have Oc:=Ob.step Ny (li Nr) (li Nu) n3 (li NF);refine oo rfl rfl Nu Nm T.aq T.o9 (by show 5<1000;decide) λNj OC Nk n4 NG Nv=>?_;have NR:=Oc.step Nk (li Nu) (li Nv) n4 (li NG);have U:∀b o,hide [x] H b=some o->Nj b=some o:=λb o e=>let ⟨NO,NQ⟩:=wv.mp e;NR.but b o NQ NO;refine⟨_,O,n,CN,NA,_,_,O,U _ _ h1,T.aN,T.hj,O,d,O,⟨ds,TW.of (U _ _ NZ)⟩,λOD n5=>?_⟩;have Ou:ds.length=N.af.length:=Paired.length NL;have sz:∀ {m:Nat},m<=1000000->m<=Is:=λh=>d1 (small h);refine ox (jn Nj) n5 (TW.of (U _ _ NZ)) (sz (by rw[Ou,Nl.af];omega)) (λv hv u OJ OG N4=>?_) ?_
 ·obtain⟨y,_,es,⟨a,rfl,l⟩,_⟩:=kF NL hv;have N1:=U _ _ l;refine⟨O,_,O,a,es,O,.inl (TW.of (OG _ _ N1)),?_⟩;have:jn Nj (.ref a)=Sc es.length:=by simp[jn,N1]
  rw[this]at N4;exact N4
 have Ol:ds.map (jn Nj)=(N.af.map cm).map Sc:=by
  rw[be];refine zm (λv y ⟨es,⟨a,e,l⟩,Ox⟩=>?_) NL;subst e;simp only[jn,U _ _ l,w5];rw[Paired.length Ox]
 rw[Ol];refine gr rfl Nv n5 T.aq T.uf (by show 6<1000;decide) λu J NH Nw=>?_;have NS:=NR.step J (li Nv) (li Nw) n5 (li NH);have j:∀b o,hide [x] H b=some o->u b=some o:=λb o e=>let ⟨NO,NQ⟩:=wv.mp e;NS.but b o NQ NO;refine⟨_,O,n,CN,NA,_,_,O,j _ _ h1,T.aN,T.iq,O,r,O,⟨NN,TW.of (j _ _ NY)⟩,λOE n6=>?_⟩;have Ov:NN.length=N.runs.length:=Paired.length NK;refine ox (kO u) n6 (TW.of (j _ _ NY)) (sz (by rw[Ov];exact Nl.small.2.2.1)) (λv hv Oe OK N7 N5=>?_) ?_
 ·obtain⟨y,_,sa,Oi,⟨a,rfl,l⟩,Nn,OR⟩:=kF NK hv;refine⟨a,_,O,pm.of (N7 _ _ (j _ _ l)),O,_,_,O,_,_,O,O,O,_,O,sa,_,O,.inl (TW.of (N7 _ _ (j _ _ Nn))),_,_,O,O,?_⟩;have:kO u (.ref a)=.int (((y.1.map Sc).length:Int)-1):=by simp[kO,j _ _ l,j _ _ Nn]
  rw[this]at N5;exact N5
 have Om:NN.map (kO u)=(N.runs.map λr=>r.1.length-1).map Sc:=by
  rw[be];have pos:∀y,y∈N.runs->0<y.1.length:=λy Oq=>by
   obtain⟨i,hi,e⟩:=Tw.mem_getD Oq ([],[]);have:=Nl.pos i hi;unfold Nt.len at this;rw[e]at this;exact this
  have Og:∀ {xs:List XV}{ys:List (List Nat×List Int)},(∀y,y∈ys->0<y.1.length)->Paired (λv (N9:List Nat×List Int)=>∃s NW,TupAt (hide [x] H) v [.ref s,.ref NW]/\hide [x] H s=some (.lst (N9.1.map Sc))/\hide [x] H NW=some (.lst (N9.2.map XV.int))) xs ys->xs.map (kO u)=ys.map (Sc∘λr=>r.1.length-1):=by
   intro xs ys N2 Oy
   induction Oy with
   |nil=>rfl
   |@cons v y xs ys r t Ot=>
    rw[na,na,Ot λz hz=>N2 z (on _ hz)]
    congr 1
    obtain⟨sa,Oi,⟨a,rfl,l⟩,Nn,_⟩:=r;have:=N2 y (lc ..);simp only[kO,j _ _ l,j _ _ Nn,w5,Sc,FS]
    congr 1
    omega
  exact Og pos NK
 rw[Om];refine gr rfl Nw n6 T.aq T.o7 (by show 7<1000;decide) λOe A NI Nx=>?_;have Od:=NS.step A (li Nw) (li Nx) n6 (li NI);refine⟨g1 _,λOF n7=>gr rfl Nx n7 T.aq T.kP (by show 8<1000;decide) λOf p NX N8=>?_⟩;have Y:=Od.step p (li Nx) (li N8) n7 (li NX);have nx:∀ {q:B}{NU:Hp}{o:HO},NU q=some o->(∃C dx fs,NU x=some (.ins C dx fs))->(∀C dx fs,o≠.ins C dx fs)->q∉[x]:=λe ⟨C,dx,fs,Oj⟩ Oo=>by
  simp only[ss];intro z;rw[z,Oj]at e;exact Oo _ _ _ (bT e).symm
 have D:=nx NC ⟨_,_,_,Nq⟩ (λ_ _ _ z=>by cases z);have L:=nx ND ⟨_,_,_,Nr⟩ (λ_ _ _ z=>by cases z);have Np:=nx NF ⟨_,_,_,Nu⟩ (λ_ _ _ z=>by cases z);have NM:=nx NG ⟨_,_,_,Nv⟩ (λ_ _ _ z=>by cases z);have N6:=nx NH ⟨_,_,_,Nw⟩ (λ_ _ _ z=>by cases z);have Ow:=nx NI ⟨_,_,_,Nx⟩ (λ_ _ _ z=>by cases z);refine k Of ⟨x,dx,n,Oz,OA,OB,OC,OD,OE,OF⟩ rfl rfl ⟨N8,?_,?_,?_,?_,?_,?_,⟨[],NX,.nil⟩,Y.nd,N0.same Y.hide⟩ Y.but Y.fresh
 ·refine(p _ _ (A _ _ (J _ _ (Nk _ _ (Ny _ _ (NV _ _ NC D) D) D) D) D) D).trans ?_;simp[gl,Gc]
 ·refine(p _ _ (A _ _ (J _ _ (Nk _ _ (Ny _ _ ND L) L) L) L) L).trans ?_;simp[gl,Sc]
 ·refine(p _ _ (A _ _ (J _ _ (Nk _ _ NF Np) Np) Np) Np).trans ?_;simp[gl,Gc]
 ·refine(p _ _ (A _ _ (J _ _ NG NM) NM) NM).trans ?_;simp[gl,Gc]
 ·exact p _ _ (A _ _ NH N6) N6
 ·exact p _ _ NI Ow)
abbrev ua:v1:=nb 47
def mI (CS CN:B):Sp:=λvs H Q _=>∃(A:SA) (N:Nt) (S:SS) (stop:Nat) (Ix:Int),vs=[.ref A.x,Sc stop,.int Ix]/\ul CS CN H A N S/\pp N S/\stop<N.n/\
 ∀V:Hp,ul CS CN V A N (Tw.bx N (Tw.au N S stop Ix Ix) stop Ix)->Ev A.own H V->Q .ak V
theorem KG:pc ["self","start","minute"] ["self","start","minute"] (sB tn):=nl rfl rfl rfl (by decide +kernel)
theorem Ic {f c d:B}{fd e g:sc}(F:sn K "begin" "Search.begin" tn f fd) (T:a' K mg CS CN)
  (m:Db P w K mg base AC 2 c e ["self","stop","minute","ready"] (mH CS CN)) (o:Binds K e ["self","stop","minute","ready"] []) (mA:b3 K CS "arrive" c)
  (n:Db P w K mg base AC 3 d g ["self","stop","minute"] (pG CS CN)) (p:Binds K g ["self","stop","minute"] []) (y:b3 K CS "walk_on" d):Db P w K mg base AC 4 f fd ["self","start","minute"] (mI CS CN):=by(
refine F.ok KG (λvs H Q E h=>?_) (λC z outer s H vs Q E hr h=>?_)
·obtain⟨A,N,S,stop,Ix,rfl,_⟩:=h;rfl
·obtain⟨A,N,S,stop,Ix,rfl,j,i,a,k⟩:=h;refine⟨_,On (dL (an (I 0) T.aq mA m (hr.mono) o .nil wE (WF (I 1) (WF (I 2) (WF (I 2) PP)))))
  (FM (dL (an (I 0) T.aq y n hr p .nil wE (WF (I 1) (WF (I 2) PP))))),?_⟩
 refine⟨_,O,A.x,A.dx,_,O,j.ob,O,_,O,_,O,_,O,A,N,S,stop,Ix,Ix,O,j,i,a,λH1 l q=>?_⟩;refine⟨_,O,A.x,A.dx,_,O,l.ob,O,_,O,_,O,A,N,_,stop,Ix,O,l,i.au a _ _,a,λH2 t r=>?_⟩;exact k H2 t (q.tr r λb u=>.inl u))
def kW (CS CN:B):Sp:=λvs H Q _=>∃(n:B) (N:Nt) (stop:Nat) (Ix:Int),vs=[.ref n,Sc stop,.int Ix]/\gt CN H n N/\cX N/\stop<N.n/\
 ∀(V:Hp) (A:SA) (k:Nat),ul CS CN V A N (aI N (b9 N stop Ix) k)->(aI N (b9 N stop Ix) k).ae=[]->Tl H V->Q (.ref A.x) V
theorem z':pc ["network","start","minute","search"] ["network","start","minute"] (sB ua):=nl rfl rfl rfl (by decide +kernel)
theorem y2 {H:Hp}{a:VK}{n:B}{N:Nt}(g:gt CN H n N) (i:cX N) {x dx:B}(nx:H x=none) (l:H dx=none) (ne:dx≠x)
  (k:∀(V:Hp) (A:SA),A.x=x->ul CS CN V A N (gl N)->Tl H V->(∀b,b∈A.own->H b=none)->a .ak V):
  iz CS CN [.ref x,.ref n] (T0 (T0 H dx (.own x)) x (.ins CS dx [])) a E0:=by(
have s0:Tl H (T0 (T0 H dx (.own x)) x (.ins CS dx [])):=λb o e=>by
 rw[Uf (v0 e nx),Uf (v0 e l)];exact e
have m:Tl H (hide [x] (T0 (T0 H dx (.own x)) x (.ins CS dx []))):=λb o e=>wv.mpr ⟨by simp only[ss];exact v0 e nx,s0 b o e⟩;refine⟨x,dx,n,N,O,KE,g.same m,i,λV A ex en h f hf=>?_⟩;refine k V A ex h (λb o e=>f b o (s0 b o e) (by simp only[ss];exact v0 e nx)) λb j=>?_;rcases hf b j with rfl|q
·exact nx
·have c:b≠x:=λz=>by rw[z,KE]at q;cases q
 have d:b≠dx:=λz=>by rw[z,Uf ne,KE]at q;cases q
 rwa [Uf c,Uf d]at q)
theorem kc {l:List B}{H H1 H2:Hp}(s:Tl H H1) (b:Ev l H1 H2) (f:∀b,b∈l->H b=none):Tl H H2:=λa o e=>b a o (s a o e) λz=>by rw[f a z]at e;cases e
theorem IV {f g d e:B}{fd o l m:sc}(F:sn K "searched" "searched" ua f fd) (T:a' K mg CS CN) (Nl:mg "Search"=some (.ref CS)) (TD:Mk K CS g)
  (t:Db P w K mg base AC 1 g o ["self","network"] (iz CS CN)) (z:Binds K o ["self","network"] [])
  (r:Db P w K mg base AC 4 d l ["self","start","minute"] (mI CS CN)) (bB:Binds K l ["self","start","minute"] []) (Nj:b3 K CS "begin" d)
  (GE:Db P w K mg base AC 5 e m ["self"] (pF CS CN)) (y:Binds K m ["self"] []) (Nk:b3 K CS "ride_to_the_end" e):Db P w K mg base AC 6 f fd ["network","start","minute"] (kW CS CN):=by(
refine F.ok z' (λvs H Q E h=>?_) (λNq Np outer s H vs Q E hr h=>?_)
·obtain⟨n,N,stop,Ix,rfl,_⟩:=h;rfl
·obtain⟨n,N,stop,Ix,rfl,J,a,b,k⟩:=h;refine⟨_,On (tt (i:=3) z'.nd rfl (IN rfl) (hk TD t (hr.mono) rfl Nl z .nil wE (WF (I 0) PP)))
  (On (dL (an (I 3) T.aq Nj r (hr.mono) bB .nil wE (WF (I 1) (WF (I 2) PP))))
  (On (dL (kH (I 3) T.aq Nk GE hr y .nil wE))
  (FM (tz (I 3))))),?_⟩
 refine⟨_,O,λx dx a1 a2 a3=>y2 J a a1 a2 a3 λH1 A ex p Nm c=>⟨O,?_⟩⟩;subst ex;refine⟨_,O,A.x,A.dx,_,O,p.ob,O,_,O,_,O,A,N,_,stop,Ix,O,p,e8 a,b,λH2 q C=>?_⟩;have L:=((e8 a).au b Ix Ix).bx b Ix;refine⟨_,O,A.x,A.dx,_,O,q.ob,O,A,N,_,O,q,L,λu UV j ex _ _ U Y D=>?_⟩;have Nn:=kc (kc Nm C c) D c;refine⟨_,O,?_⟩;rw[<- ex];exact k u UV j U Y Nn)
abbrev tZ:v1:=ba (nb 1) 0
abbrev s8:v1:=ba (nb 1) 1
abbrev tX:v1:=nb 2
structure ap where
 x:B
 dx:B
 c:B
 r:B
 o:B
 d:B
 f:B
 ds:List B
 fs:List B
def ap.own (UV:ap):List B:=UV.x::UV.r::UV.o::UV.d::UV.f::(UV.ds++UV.fs)
def j7 (G:Hp) (v:XV) (x:List Nat×List Int):Prop:=∃s a,TupAt G v [.ref s,.ref a]/\G s=some (.lst (x.1.map Sc))/\G a=some (.lst (x.2.map XV.int))
def hb (pd:List (Nat×s3)) (s:Nat):List s3:=(pd.filter λd=>d.1==s).map (·.2)
structure NB (CN:B) (H:Hp) (UV:ap) (chg:List Int) (rn:List (List Nat×List Int)) (og:List (Nat×Int)) (pd:List (Nat×s3)) (pw:Nat->List (Nat×Int×Nat)):Prop where
 nd:UV.own.Nodup
 ob:H UV.x=some (.ins CN UV.dx (nf UV.c UV.r UV.o UV.d UV.f))
 x1:hide UV.own H UV.c=some (.lst (chg.map XV.int))
 runs:∃b,H UV.r=some (.lst b)/\Paired (j7 (hide UV.own H)) b rn
 aU:∃os,H UV.o=some (.lst os)/\Paired (λv x=>TupAt (hide UV.own H) v (jw x)) os og
 af:H UV.d=some (.lst (UV.ds.map XV.ref))
 eT:UV.ds.length=chg.length
 dep:∀s a,UV.ds[s]?=some a->∃es,H a=some (.lst es)/\Paired (λv e=>TupAt (hide UV.own H) v (aS e)) es (hb pd s)
 foot:H UV.f=some (.lst (UV.fs.map XV.ref))
 cO:UV.fs.length=chg.length
 ft:∀s a,UV.fs[s]?=some a->∃es,H a=some (.lst es)/\Paired (λv e=>TupAt (hide UV.own H) v (ji e)) es (pw s)
section
variable {CN:B}{H V:Hp}{UV:ap}{chg:List Int}{rn:List (List Nat×List Int)}{og:List (Nat×Int)}{pd:List (Nat×s3)}{pw:Nat->List (Nat×Int×Nat)}
theorem j7.same {G G':Hp}(s:Tl G G') {v:XV}{x:List Nat×List Int}(h:j7 G v x):j7 G' v x:=let ⟨a,b,c,d,e⟩:=h;⟨a,b,c.same s,s _ _ d,s _ _ e⟩
theorem NB.there (h:NB CN H UV chg rn og pd pw) {b:B}(a:b∈UV.own):H b≠none:=by(
unfold ap.own at a;simp only[s1,f1]at a;rcases a with rfl|rfl|rfl|rfl|rfl|a|a
·rw[h.ob];simp
·obtain⟨_,e,_⟩:=h.runs;rw[e];simp
·obtain⟨_,e,_⟩:=h.aU;rw[e];simp
·rw[h.af];simp
·rw[h.foot];simp
·obtain⟨i,hi⟩:=fD.mp a;obtain⟨_,e,_⟩:=h.dep i b hi;rw[e];simp
·obtain⟨i,hi⟩:=fD.mp a;obtain⟨_,e,_⟩:=h.ft i b hi;rw[e];simp)
theorem oL {l:List B}{a t:B}{o u:HO}(f:a∈l) (g:H t=none):Tl (hide l H) (hide l (T0 (T0 H t o) a u)):=λb v e=>by
 obtain⟨c,d⟩:=wv.mp e;refine wv.mpr ⟨c,?_⟩;rw[Uf (λz=>c (by rw[z];exact f)),Uf (v0 d g)];exact d
theorem oT {s:Nat}{a:B}(h:UV.ds[s]?=some a):a∈UV.own:=by
 unfold ap.own;simp[pi h]
theorem kD {s:Nat}{a:B}(h:UV.fs[s]?=some a):a∈UV.own:=by
 unfold ap.own;simp[pi h]
structure j5 (CN:B) (H V:Hp) (UV:ap) (a:B):Prop where
 same:Tl (hide UV.own H) (hide UV.own V)
 keep:∀b,b∈UV.own->b≠a->V b=H b
theorem NB.keep (h:NB CN H UV chg rn og pd pw) {a t:B}{o u:HO}(d:a∈UV.own) (c:H t=none):j5 CN H (T0 (T0 H t o) a u) UV a:=
 ⟨oL d c,λb e ne=>by rw[Uf ne,Uf];exact λz=>h.there e (by rw[z];exact c)⟩
theorem NB.move (h:NB CN H UV chg rn og pd pw) {a:B}(k:j5 CN H V UV a) (ob:V UV.x=some (.ins CN UV.dx (nf UV.c UV.r UV.o UV.d UV.f))) {l:List (List Nat×List Int)}{g:List (Nat×Int)}{i:List (Nat×s3)}{j:Nat->List (Nat×Int×Nat)}
  (hd:UV.d≠a) (hf:UV.f≠a) (runs:∃m,V UV.r=some (.lst m)/\Paired (j7 (hide UV.own V)) m l) (aU:∃os,V UV.o=some (.lst os)/\Paired (λv x=>TupAt (hide UV.own V) v (jw x)) os g)
  (dep:∀s b,UV.ds[s]?=some b->∃es,V b=some (.lst es)/\Paired (λv e=>TupAt (hide UV.own V) v (aS e)) es (hb i s))
  (ft:∀s b,UV.fs[s]?=some b->∃es,V b=some (.lst es)/\Paired (λv e=>TupAt (hide UV.own V) v (ji e)) es (j s)):NB CN V UV chg l g i j:=
 ⟨h.nd,ob,k.same _ _ h.x1,runs,aU,(k.keep _ (by simp[ap.own]) hd).trans h.af,h.eT,dep,(k.keep _ (by simp[ap.own]) hf).trans h.foot,h.cO,ft⟩
theorem NB.s7 (h:NB CN H UV chg rn og pd pw) {a:B}(k:j5 CN H V UV a) (ne:UV.r≠a):∃b,V UV.r=some (.lst b)/\Paired (j7 (hide UV.own V)) b rn:=by
 obtain⟨b,e,p⟩:=h.runs;exact⟨b,(k.keep _ (by simp[ap.own]) ne).trans e,aj (λ_ _ q=>q.same k.same) p⟩
theorem NB.sA (h:NB CN H UV chg rn og pd pw) {a:B}(k:j5 CN H V UV a) (ne:UV.o≠a):∃os,V UV.o=some (.lst os)/\Paired (λv x=>TupAt (hide UV.own V) v (jw x)) os og:=by
 obtain⟨b,e,p⟩:=h.aU;exact⟨b,(k.keep _ (by simp[ap.own]) ne).trans e,aj (λ_ _ q=>q.same k.same) p⟩
theorem NB.oc (h:NB CN H UV chg rn og pd pw) {a:B}(k:j5 CN H V UV a) {s:Nat}{b:B}(c:UV.ds[s]?=some b) (ne:b≠a):∃es,V b=some (.lst es)/\Paired (λv e=>TupAt (hide UV.own V) v (aS e)) es (hb pd s):=by
 obtain⟨es,e,p⟩:=h.dep s b c;exact⟨es,(k.keep _ (oT c) ne).trans e,aj (λ_ _ q=>q.same k.same) p⟩
theorem NB.ot (h:NB CN H UV chg rn og pd pw) {a:B}(k:j5 CN H V UV a) {s:Nat}{b:B}(c:UV.fs[s]?=some b) (ne:b≠a):∃es,V b=some (.lst es)/\Paired (λv e=>TupAt (hide UV.own V) v (ji e)) es (pw s):=by
 obtain⟨es,e,p⟩:=h.ft s b c;exact⟨es,(k.keep _ (kD c) ne).trans e,aj (λ_ _ q=>q.same k.same) p⟩
theorem NB.pV (h:NB CN H UV chg rn og pd pw) {a t:B}{xs:List XV}{u:HO}(c:a∈UV.own) (d:H t=none):TupAt (hide UV.own (T0 (T0 H t (.tup xs)) a u)) (.ref t) xs:=
 have b:t∉UV.own:=λz=>h.there z d
 ⟨t,O,wv.mpr ⟨b,by rw[Uf (λz=>b (by rw[z];exact c)),KE]⟩⟩
structure i6 (UV:ap):Prop where
 x:∀b,b∈UV.own->b=UV.r\/b=UV.o\/b=UV.d\/b=UV.f\/b∈UV.ds\/b∈UV.fs->UV.x≠b
 r:UV.r≠UV.o/\UV.r≠UV.d/\UV.r≠UV.f/\UV.r∉UV.ds/\UV.r∉UV.fs
 o:UV.o≠UV.d/\UV.o≠UV.f/\UV.o∉UV.ds/\UV.o∉UV.fs
 d:UV.d≠UV.f/\UV.d∉UV.ds/\UV.d∉UV.fs
 f:UV.f∉UV.ds/\UV.f∉UV.fs
 ds:UV.ds.Nodup
 fs:UV.fs.Nodup
 df:∀a,a∈UV.ds->a∉UV.fs
theorem i6.of (h:UV.own.Nodup):i6 UV:=by(
unfold ap.own at h;simp only[hS,s1,f1,not_or,hQ]at h;obtain⟨⟨y,A,C,D,E,J⟩,⟨r,s,t,u,x⟩,⟨k,l,m,n⟩,⟨d,e,f⟩,⟨g,i⟩,o,p,q⟩:=h;refine⟨λb _ c=>?_,⟨r,s,t,u,x⟩,⟨k,l,m,n⟩,⟨d,e,f⟩,⟨g,i⟩,o,p,λa j c=>q a j a c rfl⟩;rcases c with rfl|rfl|rfl|rfl|c|c
·exact y
·exact A
·exact C
·exact D
·exact λz=>E (by rw[z];exact c)
·exact λz=>J (by rw[z];exact c))
theorem fg {c:Type}{l:List c}{a b:c}(h:a∉l) (d:b∈l):b≠a:=λz=>h (by rw[<- z];exact d)
theorem NB.JO (h:NB CN H UV chg rn og pd pw) {t:B}(f:H t=none) {os:List XV}(g:H UV.o=some (.lst os)) (y:Nat×Int):NB CN (T0 (T0 H t (.tup (jw y))) UV.o (.lst (os++[.ref t]))) UV chg rn (og++[y]) pd pw:=by(
have n:=i6.of h.nd;have d:UV.o∈UV.own:=by simp[ap.own]
have k:=h.keep (a:=UV.o) (t:=t) (o:=.tup (jw y)) (u:=.lst (os++[.ref t])) d f;obtain⟨i,e,p⟩:=h.aU;rw[g]at e;cases e;refine h.move k ((k.keep _ (by simp[ap.own]) (n.x _ d (.inr (.inl rfl)))).trans h.ob) (Ne.symm n.o.1) (Ne.symm n.o.2.1) (h.s7 k n.r.1) ⟨_,KE,Paired.snoc (aj (λ_ _ q=>q.same k.same) p) (h.pV d f)⟩ (λs b c=>h.oc k c (fg n.o.2.2.1 (pi c))) (λs b c=>h.ot k c (fg n.o.2.2.2 (pi c))))
theorem NB.JP (h:NB CN H UV chg rn og pd pw) {t:B}(i:H t=none) {g:List XV}(hr:H UV.r=some (.lst g)) {s d:B}{y:List Nat×List Int}(l:hide UV.own H s=some (.lst (y.1.map Sc))) (j:hide UV.own H d=some (.lst (y.2.map XV.int))):NB CN (T0 (T0 H t (.tup [.ref s,.ref d])) UV.r (.lst (g++[.ref t]))) UV chg (rn++[y]) og pd pw:=by(
have n:=i6.of h.nd;have f:UV.r∈UV.own:=by simp[ap.own]
have k:=h.keep (a:=UV.r) (t:=t) (o:=.tup [.ref s,.ref d]) (u:=.lst (g++[.ref t])) f i;obtain⟨m,e,p⟩:=h.runs;rw[hr]at e;cases e;refine h.move k ((k.keep _ (by simp[ap.own]) (n.x _ f (.inl rfl))).trans h.ob) (Ne.symm n.r.2.1) (Ne.symm n.r.2.2.1) ⟨_,KE,Paired.snoc (aj (λ_ _ q=>q.same k.same) p) ⟨s,d,h.pV f i,k.same _ _ l,k.same _ _ j⟩⟩ (h.sA k (Ne.symm n.r.1)) (λs b c=>h.oc k c (fg n.r.2.2.2.1 (pi c))) (λs b c=>h.ot k c (fg n.r.2.2.2.2 (pi c))))
theorem EM (pd:List (Nat×s3)) (s0:Nat) (e:s3) (s:Nat):hb (pd++[(s0,e)]) s=hb pd s++(if s0=s then [e]else []):=by(
unfold hb;rw[jY,bA]
congr 1
by_cases q:s0=s
·simp[q]
·simp[q])
theorem NB.JM (h:NB CN H UV chg rn og pd pw) {t a:B}(l:H t=none) {s0:Nat}(i:UV.ds[s0]?=some a) {es:List XV}(m:H a=some (.lst es)) (y:s3):NB CN (T0 (T0 H t (.tup (aS y))) a (.lst (es++[.ref t]))) UV chg rn og (pd++[(s0,y)]) pw:=by(
have n:=i6.of h.nd;have g:=pi i;have j:=oT i;have k:=h.keep (a:=a) (t:=t) (o:=.tup (aS y)) (u:=.lst (es++[.ref t])) j l;obtain⟨D,e,p⟩:=h.dep s0 a i;rw[m]at e;cases e;refine h.move k ((k.keep _ (by simp[ap.own]) (n.x _ j (.inr (.inr (.inr (.inr (.inl g))))))).trans h.ob) (Ne.symm (fg n.d.2.1 g)) (Ne.symm (fg n.f.1 g)) (h.s7 k (Ne.symm (fg n.r.2.2.2.1 g))) (h.sA k (Ne.symm (fg n.o.2.2.1 g))) (λs b c=>?_) (λs b c=>h.ot k c (λz=>n.df a g (by rw[<- z];exact pi c)));rw[EM];by_cases q:s0=s
·subst q;rw[i]at c;cases c;rw[No rfl];exact⟨_,KE,Paired.snoc (aj (λ_ _ q=>q.same k.same) p) (h.pV j l)⟩
·rw[Ps q,e4];refine h.oc k c λz=>q ?_;subst z;have A:=(ay.mp i);have C:=(ay.mp c);exact(p5 n.ds).mp (A.2.trans C.2.symm))
theorem NB.JN (h:NB CN H UV chg rn og pd pw) {t a:B}(l:H t=none) {s0:Nat}(i:UV.fs[s0]?=some a) {es:List XV}(m:H a=some (.lst es)) (y:Nat×Int×Nat):NB CN (T0 (T0 H t (.tup (ji y))) a (.lst (es++[.ref t]))) UV chg rn og pd (λs=>pw s++(if s0=s then [y]else [])):=by(
have n:=i6.of h.nd;have g:=pi i;have j:=kD i;have k:=h.keep (a:=a) (t:=t) (o:=.tup (ji y)) (u:=.lst (es++[.ref t])) j l;obtain⟨D,e,p⟩:=h.ft s0 a i;rw[m]at e;cases e;refine h.move k ((k.keep _ (by simp[ap.own]) (n.x _ j (.inr (.inr (.inr (.inr (.inr g))))))).trans h.ob) (Ne.symm (fg n.d.2.2 g)) (Ne.symm (fg n.f.2 g)) (h.s7 k (Ne.symm (fg n.r.2.2.2.2 g))) (h.sA k (Ne.symm (fg n.o.2.2.2 g))) (λs b c=>h.oc k c (λz=>n.df b (pi c) (by rw[z];exact g))) (λs b c=>?_);by_cases q:s0=s
·subst q;rw[i]at c;cases c;rw[No rfl];exact⟨_,KE,Paired.snoc (aj (λ_ _ q=>q.same k.same) p) (h.pV j l)⟩
·rw[Ps q,e4];refine h.ot k c λz=>q ?_;subst z;have A:=(ay.mp i);have C:=(ay.mp c);exact(p5 n.fs).mp (A.2.trans C.2.symm))
end
theorem Hl {a b:Type}{l:List a}{f:a->b}{i:Nat}(h:i<l.length) (d:a):(l.map f)[i]?=some (f (l.getD i d)):=by rw[pr,bN h d];rfl
theorem EL (pd:List (Nat×s3)) (s:Nat):(hb pd s).length<=pd.length:=by unfold hb;rw[FS];exact ly ..
theorem sZ (r:Nat) (x:bn):(ec r x).length=x.1.length-1:=by unfold ec;simp
def ur (CN:B):Sp:=λvs H Q _=>∃(UV:ap) (chg:List Int) (rn:List (List Nat×List Int)) (og:List (Nat×Int)) (pd:List (Nat×s3)) (pw:Nat->List (Nat×Int×Nat)) (s a g:B) (x:bn),vs=[.ref UV.x,.ref s,.ref a,.ref g]/\NB CN H UV chg rn og pd pw/\
 hide UV.own H s=some (.lst (x.1.map Sc))/\hide UV.own H a=some (.lst (x.2.1.map XV.int))/\hide UV.own H g=some (.lst (x.2.2.map XV.int))/\x.2.2.length=x.1.length/\0<x.1.length/\(∀st,st∈x.1->st<chg.length)/\rn.length<=100000/\pd.length+x.1.length<=1000000/\
 ∀V,NB CN V UV chg (rn++[(x.1,x.2.1)]) og (pd++ec rn.length x) pw->Ev UV.own H V->Q .ak V
theorem uj:pc ["self","stops","comes","goes","run","call"] ["self","stops","comes","goes"] (sB s8):=nl rfl rfl rfl (by decide +kernel)
theorem H6 {f:B}{fd:sc}(F:sn K "add_run" "Network.add_run" s8 f fd) (T:a' K mg CS CN):Db P w K mg base AC 1 f fd ["self","stops","comes","goes"] (ur CN):=by(
refine F.ok uj (λvs H Q E h=>?_) (λNy Nx outer s0 H vs Q E hr h=>?_)
·obtain⟨UV,chg,rn,og,pd,pw,s,o,g,x,rfl,_⟩:=h;rfl
·obtain⟨UV,chg,rn,og,pd,pw,s,o,g,x,rfl,e,u,Nl,hg,Nz,NA,Nn,NC,ND,k⟩:=h;refine⟨_,On (tt (i:=4) uj.nd rfl (IN rfl) (aV bV (by rfl) T.len bR (WF (zn (I 0) rfl) PP)))
  (On (dL (cv b8 cV cW cP (zn (I 0) rfl) (WF (bP (WF (I 1) (WF (I 2) PP))) PP)))
  (FM (cw bD rfl (mr rfl T.range (WF (kw gy (aV bV (by rfl) T.len bR (WF (I 1) PP)) Fa) PP)) (v4 (i:=5) uj.nd rfl (IN rfl))
   (FM (dL (cv b8 cV cW cP (Ch wT (zn (I 0) rfl) (Ch wT (I 1) (I 5) (λ_ _=>rfl)) (λ_ _=>rfl)) (WF (bP (WF (Ch wT (I 3) (I 5) (λ_ _=>rfl)) (WF (I 4) (WF (I 5) PP)))) PP))))))),?_⟩
 obtain⟨n,m,Nu⟩:=e.runs;have Nq:n.length=rn.length:=Paired.length Nu;refine⟨_,O,UV.x,CN,UV.dx,_,_,O,e.ob,T.aN,T.iq,O,UV.r,n,O,.inl (TW.of m),?_⟩;rw[Nq];refine⟨_,O,UV.x,CN,UV.dx,_,_,O,e.ob,T.aN,T.iq,O,.inl ⟨O,_,TW.of m⟩,_,O,_,O,by show 2<=Is;decide,λt A=>?_⟩;have tr:t≠UV.r:=λz=>e.there (b:=UV.r) (by simp[ap.own]) (by rw[<- z];exact A);refine⟨UV.r,n,_,O,O,(Uf (Ne.symm tr)).trans m,small (by omega),?_⟩;have Nk:=e.JP A m (y:=(x.1,x.2.1)) u Nl;have J:Ev UV.own H (T0 (T0 H t (.tup [.ref s,.ref o])) UV.r (.lst (n++[.ref t]))):=((Ev.rfl' _ _).new A).put (by simp[ap.own]);have Nv:=J.hide;refine⟨_,O,s,_,O,.inl (TW.of (bW _ _ _ _ (Nv _ _ u))),_,_,O,O,_,O,by rw[FS];omega,by rw[FS];omega,?_⟩;have en:((((x.1.map Sc).length:Nat):Int)-1).toNat=x.1.length-1:=by rw[FS];omega
 refine kl (λq ZB H2=>∃D,ZB=[some (.ref UV.x),some (.ref s),some (.ref o),some (.ref g),some (Sc rn.length),D]/\NB CN H2 UV chg (rn++[(x.1,x.2.1)]) og (pd++(ec rn.length x).take q) pw/\Ev UV.own H H2)
  ⟨none,O,by rw[List.take_zero,e4];exact Nk,J⟩ ?_ ?_
 ·rintro q ZB H2 L ⟨D,rfl,c,l⟩;have L:q<x.1.length-1:=m7 L en;have N:=l.hide;have U:(0:Int)+((q:Nat):Int)=((q:Nat):Int):=by omega
  show bG 5 (XV.int ((0:Int)+((q:Nat):Int))) _ _ _;rw[U];have Nm:x.1.getD q 0<chg.length:=Nn _ (Tw.getD_mem (by omega) _);have Y:∃a,UV.ds[x.1.getD q 0]?=some a:=⟨_,im (by rw[c.eT];exact Nm)⟩;obtain⟨a,j⟩:=Y;obtain⟨es,p,Nr⟩:=c.dep _ a j;refine⟨_,O,UV.x,CN,UV.dx,_,_,O,c.ob,T.aN,T.hj,O,_,O,_,O,s,_,_,_,O,O,TW.of (bW _ _ _ _ (N _ _ u)),ri (by omega),UV.d,_,_,_,O,O,TW.of c.af,lw (show(UV.ds.map XV.ref)[x.1.getD q 0]?=some (XV.ref a) by rw[pr,j];rfl),.inl ⟨O,_,TW.of p⟩,_,O,_,O,g,_,_,_,O,O,TW.of (bW _ _ _ _ (N _ _ hg)),jb (by omega),_,O,_,O,by show 3<=Is;decide,λNw C=>?_⟩;have ta:a≠Nw:=λz=>c.there (oT j) (by rw[z];exact C);have Np:es.length<=1000000:=by
   have h1:es.length=_:=Paired.length Nr;have h2:=EL (pd++(ec rn.length x).take q) (x.1.getD q 0);rw[lv,aK,sZ]at h2;omega
  refine⟨a,es,_,O,O,(Uf ta).trans p,small Np,?_⟩;refine⟨_,O,?_,(l.new C).put (oT j)⟩;have:=c.JM C j p (x.2.2.getD q 0,rn.length,q);have Nj:(ec rn.length x).take (q+1)=(ec rn.length x).take q++[(x.1.getD q 0,x.2.2.getD q 0,rn.length,q)]:=by
   rw[ck]
   congr 1
   unfold ec;rw[pr,f' (by omega)];rfl
  rw[Nj,<-dd];exact this
 ·rintro ZB H2 ⟨D,rfl,c,l⟩;refine k H2 ?_ l;rw[en,vf (by rw[sZ];omega)]at c;exact c)
def g_ (e:s3):List Int:=[e.1,(e.2.1:Int),(e.2.2:Int)]
theorem EJ {a b:s3}(h:cR (g_ a) (g_ b)):ig a b:=by(
obtain⟨g,r,i⟩:=a;obtain⟨g',d,c⟩:=b;unfold ig;simp only;rcases h with h|h
·simp only[g_,jW]at h;omega
·simp only[g_,fr,gN,ga,f4,fF,and_false,gI]at h;omega)
theorem zl {H:Hp}:∀ {es:List XV}{D:List s3},Paired (λv e=>TupAt H v (aS e)) es D->∃ts:List (B×s3),es=ts.map (λt=>XV.ref t.1)/\D=ts.map (·.2)/\∀t,t∈ts->H t.1=some (.tup (aS t.2))
 |_,_,.nil=>⟨[],O,O,λt h=>by simp at h⟩
 |_,_,.cons ⟨a,rfl,g⟩ t=>by
  obtain⟨ts,c,d,f⟩:=zl t;refine⟨(a,_)::ts,by rw[c];rfl,by rw[d];rfl,λt b=>?_⟩;rcases s1.mp b with rfl|b
  ·exact g
  ·exact f t b
theorem zo {H:Hp}:∀(ts:List (B×s3)),(∀t,t∈ts->H t.1=some (.tup (aS t.2)))->Paired (λv e=>TupAt H v (aS e)) (ts.map λt=>XV.ref t.1) (ts.map (·.2))
 |[],_=>.nil
 |t::ts,h=>.cons ⟨t.1,O,h t (lc ..)⟩ (zo ts λu hu=>h u (on _ hu))
theorem J9 {K:xz}{H:Hp}{a:B}{es:List XV}{D:List s3}{Q:VK}(n:TW K H a es) (p:Paired (λv e=>TupAt H v (aS e)) es D)
  (k:∀(i:List XV) (c:List s3) (q:B),c.Perm D->c.Pairwise ig->Paired (λv e=>TupAt H v (aS e)) i c->H q=none->Q (.ref q) (T0 H q (.lst i))):sO K [XV.ref a] H Q:=by(
obtain⟨ts,rfl,rfl,d⟩:=zl p
let f:B×s3->B×List Int:=λt=>(t.1,g_ t.2)
let g:B×List Int->B×s3:=λt=>(t.1,t.2.getD 0 0,(t.2.getD 1 0).toNat,(t.2.getD 2 0).toNat)
have gf:∀t,g (f t)=t:=λt=>by obtain⟨a,x,y,z⟩:=t;simp[f,g,g_]
refine⟨a,ts.map f,O,by rw[be];exact n,λt b=>?_,λus q l A o=>?_⟩
·obtain⟨u,hu,rfl⟩:=m0.mp b;exact⟨pm.of (d u hu),by simp[f,g_]⟩
·have j:∀u,u∈us->f (g u)=u:=λu hu=>by
  obtain⟨t,b,rfl⟩:=m0.mp (l.mem_iff.mp hu);rw[gf]
 have pg:(us.map g).Perm ts:=by
  have:=l.map g;rw[be]at this;have e:ts.map (g∘f)=ts:=by
   conv=>rhs;rw[<- p_ ts]
   exact ei λt _=>gf t
  rwa [e]at this
 have m:(us.map λt=>XV.ref t.1)=(us.map g).map λt=>XV.ref t.1:=by rw[be];rfl
 rw[m];refine k _ ((us.map g).map (·.2)) q (pg.map _) ?_ (zo _ λt b=>d t (pg.mem_iff.mp b)) o;rw[be,iX];refine A.imp_of_mem λ{x y} r s h=>EJ ?_;have h1:=cB (·.2) (j x r);have h2:=cB (·.2) (j y s);simp only[f]at h1 h2;show cR (g_ (g x).2) (g_ (g y).2);rw[h1,h2];exact h)
theorem yN {K:xz}{a:B}{xs:List XV}{vs:List Nat}{v:Nat}{ZB:St}{H1:Hp}{D:B}{E:Hp->Prop}(hv:∀x,np ((np ZB vs).set v (some x)) vs=np ZB vs) (J:H1 D=none) (Y:TW K H1 a xs) (hz:xs.length<=Is)
  (post:∀(H:Hp) (as:List B),as.length=xs.length->(D::as).Nodup->H D=some (.lst (as.map XV.ref))->(∀b,b∈as->H b=some (.lst []))->(∀b,b∈as->H1 b=none)->Tl H1 H->E H):
  ∃W:Nat->Nat->Hp->Prop,(∃m,W 0 m (T0 H1 D (.lst [])))/\∀i m H,W i m H->
   ((cD K a).stop i H/\E H)\/((cD K a).go i H/\∃k:Hp->Prop,(∀V,k V->∃N,N<m/\W (i+1) N V)/\∀x V,(cD K a).ez i H x V->bG v x (np ZB vs) V λu H2=>np u vs=np ZB vs/\iB u H2 λb A=>
    if b=true then uV jE u A λy C=>∃wl,C D=some (.lst wl)/\wl.length<Is/\k (T0 C D (.lst (wl++[y])))else k A):=by(
refine l7 (xs:=xs) (λi H=>∃as:List B,as.length=i/\(D::as).Nodup/\H D=some (.lst (as.map XV.ref))/\(∀b,b∈as->H b=some (.lst []))/\(∀b,b∈as->H1 b=none)/\Tl H1 H) ⟨[],O,by simp,KE,λb c=>by simp at c,λb c=>by simp at c,Tl.new J⟩
 (λi H _ ⟨_,_,_,_,_,_,s⟩=>Y.same s) ?_ (λH ⟨as,l,d,f,h,n,g⟩=>post H as l d f h n g)
rintro i x H hi ⟨as,l,d,f,h,n,g⟩;have Nj:i<xs.length:=(ay.mp hi).1;refine⟨hv x,?_⟩;dsimp only[iB];rw[No rfl];refine⟨g1 _,λt j=>?_⟩;have r:D≠t:=λz=>by rw[z,j]at f;cases f
have ta:∀b,b∈as->b≠t:=λb c z=>by have:=h b c;rw[z,j]at this;cases this
refine⟨as.map XV.ref,(Uf r).trans f,by rw[FS];omega,as++[t],by rw[lv,l];rfl,?_,by rw[KE,bA];rfl,λb c=>?_,λb c=>?_,λb o e=>?_⟩
·rw[hS]at d⊢;refine⟨λz=>?_,?_⟩
 ·rcases f1.mp z with z|z
  ·exact d.1 z
  ·simp only[ss]at z;exact r z
 ·rw[hQ];refine⟨d.2,by simp,λp U q L=>?_⟩;simp only[ss]at L;rw[L];exact ta p U
·rw[hS]at d;rcases f1.mp c with c|c
 ·rw[Uf (λz=>d.1 (by rw[<- z];exact c)),Uf (ta b c)];exact h b c
 ·simp only[ss]at c;rw[c,Uf (Ne.symm r),KE]
·rcases f1.mp c with c|c
 ·exact n b c
 ·simp only[ss]at c;rw[c];exact g.free j
·have Q:b≠D:=v0 e J;have T:b≠t:=λz=>by have:=g b o e;rw[z,j]at this;cases this
 rw[Uf Q,Uf T];exact g b o e)
def fP (H:Hp) (v:XV) (y:(Nat×Int)×bn):Prop:=∃s a g,TupAt H v [Sc y.1.1,.int y.1.2,.ref s,.ref a,.ref g]/\H s=some (.lst (y.2.1.map Sc))/\H a=some (.lst (y.2.2.1.map XV.int))/\H g=some (.lst (y.2.2.2.map XV.int))
def nT (H:Hp) (v:XV) (w:Wk):Prop:=TupAt H v [Sc w.1,Sc w.2.1,.int w.2.2]
theorem fP.same {H V:Hp}{v:XV}{y:(Nat×Int)×bn}(s:Tl H V) (h:fP H v y):fP V v y:=let ⟨a,b,c,d,e,f,g⟩:=h;⟨a,b,c,d.same s,s _ _ e,s _ _ f,s _ _ g⟩
structure nM (chg:List Int) (Z:List ((Nat×Int)×bn)) (W:List Wk):Prop where
 n:chg.length<=1000
 runs:Z.length<=100000
 calls:(Z.map λy=>y.2.1.length).sum<=300000
 goes:∀y,y∈Z->y.2.2.2.length=y.2.1.length/\0<y.2.1.length/\∀st,st∈y.2.1->st<chg.length
 walks:W.length<=100000/\∀w,w∈W->w.1<chg.length
def pD (CN:B):Sp:=λvs H Q _=>∃(x dx c d e:B) (chg:List Int) (Z:List ((Nat×Int)×bn)) (a b:List XV) (W:List Wk),vs=[.ref x,.ref c,.ref d,.ref e]/\H x=some (.ins CN dx [])/\H c=some (.lst (chg.map XV.int))/\H d=some (.lst a)/\Paired (fP (hide [x] H)) a Z/\
 H e=some (.lst b)/\Paired (nT H) b W/\nM chg Z W/\∀(V:Hp) (N:Nt),sK chg (Z.map (·.2)) (Z.map (·.1)) W N->gt CN V x N->Ev [x] H V->Q .ak V
theorem dU:pc ["self","changes","runs","walks","trip","begins","stops","comes","goes","number","start","goal","minutes","change","departures"] ["self","changes","runs","walks"] (sB tZ):=nl rfl rfl rfl (by decide +kernel)
theorem D0 {R:List bn}{i:Nat}{x:bn}(h:R[i]?=some x):d6 (R.take (i+1))=d6 (R.take i)++ec i x:=by(
have hi:=(ay.mp h).1;unfold d6;rw[ck,h,cz,vk,nC]
congr 1
simp[aK,jT (d1 hi)])
theorem Fz {W:List Wk}{i:Nat}{x:Wk}(h:W[i]?=some x) (s:Nat):c7 (W.take (i+1)) s=c7 (W.take i) s++(if x.1=s then [(x.2.1,x.2.2,i)]else []):=by(
have hi:=(ay.mp h).1;unfold c7;rw[ck,h,cz,vk,jY,bA]
congr 1
by_cases e:x.1=s
·simp[e,aK,jT (d1 hi)]
·simp[e])
theorem xk (R:List bn):(d6 R).length<=(R.map λx=>x.1.length).sum:=by(
unfold d6;have:∀(l:List bn) (k:Nat),((l.zipIdx k).flatMap λx=>ec x.2 x.1).length<=(l.map λx=>x.1.length).sum:=by
 intro l
 induction l with
 |nil=>intro k;simp
 |cons x l a=>
  intro k;rw[j0,gd,lv,na,dH,sZ];have:=a (k+1);simp only;omega
exact this R 0)
theorem pJ {a:Type}(f:a->Nat):∀(l:List a) (i:Nat),((l.take i).map f).sum<=(l.map f).sum
 |[],i=>by simp
 |x::l,0=>by simp
 |x::l,i+1=>by
  have:=pJ f l i;rw[List.take_succ_cons,na,na,dH,dH];omega
theorem Jf {x c r o d f:B}{ds fs:List B}(h:(([x]++[c]++[r]++[o])++(d::ds)++(f::fs)).Nodup):(x::r::o::d::f::(ds++fs)).Nodup/\c∉(x::r::o::d::f::(ds++fs)):=by
 simp only[hS,hQ,s1,f1,hR,gI,not_or,lB,lA,dd]at h⊢;grind
theorem y9 {H:Hp}{l m:List B}(h1:l.Nodup) (h2:∀b,b∈l->H b≠none) (c:m.Nodup) (d:∀b,b∈m->H b=none):(l++m).Nodup:=by
 rw[hQ];exact⟨h1,c,λa f b g e=>h2 a f (by rw[e];exact d b g)⟩
theorem oV {c d:Type}{R:c->d->Prop}:∀ {xs:List c}{ys:List d},xs.length=ys.length->(∀(i:Nat) (x:c) (y:d),xs[i]?=some x->ys[i]?=some y->R x y)->Paired R xs ys
 |[],[],_,_=>.nil
 |[],_::_,h,_=>by simp at h
 |_::_,[],h,_=>by simp at h
 |x::xs,y::ys,h,f=>.cons (f 0 x y rfl rfl) (oV (by simpa using h) λi a b e g=>f (i+1) a b (by simpa using e) (by simpa using g))
theorem TupAt.yL {H:Hp}{v:XV}{xs l:List XV}{q D:B}{o u:HO}(h:TupAt H v xs) (d:H q=none) (c:H D=some (.lst l)):TupAt (T0 (T0 H q o) D u) v xs:=by
 obtain⟨a,e,b⟩:=h;refine⟨a,e,?_⟩;rw[Uf (λz=>by rw[z,c]at b;cases b),Uf (v0 b d)];exact b
theorem IJ {f OQ:B}{fd OR:sc}(F:sn K "__init__" "Network.__init__" tZ f fd) (T:a' K mg CS CN) (Qb:mg "list"=none) (Qc:mg "sorted"=none)
  (Pc:Db P w K mg base AC 1 OQ OR ["self","stops","comes","goes"] (ur CN)) (Pg:Binds K OR ["self","stops","comes","goes"] []) (mA:b3 K CN "add_run" OQ):Db P w K mg base AC 2 f fd ["self","changes","runs","walks"] (pD CN):=by(
refine F.ok dU (λvs H Q E h=>?_) (λQn Ql outer s0 H vs Q E hr h=>?_)
·obtain⟨x,dx,Ny,N6,NU,chg,Z,Of,Og,W,rfl,_⟩:=h;rfl
·obtain⟨x,dx,Ny,N6,NU,chg,Z,Of,Og,W,rfl,N2,Nx,N8,O0,Ot,OZ,Nm,k⟩:=h;refine⟨_,On (bf (I 0) (oW n0 (by rfl) Qb qN (WF (I 1) PP)) rfl)
  (On (bf (I 0) (f2 PP) rfl)
  (On (bf (I 0) (f2 PP) rfl)
  (On (bf (I 0) (iu (own:=[("change",13)]) rfl dU.nd (cf (I 1)) (e9 rfl) (λ_ _ _ _ _=>v4 (i:=13) dU.nd rfl (IN rfl) (dE rfl)) (λ_ _ _ _ _=>fW) (λ_ _ _ _ _=>f2 PP)) rfl)
  (On (bf (I 0) (iu (own:=[("change",13)]) rfl dU.nd (cf (I 1)) (e9 rfl) (λ_ _ _ _ _=>v4 (i:=13) dU.nd rfl (IN rfl) (dE rfl)) (λ_ _ _ _ _=>fW) (λ_ _ _ _ _=>f2 PP)) rfl)
  (On (cw bD rfl (cf (I 2)) (cb rfl (re (v4 (i:=4) dU.nd rfl (IN rfl)) (re (v4 (i:=5) dU.nd rfl (IN rfl)) (re (v4 (i:=6) dU.nd rfl (IN rfl)) (re (v4 (i:=7) dU.nd rfl (IN rfl)) (re (v4 (i:=8) dU.nd rfl (IN rfl)) cc))))))
   (On (dL (cv b8 cV cW cP (zn (I 0) rfl) (WF (bP (WF (I 4) (WF (I 5) PP))) PP)))
   (FM (dL (an (I 0) T.aN mA Pc hr Pg .nil wE (WF (I 6) (WF (I 7) (WF (I 8) PP))))))))
  (On (cw bD rfl (mr rfl T.range (WF (aV bV (by rfl) T.len bR (WF (I 3) PP)) PP)) (v4 (i:=9) dU.nd rfl (IN rfl))
   (On (du (Ch wT (I 3) (I 9) (λ_ _=>rfl)) (cb rfl (re (v4 (i:=10) dU.nd rfl (IN rfl)) (re (v4 (i:=11) dU.nd rfl (IN rfl)) (re (v4 (i:=12) dU.nd rfl (IN rfl)) cc)))))
   (FM (dL (cv b8 cV cW cP (Ch wT (zn (I 0) rfl) (I 10) (λ_ _=>rfl)) (WF (bP (WF (I 11) (WF (I 12) (WF (I 9) PP)))) PP))))))
  (FM (bf (I 0) (iu (own:=[("departures",14)]) rfl dU.nd (cf (zn (I 0) rfl)) (e9 rfl) (λ_ _ _ _ _=>v4 (i:=14) dU.nd rfl (IN rfl) (dE rfl)) (λ_ _ _ _ _=>fW) (λ_ _ _ _ _=>aV (r:=sO K) EA (by rfl) Qc CY (WF (I 14) PP))) rfl)))))))),?_⟩
 have xs:∀ {H2:Hp}{o:HO},H2 x=some o->x∈([x]:List B):=λ_=>by simp
 have NF:∀ {b:B}{l:List XV},H b=some (.lst l)->b∉[x]:=λe=>by
  simp only[ss];intro z;rw[z,N2]at e;cases e
 refine⟨_,O,Ny,_,O,.inl (TW.of Nx),λc OW=>?_⟩;refine gr rfl N2 OW T.aN T.oJ (by decide) λH1 Pe Nl Ob=>?_;have O_:=(d5.start (li N2)).step Pe (li N2) (li Ob) OW (li Nl);refine⟨g1 _,λr OY=>gr rfl Ob OY T.aN T.iq (by show 1<1000;decide) λH2 Y Nu Oc=>?_⟩;have Pa:=O_.step Y (li Ob) (li Oc) OY (li Nu);refine⟨g1 _,λo no=>gr rfl Oc no T.aN T.oK (by show 2<1000;decide) λNj Nk Oi Od=>?_⟩;have Nr:=Pa.step Nk (li Oc) (li Od) no (li Oi);have sz:(chg.map XV.int).length<=Is:=by rw[FS];exact d1 (small (by have:=Nm.n;omega))
 refine⟨_,O,Ny,O,⟨_,TW.of (Nr.but _ _ Nx (NF Nx))⟩,λd nd=>?_⟩;refine yN (λ_=>rfl) nd (TW.of (Nr.but _ _ Nx (NF Nx))) sz λNN ds PN PY OO OM n4 D=>?_;have Pb:([x]++[c]++[r]++[o]).Nodup:=Nr.nd;have Qg:NN x=some _:=D _ _ Od;refine⟨_,O,x,CN,dx,_,O,Qg,T.aN,T.hj,by show 3<1000;decide,?_⟩;have Oh:∀b,b∈d::ds->Nj b=none:=λb g=>by
  rcases s1.mp g with rfl|g
  ·exact nd
  ·exact n4 b g
 have xd:∀b,b∈d::ds->b≠x:=λb g z=>by have:=Oh b g;rw[z,Od]at this;cases this
 generalize Oo:T0 NN x (.ins CN dx (rc "departures" (.ref d) (rc "origins" (.ref o) (rc "runs" (.ref r) (rc "changes" (.ref c) [])))))=A;have OH:A x=some (.ins CN dx (rc "departures" (.ref d) (rc "origins" (.ref o) (rc "runs" (.ref r) (rc "changes" (.ref c) []))))):=by rw[<- Oo];exact KE
 have NQ:Ev [x] Nj A:=by rw[<- Oo];exact(D.but _).put (by simp)
 have OK:∀b,b≠x->A b=NN b:=λb g=>by rw[<- Oo];exact Uf g
 have OV:A Ny=some (.lst (chg.map XV.int)):=NQ _ _ (Nr.but _ _ Nx (NF Nx)) (NF Nx);refine⟨_,O,Ny,O,⟨_,TW.of OV⟩,λNv OX=>?_⟩;refine yN (λ_=>rfl) OX (TW.of OV) sz λOe fs PQ P0 Po Pl n5 O2=>?_;have Qi:Oe x=some _:=O2 _ _ OH;refine⟨_,O,x,CN,dx,_,O,Qi,T.aN,T.mc,by show 4<1000;decide,?_⟩;have Om:∀b,b∈Nv::fs->A b=none:=λb g=>by
  rcases s1.mp g with rfl|g
  ·exact OX
  ·exact n5 b g
 have O7:∀b,b∈Nv::fs->b≠x:=λb g z=>by have:=Om b g;rw[z,OH]at this;cases this
 generalize Oq:T0 Oe x (.ins CN dx (rc "footpaths" (.ref Nv) (rc "departures" (.ref d) (rc "origins" (.ref o) (rc "runs" (.ref r) (rc "changes" (.ref c) []))))))=J;have Qh:J x=some (.ins CN dx (nf c r o d Nv)):=by rw[<- Oq];exact KE
 have NW:Ev [x] A J:=by rw[<- Oq];exact(O2.but _).put (by simp)
 have OL:∀b,b≠x->J b=Oe b:=λb g=>by rw[<- Oq];exact Uf g
 have O3:∀b,b∈([x]++[c]++[r]++[o])->Nj b≠none:=Nr.there;have PZ:(([x]++[c]++[r]++[o])++(d::ds)).Nodup:=y9 Pb O3 PY Oh;have O4:∀b,b∈([x]++[c]++[r]++[o])++(d::ds)->A b≠none:=λb g=>by
  by_cases z:b=x
  ·rw[z,OH];simp
  ·rw[OK b z];rcases f1.mp g with g|g
   ·cases q:Nj b with
    |none=>exact absurd q (O3 b g)
    |some u=>rw[D b u q];simp
   ·rcases s1.mp g with rfl|g
    ·rw[OO];simp
    ·rw[OM b g];simp
 have P1:(([x]++[c]++[r]++[o])++(d::ds)++(Nv::fs)).Nodup:=y9 PZ O4 P0 Om;obtain⟨P2,Pj⟩:=Jf P1;have Oz:∀ {b:B}{l:List XV}{OJ:Hp},OJ b=some (.lst l)->(∃fl,OJ x=some (.ins CN dx fl))->b∉[x]:=λe ⟨fl,Pm⟩=>by
  simp only[ss];intro z;rw[z,Pm]at e;cases e
 have Ph:J c=some (.lst (chg.map XV.int)):=by
  have m:=Oz Nl ⟨_,Ob⟩;exact NW _ _ (NQ _ _ (Nk _ _ (Y _ _ Nl m) m) m) m
 have P9:J r=some (.lst []):=by
  have m:=Oz Nu ⟨_,Oc⟩;exact NW _ _ (NQ _ _ (Nk _ _ Nu m) m) m
 have P4:J o=some (.lst []):=by
  have m:=Oz Oi ⟨_,Od⟩;exact NW _ _ (NQ _ _ Oi m) m
 have ON:∀b,b∈d::ds->J b=NN b:=λb g=>by
  have q:A b=NN b:=OK b (xd b g);cases z:NN b with
  |none=>exact absurd (q.trans z) (O4 b (fE _ g))
  |some u=>exact NW _ _ (q.trans z) (by simp only[ss];exact xd b g)
 let NV:ap:=⟨x,dx,c,r,o,d,Nv,ds,fs⟩
 have OT:NB CN J NV chg [] [] [] (λs=>c7 (W.take 0) s):=by
  refine⟨P2,Qh,wv.mpr ⟨Pj,Ph⟩,⟨[],P9,.nil⟩,⟨[],P4,.nil⟩,(ON d (lc ..)).trans OO,PN.trans (FS ..),λs a C=>⟨[],(ON a (on _ (pi C))).trans (OM a (pi C)),.nil⟩,(OL Nv (O7 Nv (lc ..))).trans Po,PQ.trans (FS ..),λs a C=>⟨[],(OL a (O7 a (on _ (pi C)))).trans (Pl a (pi C)),.nil⟩⟩
 have Pd:Ev [x] H J:=(Nr.but.tr NQ λb g=>.inl g).tr NW λb g=>.inl g;have OS:∀b,b∈NV.own->b=x\/H b=none:=λb g=>by
  by_cases z:b=x
  ·exact .inl z
  ·refine .inr ?_;have Nw:b∈([x]++[c]++[r]++[o])++(d::ds)++(Nv::fs):=by
    simp only[ap.own,NV,s1,f1,hR,gI]at g⊢;grind
   cases q:H b with
   |none=>rfl
   |some u=>
    exfalso;have m:b∉[x]:=by simpa using z
    rcases f1.mp Nw with Nw|Nw
    ·rcases f1.mp Nw with Nw|Nw
     ·rcases Nr.fresh b Nw with w|w
      ·exact z w
      ·rw[w]at q;cases q
     ·have:=Oh b Nw;rw[Nr.but b u q m]at this;cases this
    ·have:=Om b Nw;rw[NQ b u (Nr.but b u q m) m]at this;cases this
 obtain⟨UV,Pw,fresh,O8⟩:∃UV:ap,NB CN J UV chg [] [] [] (λs=>c7 (W.take 0) s)/\(∀b,b∈UV.own->b=x\/H b=none)/\UV.x=x:=⟨NV,OT,OS,O⟩;clear OT OS
 clear_value NV
 subst O8;have Ox:∀ {H2:Hp},Ev UV.own J H2->Tl (hide [UV.x] H) (hide UV.own H2):=λ{H2} Y b u e=>by
  obtain⟨Oa,NG⟩:=wv.mp e;have O1:b∉UV.own:=λz=>by
   rcases fresh b z with w|w
   ·exact Oa (by simp[w])
   ·rw[w]at NG;cases NG
  exact wv.mpr ⟨O1,Y b u (Pd b u NG Oa) O1⟩
 have NS:∀ {H2:Hp},Ev UV.own J H2->∀b u,H b=some u->b∉[UV.x]->H2 b=some u:=λY b u e m=>bW _ _ _ _ (Ox Y b u (wv.mpr ⟨m,e⟩));have PR:Of.length=Z.length:=Paired.length O0;refine⟨_,O,N6,O,⟨_,TW.of (NS (Ev.rfl' _ _) _ _ N8 (NF N8))⟩,?_⟩;refine gv (K:=K) (a:=N6) (xs:=Of) (λi ZB H2=>∃NH NI NK NL NM,ZB=[some (.ref UV.x),some (.ref Ny),some (.ref N6),some (.ref NU),NH,NI,NK,NL,NM,none,none,none,none,none,none]/\
   NB CN H2 UV chg ((Z.take i).map λy=>(y.2.1,y.2.2.1)) ((Z.take i).map (·.1)) (d6 ((Z.take i).map (·.2))) (λs=>c7 (W.take 0) s)/\Ev UV.own J H2)
  ⟨none,none,none,none,none,O,Pw,Ev.rfl' _ _⟩ (λi ZB H2 _ ⟨_,_,_,_,_,_,_,Y⟩=>TW.of (NS Y _ _ N8 (NF N8))) ?_ ?_
 ·rintro i v ZB H2 hi ⟨NH,NI,NK,NL,NM,rfl,Nz,Y⟩;obtain⟨y,Nn,sa,Pk,Pt,⟨ta,rfl,N1⟩,PJ,PB,PD⟩:=dP O0 hi;have PF:i<Z.length:=(ay.mp Nn).1;have OI:=pi Nn;have PM:=Ox Y;refine⟨ta,_,O,pm.of (bW _ _ _ _ (PM _ _ N1)),O,_,_,O,_,_,O,_,_,O,_,_,O,_,_,O,O,?_⟩;obtain⟨os,NY,po⟩:=Nz.aU;have Qt:os.length=i:=by rw[Paired.length po,FS,aK];omega
  refine⟨_,O,UV.x,CN,UV.dx,_,_,O,Nz.ob,T.aN,T.oK,O,.inl ⟨O,_,TW.of NY⟩,_,O,_,O,by show 2<=Is;decide,λt ND=>?_⟩;have to:UV.o≠t:=λz=>Nz.there (b:=UV.o) (by simp[ap.own]) (by rw[z];exact ND);refine⟨UV.o,os,_,O,O,(Uf to).trans NY,small (by have:=Nm.runs;omega),?_⟩;have p:=Nz.JO ND NY y.1;have Nk:Ev UV.own J (T0 (T0 H2 t (.tup (jw y.1))) UV.o (.lst (os++[.ref t]))):=(Y.new ND).put (by simp[ap.own]);have Ov:=Ox Nk;have Oj:((Z.take i).map λy=>(y.2.1,y.2.2.1)).length=i:=by rw[FS,aK];omega
  have Pp:(Z.map (·.2))[i]?=some y.2:=by rw[pr,Nn];rfl
  have OP:∀j,(Z.take j).map (·.2)=(Z.map (·.2)).take j:=λj=>by rw[mM]
  have zs:(d6 ((Z.take i).map (·.2))).length+y.2.1.length<=1000000:=by
   have h1:=xk ((Z.take i).map (·.2));rw[be]at h1;have h2:=pJ (λy=>y.2.1.length) Z i;have Qo:=Nm.calls;have Qp:y.2.1.length<=(Z.map λy=>y.2.1.length).sum:=by
    have:=jo (Z.map λy=>y.2.1.length) i;rw[nw,pr,Nn]at this;exact this
   have Qq:((Z.take i).map ((λx=>x.1.length)∘λx=>x.2)).sum=((Z.take i).map λy=>y.2.1.length).sum:=rfl;omega
  refine⟨_,O,UV.x,UV.dx,_,O,p.ob,O,_,O,_,O,_,O,UV,chg,_,_,_,_,sa,Pk,Pt,y.2,O,p,Ov _ _ PJ,Ov _ _ PB,Ov _ _ PD,(Nm.goes y OI).1,(Nm.goes y OI).2.1,(Nm.goes y OI).2.2,by rw[Oj];have:=Nm.runs;omega,zs,λQm Px Pf=>?_⟩;refine⟨_,_,_,_,_,O,?_,Nk.tr Pf λb g=>.inl g⟩;have Nl:(Z.take (i+1)).map (λy=>(y.2.1,y.2.2.1))=(Z.take i).map (λy=>(y.2.1,y.2.2.1))++[(y.2.1,y.2.2.1)]:=by rw[ck,Nn,cz,bA];rfl
  have Nu:(Z.take (i+1)).map (·.1)=(Z.take i).map (·.1)++[y.1]:=by rw[ck,Nn,cz,bA];rfl
  rw[Nl,Nu,OP,D0 Pp,<-OP,<-Oj];have:=Px;rw[Oj]at this⊢;exact this
 ·rintro ZB H2 ⟨NH,NI,NK,NL,NM,rfl,Nz,Y⟩;rw[PR,de]at Nz;have Qs:Og.length=W.length:=Paired.length OZ;have O6:NU∉[UV.x]:=NF Ot;refine⟨_,O,NU,_,O,.inl (TW.of (NS Y _ _ Ot O6)),_,O,by omega,by have:=Nm.walks.1;omega,?_⟩;have en:((Og.length:Nat):Int).toNat=W.length:=by omega
  refine kl (λi ZB Nj=>∃NH NI NK NL NM OG OD OE OF,ZB=[some (.ref UV.x),some (.ref Ny),some (.ref N6),some (.ref NU),NH,NI,NK,NL,NM,OG,OD,OE,OF,none,none]/\
    NB CN Nj UV chg (Z.map λy=>(y.2.1,y.2.2.1)) (Z.map (·.1)) (d6 (Z.map (·.2))) (λs=>c7 (W.take i) s)/\Ev UV.own J Nj)
   ⟨_,_,_,_,_,_,_,_,_,O,Nz,Y⟩ ?_ ?_
  ·rintro i ZB Nj hi ⟨NH,NI,NK,NL,NM,OG,OD,OE,OF,rfl,p,Nk⟩;have hi:i<W.length:=m7 hi en;have Pn:(0:Int)+((i:Nat):Int)=((i:Nat):Int):=by omega
   show bG 9 (XV.int ((0:Int)+((i:Nat):Int))) _ _ _;rw[Pn];obtain⟨⟨st,go,mi⟩,hw⟩:∃y,W[i]?=some y:=⟨_,im hi⟩;obtain⟨Qu,PL,⟨ta,rfl,N1⟩⟩:=cF OZ hw;have tx:ta∉[UV.x]:=by simp only[ss];intro z;rw[z,N2]at N1;cases N1
   have PK:st<chg.length:=Nm.walks.2 _ (pi hw);refine⟨_,O,_,O,NU,_,_,_,O,O,TW.of (NS Nk _ _ Ot O6),lw PL,ta,_,O,pm.of (NS Nk _ _ N1 tx),O,_,_,O,_,_,O,_,_,O,O,?_⟩;obtain⟨fa,NX⟩:∃a,UV.fs[st]?=some a:=⟨_,im (by rw[p.cO];exact PK)⟩;obtain⟨es,NC,N4⟩:=p.ft _ fa NX;refine⟨_,O,UV.x,CN,UV.dx,_,_,O,p.ob,T.aN,T.mc,O,_,O,UV.f,_,_,_,O,O,TW.of p.foot,lw (show(UV.fs.map XV.ref)[st]?=some (XV.ref fa) by rw[pr,NX];rfl),.inl ⟨O,_,TW.of NC⟩,_,O,_,O,_,O,by show 3<=Is;decide,λt ND=>?_⟩;have Qd:fa≠t:=λz=>p.there (kD NX) (by rw[z];exact ND);have PU:es.length<=1000000:=by
    have h1:es.length=_:=Paired.length N4;have h2:(c7 (W.take i) st).length<=(W.take i).length:=by
     unfold c7;rw[FS];refine dg (ly ..) ?_;rw[Bl];exact t1 _
    rw[aK]at h2;have:=Nm.walks.1;omega
   refine⟨fa,es,_,O,O,(Uf Qd).trans NC,small PU,?_⟩;refine⟨_,_,_,_,_,_,_,_,_,O,?_,(Nk.new ND).put (kD NX)⟩;have:=p.JN ND NX NC (go,mi,i);have Pq:(λs=>c7 (W.take (i+1)) s)=λs=>c7 (W.take i) s++(if st=s then [(go,mi,i)]else []):=funext λs=>Fz hw s;rw[Pq];exact this
  ·rintro ZB Nj ⟨NH,NI,NK,NL,NM,OG,OD,OE,OF,rfl,p,Nk⟩;rw[en,de]at p;have PX:=i6.of p.nd;refine⟨_,O,UV.x,CN,UV.dx,_,_,O,p.ob,T.aN,T.hj,O,UV.d,O,⟨_,TW.of p.af⟩,λNp Oy=>?_⟩;refine l7 (xs:=UV.ds.map XV.ref) (λi A=>∃(as:List B) (U:List (List s3)),as.length=i/\Np∉as/\A Np=some (.lst (as.map XV.ref))/\Paired (λa L=>∃es,A a=some (.lst es)/\Paired (λv e=>TupAt A v (aS e)) es L) as U/\(∀(s:Nat) (L:List s3),U[s]?=some L->L.Perm (hb (d6 (Z.map (·.2))) s)/\L.Pairwise ig)/\Tl Nj A)
    ⟨[],[],O,by simp,KE,.nil,λs L e=>by simp at e,Tl.new Oy⟩ (λi A _ ⟨_,_,_,_,_,_,_,D⟩=>TW.of (D _ _ p.af)) ?_ ?_
   ·rintro i v A hi ⟨as,U,N3,OA,NA,NR,N7,D⟩;obtain⟨a,C,rfl⟩:∃a,UV.ds[i]?=some a/\v=XV.ref a:=by
     rw[pr]at hi;cases q:UV.ds[i]? with
     |none=>rw[q]at hi;cases hi
     |some a=>rw[q]at hi;cases hi;exact⟨a,O,O⟩
    obtain⟨es,NC,N4⟩:=p.dep i a C;have Qr:U.length=i:=by rw[<- N3];exact(Paired.length NR).symm
    refine⟨O,?_⟩;dsimp only[iB];rw[No rfl];have PF:i<1000000:=by
     have:=(ay.mp C).1;rw[p.eT]at this;have:=Nm.n;omega
    refine⟨_,O,?_⟩;dsimp only[jE];refine J9 (TW.of (D _ _ NC)) (aj (λ_ _ q=>(q.same (bW _ _)).same D) N4) λOl O9 q P6 Qa P5 NZ=>?_;have OB:Np≠q:=λz=>by rw[z,NZ]at NA;cases NA
    have P8:∀b,b∈as->b≠q:=λb g z=>by
     obtain⟨_,_,es,e,_⟩:=kF NR g;rw[z,NZ]at e;cases e
    refine⟨_,(Uf OB).trans NA,by rw[FS,N3];exact small (by omega),as++[q],U++[O9],by rw[lv,N3];rfl,?_,by rw[KE,bA];rfl,?_,λs L e=>?_,λb u e=>?_⟩
    ·intro z;rcases f1.mp z with z|z
     ·exact OA z
     ·simp only[ss]at z;exact OB z
    ·refine Paired.snoc ?_ ⟨Ol,by rw[Uf (Ne.symm OB),KE],aj (λ_ _ z=>z.yL NZ NA) P5⟩;have:∀ {xs:List B}{ys:List (List s3)},(∀b,b∈xs->b≠q/\b≠Np)->Paired (λa L=>∃es,A a=some (.lst es)/\Paired (λv e=>TupAt A v (aS e)) es L) xs ys->Paired (λa L=>∃es,(T0 (T0 A q (.lst Ol)) Np (.lst (as.map XV.ref++[XV.ref q]))) a=some (.lst es)/\Paired (λv e=>TupAt (T0 (T0 A q (.lst Ol)) Np (.lst (as.map XV.ref++[XV.ref q]))) v (aS e)) es L) xs ys:=by
      intro xs ys hm N5
      induction N5 with
      |nil=>exact .nil
      |@cons b y xs ys r t Ou=>
       obtain⟨es,Nl,Nu⟩:=r;obtain⟨m1,m2⟩:=hm b (lc ..);exact .cons ⟨es,by rw[Uf m2,Uf m1];exact Nl,aj (λ_ _ z=>z.yL NZ NA) Nu⟩ (Ou λc Pz=>hm c (on _ Pz))
     exact this (λb g=>⟨P8 b g,λz=>OA (by rw[<- z];exact g)⟩) NR
    ·by_cases P7:s<U.length
     ·rw[nu P7]at e;exact N7 s L e
     ·rw[nt (by omega)]at e;have Pr:s-U.length=0:=by
       cases NG:s-U.length with
       |zero=>rfl
       |succ m=>rw[NG]at e;simp at e
      rw[Pr]at e;cases e;have:s=i:=by omega
      subst this;exact⟨P6,Qa⟩
    ·rw[Uf (v0 e Oy),Uf (λz=>by have:=D b u e;rw[z,NZ]at this;cases this)];exact D b u e
   ·rintro A ⟨as,U,N3,OA,NA,NR,N7,D⟩;have Qk:UV.x≠Np:=v0 p.ob Oy;refine⟨_,O,UV.x,CN,UV.dx,_,O,D _ _ p.ob,T.aN,T.hj,by show 5<1000;decide,?_⟩;generalize OU:T0 A UV.x (.ins CN UV.dx (rc "departures" (.ref Np) (nf UV.c UV.r UV.o UV.d UV.f)))=Nq;have Qj:Nq UV.x=some (.ins CN UV.dx (nf UV.c UV.r UV.o Np UV.f)):=by rw[<- OU];exact KE
    have NO:∀b u,A b=some u->b≠UV.x->Nq b=some u:=λb u e m=>by rw[<- OU,Uf m];exact e
    have O5:∀b u,hide UV.own Nj b=some u->Nq b=some u:=λb u e=>by
     obtain⟨Oa,NG⟩:=wv.mp e;exact NO b u (D _ _ NG) λz=>Oa (by rw[z];simp[ap.own])
    have OC:Tl (hide UV.own Nj) Nq:=O5;have Qe:∀ {v:XV}{xs:List XV},TupAt A v xs->TupAt Nq v xs:=λ⟨a,e,C⟩=>⟨a,e,NO _ _ C (λz=>by have q:=D _ _ p.ob;rw[z,q]at C;cases C)⟩;have N_:∀b u,b∈UV.own->b≠UV.x->Nj b=some u->Nq b=some u:=λb u _ m e=>NO b u (D _ _ e) m;obtain⟨P_,hr,N5⟩:=p.runs;obtain⟨os,NY,po⟩:=p.aU;have Ow:U.length=chg.length:=by rw[<- Paired.length NR,N3,FS,p.eT]
    let N:Nt:=⟨chg,Z.map λy=>(y.2.1,y.2.2.1),U,(s5 chg.length).map λs=>c7 W s,Z.map (·.1)⟩
    have Py:sK chg (Z.map (·.2)) (Z.map (·.1)) W N:=by
     refine⟨O,O,by rw[be];rfl,Ow,by simp[N],λs N0=>?_,λs N0=>?_,λs N0=>?_⟩
     ·have e:U[s]?=some (U.getD s []):=bN (by rw[Ow];exact N0) [];exact(N7 s _ e).1
     ·have e:U[s]?=some (U.getD s []):=bN (by rw[Ow];exact N0) [];exact(N7 s _ e).2
     ·show((s5 chg.length).map λs=>c7 W s).getD s []=_;rw[nw,pr,f' N0];rfl
    have N9:=λb (g:b=UV.r\/b=UV.o\/b=UV.d\/b=UV.f\/b∈UV.ds\/b∈UV.fs) (hm:b∈UV.own)=>Ne.symm (PX.x b hm g);have Pu:gt CN Nq UV.x N:=by
     refine⟨UV.dx,UV.c,UV.r,UV.o,Np,UV.f,P_,os,as.map XV.ref,UV.fs.map XV.ref,Qj,O5 _ _ p.x1,N_ _ _ (by simp[ap.own]) (N9 _ (.inl rfl) (by simp[ap.own])) hr,aj (λv y q=>q.same OC) N5,NO _ _ NA (Ne.symm Qk),?_,N_ _ _ (by simp[ap.own]) (N9 _ (.inr (.inr (.inr (.inl rfl)))) (by simp[ap.own])) p.foot,?_,N_ _ _ (by simp[ap.own]) (N9 _ (.inr (.inl rfl)) (by simp[ap.own])) NY,aj (λv y q=>q.same OC) po⟩
     ·have:∀ {xs:List B}{ys:List (List s3)},Paired (λa L=>∃es,A a=some (.lst es)/\Paired (λv e=>TupAt A v (aS e)) es L) xs ys->Paired (λv x=>∃es,LstAt Nq v es/\Paired (λv e=>TupAt Nq v (aS e)) es x) (xs.map XV.ref) ys:=by
       intro xs ys N5
       induction N5 with
       |nil=>exact .nil
       |@cons b y xs ys r t Ou=>
        obtain⟨es,Nl,Nu⟩:=r;exact .cons ⟨es,⟨b,O,NO _ _ Nl (λz=>by have q:=D _ _ p.ob;rw[z,q]at Nl;cases Nl)⟩,aj (λ_ _ z=>Qe z) Nu⟩ Ou
      exact this NR
     ·refine oV (by simp[N,p.cO]) λi v y hv Nn=>?_;obtain⟨a,C,rfl⟩:∃a,UV.fs[i]?=some a/\v=XV.ref a:=by
       rw[pr]at hv;cases q:UV.fs[i]? with
       |none=>rw[q]at hv;cases hv
       |some a=>rw[q]at hv;cases hv;exact⟨a,O,O⟩
      obtain⟨es,NC,N4⟩:=p.ft i a C;have PH:i<chg.length:=by have:=(ay.mp C).1;rw[p.cO]at this;exact this
      have Nn:((s5 chg.length).map λs=>c7 W s)[i]?=some y:=Nn;rw[pr,f' PH]at Nn;cases Nn;exact⟨es,⟨a,O,N_ _ _ (kD C) (N9 _ (.inr (.inr (.inr (.inr (.inr (pi C)))))) (kD C)) NC⟩,aj (λ_ _ q=>q.same OC) N4⟩
    refine k Nq N Py Pu λb u e m=>?_;have PV:b≠UV.x:=by simpa using m
    exact NO b u (D _ _ (NS Nk b u e m)) PV)
end Dv
namespace L2
open PySem PySem.Spec PyProof.Rows
theorem yh {b:Type}{ix:Nat->Nat}{xs ys:List b}(h:∀k,k<ys.length->xs[ix k]?=ys[k]?):(s5 ys.length).filterMap (λk=>xs[ix k]?)=ys:=by(
rw[Tw.kh (g:=λk=>ys[k]?) λk a=>h k (bJ.mp a)];clear h
induction ys with
|nil=>rfl
|cons y ys c=>
 rw[bh,List.range_succ_eq_map,gP];simp only[nz,q2]
 congr 1)
theorem oZ (xs:List XV):eu xs none none (some (-1))=xs.reverse:=by(
unfold eu;rw[Mn];show(mT ((xs.length:Int)-1) (-1) (-1)).filterMap (xs[·]?)=_;rw[Mb,q2];have:=yh (ix:=λk=>xs.length-1-k) (xs:=xs) (ys:=xs.reverse) λk a=>by
 rw[fG]at a;rw[Bc a]
rw[fG]at this;exact this)
theorem yO {K:xz}{a:B}{xs:List XV}{g:TG}{te:TE}{vs:List Nat}{ZB:St}{H1:Hp}{D:B}{w:Hp->Prop}(f:XV->List XV) (A:H1 D=none) (J:TW K H1 a xs) (hz:xs.length<=Is)
  (step:∀x,x∈xs->∀(H:Hp) (Q:VK),Tl H1 H->(∀p,H p=none->Q (.ref p) (T0 H p (.tup (f x))))->g x (np ZB vs) H λj H2=>np j vs=np ZB vs/\te j H2 Q)
  (post:∀(H:Hp) (as:List B),as.length=xs.length->H D=some (.lst (as.map XV.ref))->Paired (λa x=>H a=some (.tup (f x))) as xs->Tl H1 H->(∀b,b∈as->H1 b=none)->w H):
  ∃W:Nat->Nat->Hp->Prop,(∃m,W 0 m (T0 H1 D (.lst [])))/\∀i m H,W i m H->
   ((cD K a).stop i H/\w H)\/((cD K a).go i H/\∃n:Hp->Prop,(∀V,n V->∃C,C<m/\W (i+1) C V)/\∀x V,(cD K a).ez i H x V->g x (np ZB vs) V λj H2=>np j vs=np ZB vs/\iB j H2 λb t=>
    if b=true then te j t λy u=>∃wl,u D=some (.lst wl)/\wl.length<Is/\n (T0 u D (.lst (wl++[y])))else n t):=by(
refine l7 (xs:=xs) (λi H=>∃as:List B,as.length=i/\H D=some (.lst (as.map XV.ref))/\Paired (λa x=>H a=some (.tup (f x))) as (xs.take i)/\Tl H1 H/\∀b,b∈as->H1 b=none) ⟨[],O,KE,.nil,Tl.new A,λb c=>by simp at c⟩
 (λi H _ ⟨_,_,_,_,s,_⟩=>J.same s) ?_ (λH ⟨as,q,d,k,h,r⟩=>post H as q d (by rw[de]at k;exact k) h r)
rintro i x H hi ⟨as,q,d,k,h,r⟩;have L:i<xs.length:=(ay.mp hi).1;refine step x (pi hi) H _ h λp l=>?_;have E:D≠p:=λz=>by rw[z,l]at d;cases d
refine⟨as.map XV.ref,(Uf E).trans d,by rw[FS];omega,as++[p],by rw[lv,q];rfl,by rw[KE,bA];rfl,?_,λb o e=>?_,λb c=>?_⟩
·rw[ck,hi,cz];refine Paired.snoc (Dv.aj (λb y e=>?_) k) (by rw[Uf (Ne.symm E),KE]);rw[Uf (λz=>by rw[z,d]at e;cases e),Uf (v0 e l)];exact e
·rw[Uf (v0 e A),Uf (λz=>by have:=h b o e;rw[z,l]at this;cases this)];exact h b o e
·rcases f1.mp c with c|c
 ·exact r b c
 ·simp only[ss]at c;rw[c];exact h.free l)
end L2
namespace Dv
open PySem L2 Tw
variable {P:pu}{w:rs}{K:xz}{mg:Str->Option Wp}{base:wn}{CP CN CS CL CG:B}
def jH (H:Hp) (v:XV):List XV:=match v with
 |.ref a=>match H a with
  |some (.tup xs)=>xs
  |_=>[]
 |_=>[]
def pK:List XV->List XV
 |[a,b,c]=>[b,a,c]
 |l=>l
def y7:XV->XV
 |.int i=>.int (-i)
 |v=>v
theorem zJ {K:xz}{ZB:St}{H:Hp}{j v:Nat}{a:B}{l:List Int}{Q:VK}(h0:ZB[j]?=some (some (.ref a))) (h:TW K H a (l.map XV.int)) (hz:l.length<=Is) (hv:∀x,np ((np ZB [v]).set v (some x)) [v]=np ZB [v]) (hg:∀x,((np ZB [v]).set v (some x))[v]?=some (some x))
  (k:∀p D,H p=none->H D=none->D≠p->Q (.ref D) (T0 (T0 H p (.lst (l.map XV.int).reverse)) D (.lst ((l.reverse.map λx=> -x).map XV.int)))):
  kX (r2 K (uY K (bQ j) pQ pQ (pR (uZ (rU λi=>.int (-i)) (tC (.int 1)))))) (bG v) iB (uZ (rU λi=>.int (-i)) (bQ v)) [v] ZB H Q:=by(
refine⟨_,h0,_,O,_,O,a,_,O,h,(by intro z;cases z),?_,λp m=>?_⟩
·show(eu (l.map XV.int) none none (some (-1))).length<=Is;rw[oZ,fG,FS];exact hz
·show ∃b,XV.ref p=XV.ref b/\_;have e:eu (l.map XV.int) none none (some (-1))=(l.map XV.int).reverse:=oZ _;rw[e];refine⟨p,O,⟨_,TW.of KE⟩,λD c=>?_⟩;have d:D≠p:=λz=>by rw[z,KE]at c;cases c
 refine ox y7 c (TW.of KE) (by rw[fG,FS];exact hz) (λx f H2 o q n=>?_) ?_
 ·rw[vo,m0]at f;obtain⟨i,_,rfl⟩:=f;exact⟨hv _,_,hg _,i,O,n⟩
 ·have g:(l.map XV.int).reverse.map y7=(l.reverse.map λx=> -x).map XV.int:=by
   rw[<- Bo,be,be];rfl
  rw[g];exact k p D m (by rw[Uf d]at c;exact c) d)
def fQ (y:(Nat×Int)×bn):(Nat×Int)×bn:=(y.1,ut y.2)
def uI (CN:B):Sp:=λvs H Q _=>∃(c d e:B) (chg:List Int) (Z:List ((Nat×Int)×bn)) (a b:List XV) (W:List Wk),vs=[.ref c,.ref d,.ref e]/\H c=some (.lst (chg.map XV.int))/\H d=some (.lst a)/\Paired (fP H) a Z/\
 H e=some (.lst b)/\Paired (nT H) b W/\nM chg Z W/\(∀y,y∈Z->y.2.2.1.length=y.2.1.length)/\(∀w,w∈W->w.2.1<chg.length)/\(∀y,y∈Z->y.2.1.length<=1000000)/\
 ∀(V:Hp) (n:B) (N:Nt),sK chg ((Z.map (·.2)).map ut) (Z.map (·.1)) (W.map br) N->gt CN V n N->Tl H V->Q (.ref n) V
theorem ed:pc ["changes","runs","walks","runs_back","trip","begins","stops","comes","goes","came","gone","walks_back","go","come","start","goal","minutes"] ["changes","runs","walks"] (sB tX):=nl rfl rfl rfl (by decide +kernel)
theorem IH {f NZ:B}{fd N0:sc}(F:sn K "mirrored_network" "mirrored_network" tX f fd) (T:a' K mg CS CN) (OI:mg "Network"=some (.ref CN)) (TD:Mk K CN NZ)
  (Od:Db P w K mg base AC 2 NZ N0 ["self","changes","runs","walks"] (pD CN)) (Oe:Binds K N0 ["self","changes","runs","walks"] []):Db P w K mg base AC 4 f fd ["changes","runs","walks"] (uI CN):=by(
refine F.ok ed (λvs H Q E h=>?_) (λOX OT outer s0 H vs Q E hr h=>?_)
·obtain⟨Ny,Nr,NS,chg,Z,Nv,NY,W,rfl,_⟩:=h;rfl
·obtain⟨Ny,Nr,NS,chg,Z,Nv,NY,W,rfl,Ow,N6,Ob,N7,NF,r,N5,OE,hsz,k⟩:=h;refine⟨_,On (tt (i:=3) ed.nd rfl (IN rfl) (f2 PP))
  (On (cw bD rfl (cf (I 1)) (cb rfl (re (v4 (i:=4) ed.nd rfl (IN rfl)) (re (v4 (i:=5) ed.nd rfl (IN rfl)) (re (v4 (i:=6) ed.nd rfl (IN rfl)) (re (v4 (i:=7) ed.nd rfl (IN rfl)) (re (v4 (i:=8) ed.nd rfl (IN rfl)) cc))))))
   (On (o1 (i:=9) (own:=[("go",12)]) rfl ed.nd rfl rfl rfl (cf (kI (I 8) fj fj (dQ (et ey Fa)))) (e9 rfl) (λ_ _ _ _ _=>v4 (i:=12) ed.nd rfl (IN rfl) (dE rfl)) (λ_ _ _ _ _=>fW) (λ_ _ _ _ _=>et ey (I 12)))
   (On (o1 (i:=10) (own:=[("come",13)]) rfl ed.nd rfl rfl rfl (cf (kI (I 7) fj fj (dQ (et ey Fa)))) (e9 rfl) (λ_ _ _ _ _=>v4 (i:=13) ed.nd rfl (IN rfl) (dE rfl)) (λ_ _ _ _ _=>fW) (λ_ _ _ _ _=>et ey (I 13)))
   (FM (dL (cv b8 cV cW cP (I 3) (WF (bP (WF (I 4) (WF (I 5) (WF (kI (I 6) fj fj (dQ (et ey Fa))) (WF (I 9) (WF (I 10) PP)))))) PP)))))))
  (On (o1 (i:=11) (own:=[("start",14),("goal",15),("minutes",16)]) (g:=rW K 3 (ko (bG 14) (ko (bG 15) (ko (bG 16) rT)))) rfl ed.nd rfl rfl rfl (cf (I 2)) (e9 rfl) (λ_ _ _ _ _=>cb rfl (re (v4 (i:=14) ed.nd rfl (IN rfl) (dE rfl)) (re (v4 (i:=15) ed.nd rfl (IN rfl) (dE rfl)) (re (v4 (i:=16) ed.nd rfl (IN rfl) (dE rfl)) cc)))) (λ_ _ _ _ _=>fW) (λ_ _ _ _ _=>bP (WF (I 15) (WF (I 14) (WF (I 16) PP)))))
  (FM (tz (hk TD Od (hr.mono) rfl OI Oe .nil wE (WF (I 0) (WF (I 3) (WF (I 11) PP)))))))),?_⟩
 refine⟨g1 _,λb ND=>?_⟩;have sz:∀ {m:Nat},m<=1000000->m<=Is:=λh=>d1 (small h);have OG:Nv.length=Z.length:=Paired.length Ob;refine⟨_,O,Nr,O,⟨_,TW.of ((Tl.new ND) _ _ N6)⟩,?_⟩;refine gv (K:=K) (a:=Nr) (xs:=Nv) (λi ZB H2=>∃NL NM NN NO NQ NR NK bs,ZB=[some (.ref Ny),some (.ref Nr),some (.ref NS),some (.ref b),NL,NM,NN,NO,NQ,NR,NK,none,none,none,none,none,none]/\H2 b=some (.lst bs)/\Paired (fP (hide [b] H2)) bs ((Z.take i).map fQ)/\Tl H H2)
  ⟨none,none,none,none,none,none,none,[],O,KE,.nil,Tl.new ND⟩ (λi ZB H2 _ ⟨_,_,_,_,_,_,_,_,_,_,_,d⟩=>TW.of (d _ _ N6)) ?_ ?_
 ·rintro i v ZB H2 hi ⟨NL,NM,NN,NO,NQ,NR,NK,bs,rfl,J,Nj,d⟩;obtain⟨y,s,sa,OY,O0,⟨ta,rfl,OC⟩,OA,Ox,Oy⟩:=dP Ob hi;have O1:i<Z.length:=(ay.mp s).1;have NU:=pi s;have OS:=hsz y NU;have O4:=N5 y NU;have O5:=(r.goes y NU).1;refine⟨ta,_,O,pm.of (d _ _ OC),O,_,_,O,_,_,O,_,_,O,_,_,O,_,_,O,O,?_⟩;simp only[kY,iA];refine zJ (j:=8) (v:=12) ?h0 (TW.of (d _ _ Oy)) (sz (by omega)) ?hv ?hg λOO L OM NC OK=>?_
  case h0=>rfl
  case hv=>exact λ_=>rfl
  case hg=>exact λ_=>rfl
  generalize N1:T0 (T0 H2 OO (.lst (y.2.2.2.map XV.int).reverse)) L (.lst ((y.2.2.2.reverse.map λx=> -x).map XV.int))=l;have o:Tl H2 l:=by rw[<- N1];exact(Tl.new OM).tr (Tl.new (by rw[Uf OK];exact NC))
  have Ol:l L=some (.lst ((y.2.2.2.reverse.map λx=> -x).map XV.int)):=by rw[<- N1];exact KE
  simp only[bG,kY,iA];refine zJ (j:=7) (v:=13) ?h0 (TW.of (o _ _ (d _ _ Ox))) (sz (by omega)) ?hv ?hg λp2 U ON N9 OL=>?_
  case h0=>rfl
  case hv=>exact λ_=>rfl
  case hg=>exact λ_=>rfl
  generalize N2:T0 (T0 l p2 (.lst (y.2.2.1.map XV.int).reverse)) U (.lst ((y.2.2.1.reverse.map λx=> -x).map XV.int))=A;have p:Tl l A:=by rw[<- N2];exact(Tl.new ON).tr (Tl.new (by rw[Uf OL];exact N9))
  have Om:A U=some (.lst ((y.2.2.1.reverse.map λx=> -x).map XV.int)):=by rw[<- N2];exact KE
  have Nu:Tl H2 A:=o.tr p;have Np:A b=some (.lst bs):=Nu _ _ J;have O2:bs.length=i:=by rw[Paired.length Nj,FS,aK];omega
  refine⟨_,O,.inl ⟨O,_,TW.of Np⟩,_,O,_,O,_,O,_,O,_,O,sa,_,O,TW.of (Nu _ _ (d _ _ OA)),(by intro z;cases z),?_,λD N_=>?_⟩
  ·show(eu (y.2.1.map Sc) none none (some (-1))).length<=Is;rw[oZ,fG,FS];exact sz OS
  have Oh:eu (y.2.1.map Sc) none none (some (-1))=(y.2.1.reverse).map Sc:=by rw[oZ,Bo]
  refine⟨_,O,_,O,by show 5<=Is;decide,λt Y=>?_⟩;have Oi:eu (y.2.1.map Sc) none none (some (-(1:Int)))=(y.2.1.reverse).map Sc:=Oh;rw[Oi]at Y⊢;have Oc:D≠t:=λz=>by rw[<- z,KE]at Y;cases Y
  have Oa:A t=none:=by rw[Uf (Ne.symm Oc)]at Y;exact Y
  have Nw:b≠D:=v0 Np N_;have Nx:b≠t:=v0 Np Oa;refine⟨b,bs,_,O,O,by rw[Uf Nx,Uf Nw];exact Np,small (by have:=r.runs;omega),?_⟩;generalize Nn:T0 (T0 (T0 A D (.lst (y.2.1.reverse.map Sc))) t (.tup [Sc y.1.1,.int y.1.2,.ref D,.ref L,.ref U])) b (.lst (bs++[XV.ref t]))=C;have Nm:∀c u,A c=some u->c≠b->C c=some u:=λc u e m=>by rw[<- Nn,Uf m,Uf (v0 e Oa),Uf (v0 e N_)];exact e
  have Oz:Tl (hide [b] H2) (hide [b] C):=λc u e=>by
   obtain⟨NG,NH⟩:=wv.mp e;exact wv.mpr ⟨NG,Nm c u (Nu _ _ NH) (by simpa using NG)⟩
  have NW:L≠b:=λz=>by rw[z,J]at NC;cases NC
  have NX:U≠b:=λz=>by have:=o _ _ J;rw[<- z,N9]at this;cases this
  have Nq:∀ {c:B},c≠b->c∉[b]:=λm=>by simpa using m
  have Oj:C b=some (.lst (bs++[XV.ref t])):=by rw[<- Nn];exact KE
  have new:fP (hide [b] C) (XV.ref t) (fQ y):=by
   refine⟨D,L,U,⟨t,O,wv.mpr ⟨Nq (Ne.symm Nx),?_⟩⟩,wv.mpr ⟨Nq (Ne.symm Nw),?_⟩,wv.mpr ⟨Nq NW,?_⟩,wv.mpr ⟨Nq NX,?_⟩⟩
   ·rw[<- Nn,Uf (Ne.symm Nx),KE];rfl
   ·rw[<- Nn,Uf (Ne.symm Nw),Uf Oc,KE];rfl
   ·exact Nm _ _ (p _ _ Ol) NW
   ·exact Nm _ _ Om NX
  refine⟨_,_,_,_,_,_,_,bs++[XV.ref t],O,Oj,?_,λc u e=>Nm c u (Nu _ _ (d _ _ e)) (v0 e ND)⟩;rw[ck,s,cz,bA];exact Paired.snoc (aj (λ_ _ q=>q.same Oz) Nj) new
 ·rintro ZB H2 ⟨NL,NM,NN,NO,NQ,NR,NK,bs,rfl,J,Nj,d⟩;rw[OG,de]at Nj;refine⟨_,O,NS,O,⟨_,TW.of (d _ _ N7)⟩,λNV N8=>?_⟩;have OF:NY.length=W.length:=Paired.length NF;refine yO (λv=>pK (jH H2 v)) N8 (TW.of (d _ _ N7)) (sz (by have:=r.walks.1;omega)) (λv hv l OU o Nk=>?_) λl as OH Ou OQ o OZ=>?_
  ·obtain⟨Nl,_,a,rfl,Nz⟩:=kF NF hv;have N4:=d _ _ Nz;have e:pK (jH H2 (.ref a))=[Sc Nl.2.1,Sc Nl.1,.int Nl.2.2]:=by simp[jH,N4,pK]
   rw[e]at Nk;refine⟨a,_,O,pm.of (o _ _ N4),O,_,_,O,_,_,O,_,_,O,O,O,_,O,_,O,_,O,by show 3<=Is;decide,Nk⟩
  have OW:b≠NV:=v0 J N8;have NI:Tl H l:=d.tr o;refine⟨_,O,_,O,_,O,λx dx nx OJ ne=>?_⟩;have p:Tl l (T0 (T0 l dx (.own x)) x (.ins CN dx [])):=(Tl.new OJ).tr (Tl.new (by rw[Uf (Ne.symm ne)];exact nx));have OR:Tl (hide [b] H2) (hide [x] (T0 (T0 l dx (.own x)) x (.ins CN dx []))):=λc u e=>by
   obtain⟨NG,NH⟩:=wv.mp e;have Nk:=o _ _ NH;exact wv.mpr ⟨by simpa using v0 Nk nx,p _ _ Nk⟩
  have OP:Paired (nT (T0 (T0 l dx (.own x)) x (.ins CN dx []))) (as.map XV.ref) (W.map br):=by
   refine oV (by rw[FS,FS,OH,OF]) λi v y hv s=>?_;obtain⟨a,Nz,rfl⟩:∃a,as[i]?=some a/\v=XV.ref a:=by
    rw[pr]at hv;cases q:as[i]? with
    |none=>rw[q]at hv;cases hv
    |some a=>rw[q]at hv;cases hv;exact⟨a,O,O⟩
   obtain⟨O3,OD,e⟩:=dP OQ Nz;obtain⟨Nl,NA,OV,rfl,Ov⟩:=dP NF OD;rw[pr,NA]at s;cases s;refine⟨a,O,p _ _ ?_⟩;rw[e];simp[jH,d _ _ Ov,pK,br]
  have Oo:nM chg (Z.map fQ) (W.map br):=by
   refine⟨r.n,by rw[FS];exact r.runs,?_,λy s=>?_,by rw[FS];exact r.walks.1,λNl NA=>?_⟩
   ·rw[be];have:((λy:(Nat×Int)×bn=>y.2.1.length)∘fQ)=λy=>y.2.1.length:=funext λy=>by simp[fQ,ut]
    rw[this];exact r.calls
   ·obtain⟨z,hz,rfl⟩:=m0.mp s;have h1:=r.goes z hz;refine⟨by simp[fQ,ut,N5 z hz],by simp only[fQ,ut,fG];exact h1.2.1,λst OB=>h1.2.2 st (by simpa [fQ,ut]using OB)⟩
   ·obtain⟨z,hz,rfl⟩:=m0.mp NA;exact OE z hz
  refine⟨x,dx,Ny,b,NV,chg,Z.map fQ,bs,as.map XV.ref,W.map br,O,KE,p _ _ (NI _ _ Ow),p _ _ (o _ _ J),aj (λ_ _ q=>q.same OR) Nj,p _ _ Ou,OP,Oo,λC N N3 Oq Ot=>⟨O,?_⟩⟩;refine k C x N ?_ Oq λc u e=>Ot c u (p _ _ (NI _ _ e)) (by simpa using v0 (NI _ _ e) nx);have Of:(Z.map fQ).map (·.2)=(Z.map (·.2)).map ut:=by rw[be,be];rfl
  have Og:(Z.map fQ).map (·.1)=Z.map (·.1):=by rw[be];rfl
  rw[Of,Og]at N3;exact N3)
abbrev t5:v1:=ba (nb 15) 0
abbrev s9:v1:=ba (nb 15) 1
abbrev s_:v1:=ba (nb 15) 2
abbrev tf:v1:=ba (nb 15) 3
abbrev ud:v1:=ba (nb 15) 4
abbrev tP:v1:=ba (nb 15) 5
abbrev tL:v1:=ba (nb 15) 6
abbrev tY:v1:=ba (nb 15) 7
abbrev t9:v1:=ba (nb 15) 8
abbrev t8:v1:=ba (nb 15) 9
abbrev tQ:v1:=nb 16
abbrev tE:v1:=nb 17
abbrev ub:v1:=nb 18
abbrev tu:v1:=nb 44
abbrev tR:v1:=nb 45
abbrev tS:v1:=nb 46
structure PA where
 x:B
 dx:B
 c:B
 t:B
 w:B
 l:B
 n:B
def PA.own (A:PA):List B:=[A.x,A.c,A.t,A.w,A.l,A.n]
def pf (c t w l n:B):List (Str×XV):=[("changes",.ref c),("trips",.ref t),("walks",.ref w),("lateness",.ref l),("networks",.ref n)]
def j8 (G:Hp) (v:XV) (p:cr):Prop:=∃s b g,TupAt G v [Sc p.days,.ref s,.ref b,.ref g]/\G s=some (.lst (p.calls.map λa=>Sc a.halt))/\G b=some (.lst (p.calls.map λa=>Sc a.comes))/\G g=some (.lst (p.calls.map λa=>Sc a.goes))
def i_ (G:Hp) (v:XV) (w:Cj):Prop:=TupAt G v [Sc w.from_,Sc w.to,Sc w.minutes]
def i5 (G:Hp) (o:Option XV) (x:Nat×Nat):Prop:=match o with
 |none=>x=(0,0)
 |some v=>TupAt G v [Sc x.1,Sc x.2]
def d9 (i d:Nat):List wS:=[it (i:Int),it (d:Int)]
structure j4 (G:Hp) (lk:List (List wS×XV)) (ts:List cr):Prop where
 at_:∀(i d:Nat) (p:cr),ts[i]?=some p->d<7->i5 G (jp lk (d9 i d)) (p.late.getD d (0,0))
 no:∀(i d:Nat),ts.length<=i->jp lk (d9 i d)=none
def b6 (z:Str) (d:Nat):List wS:=[iR z,it (d:Int)]
structure em (CP CN:B) (H:Hp) (A:PA) (T:Go) (m:Nat):Prop where
 nd:A.own.Nodup
 ob:H A.x=some (.ins CP A.dx (pf A.c A.t A.w A.l A.n))
 chg:H A.c=some (.lst (T.stops.map Sc))
 trips:∃ts,H A.t=some (.lst ts)/\Paired (j8 (hide A.own H)) ts T.trips
 walks:∃e,H A.w=some (.lst e)/\Paired (i_ (hide A.own H)) e T.walks
 late:∃lk,H A.l=some (.dT lk)/\lk.length<=m/\j4 (hide A.own H) lk T.trips
 bb:∃b,H A.n=some (.dT b)/\b.length<=2*m/\∀(d:Nat),d<7->(∀v,jp b (b6 "forward" d)=some v->∃a N,v=XV.ref a/\gt CN H a N/\sK (up T) (AT T d) (ln T d) (ol T) N)/\
  ∀v,jp b (b6 "mirrored" d)=some v->∃a N,v=XV.ref a/\gt CN H a N/\sK (up T) ((AT T d).map ut) (ln T d) ((ol T).map br) N
theorem j8.same {G G':Hp}{v:XV}{p:cr}(s:Tl G G') (h:j8 G v p):j8 G' v p:=let ⟨a,b,c,d,e,f,g⟩:=h;⟨a,b,c,d.same s,s _ _ e,s _ _ f,s _ _ g⟩
theorem i_.same {G G':Hp}{v:XV}{p:Cj}(s:Tl G G') (h:i_ G v p):i_ G' v p:=TupAt.same s h
theorem i5.same {G G':Hp}{o:Option XV}{x:Nat×Nat}(s:Tl G G') (h:i5 G o x):i5 G' o x:=by(
cases o with
|none=>exact h
|some v=>exact TupAt.same s h)
theorem j4.same {G G':Hp}{lk:List (List wS×XV)}{ts:List cr}(s:Tl G G') (h:j4 G lk ts):j4 G' lk ts:=⟨λi d p a b=>(h.at_ i d p a b).same s,h.no⟩
section
variable {CP CN:B}{H V:Hp}{A:PA}{T:Go}{m:Nat}
theorem em.more (h:em CP CN H A T m) {a:Nat}(hm:m<=a):em CP CN H A T a:=by
 obtain⟨lk,h1,h2,b⟩:=h.late;obtain⟨e,c,f,d⟩:=h.bb;exact {h with late:=⟨lk,h1,by omega,b⟩,bb:=⟨e,c,by omega,d⟩}
theorem em.same (h:em CP CN H A T m) (s:Tl H V):em CP CN V A T m:=by(
have c:Tl (hide A.own H) (hide A.own V):=λb o e=>by
 obtain⟨k,l⟩:=wv.mp e;exact wv.mpr ⟨k,s _ _ l⟩
obtain⟨ts,u,x⟩:=h.trips;obtain⟨C,y,z⟩:=h.walks;obtain⟨lk,h1,h2,n⟩:=h.late;obtain⟨t,p,r,j⟩:=h.bb;exact⟨h.nd,s _ _ h.ob,s _ _ h.chg,⟨ts,s _ _ u,aj (λ_ _ q=>q.same c) x⟩,⟨C,s _ _ y,aj (λ_ _ q=>q.same c) z⟩,⟨lk,s _ _ h1,h2,n.same c⟩,⟨t,s _ _ p,r,λd hd=>⟨λv e=>let ⟨a,N,f,g,i⟩:=(j d hd).1 v e;⟨a,N,f,g.same s,i⟩,λv e=>let ⟨a,N,f,g,i⟩:=(j d hd).2 v e;⟨a,N,f,g.same s,i⟩⟩⟩⟩)
theorem em.there (h:em CP CN H A T m) {b:B}(a:b∈A.own):H b≠none:=by(
simp only[PA.own,s1,hR,gI]at a;rcases a with rfl|rfl|rfl|rfl|rfl|rfl
·rw[h.ob];simp
·rw[h.chg];simp
·obtain⟨_,e,_⟩:=h.trips;rw[e];simp
·obtain⟨_,e,_⟩:=h.walks;rw[e];simp
·obtain⟨_,e,_⟩:=h.late;rw[e];simp
·obtain⟨_,e,_⟩:=h.bb;rw[e];simp)
theorem kE (h:A.own.Nodup) (i j:Nat) (hi:i<6) (a:j<6) (e:i≠j):A.own[i]'hi≠A.own[j]'a:=y5 h i j hi a e
theorem em.build (h:em CP CN H A T m) {T':Go}{a:Nat}(s:Tl (hide A.own H) (hide A.own V)) (ob:V A.x=H A.x) (chg:V A.c=some (.lst (T'.stops.map Sc))) (trips:∃ts,V A.t=some (.lst ts)/\Paired (j8 (hide A.own V)) ts T'.trips)
  (walks:∃b,V A.w=some (.lst b)/\Paired (i_ (hide A.own V)) b T'.walks) (late:∃lk,V A.l=some (.dT lk)/\lk.length<=a/\j4 (hide A.own V) lk T'.trips)
  (bb:V A.n=some (.dT [])):em CP CN V A T' a:=
 ⟨h.nd,ob.trans h.ob,chg,trips,walks,late,⟨[],bb,g1 _,λd _=>⟨λv e=>by simp[jp]at e,λv e=>by simp[jp]at e⟩⟩⟩
end
structure bM (K:xz) (mg:Str->Option Wp) (CP:B):Prop where
 cl:cp K CP
 chg:ao K CP "changes"
 trips:ao K CP "trips"
 walks:ao K CP "walks"
 late:ao K CP "lateness"
 bb:ao K CP "networks"
 len:mg "len"=none
 range:mg "range"=none
 zip:mg "zip"=none
 c2:aY mg "OUT_OF_RANGE" (-2)
 c4:aY mg "CANNOT_RUN" (-4)
 c8:aY mg "FULL" (-8)
 ms:aY mg "MOST_STOPS" 256
 mt:aY mg "MOST_TRIPS" 1024
 mw:aY mg "MOST_WALKS" 4096
 md:aY mg "MINUTES_OF_A_DAY" 1440
 mi:aY mg "MINUTES_TOLD" 2880
 dw:aY mg "DAYS_OF_A_WEEK" 7
theorem jy {K:xz}{ZB:St}{H:Hp}{Q:VK}{lo hi d:Int}{tb:TE}(a:∀R:VK,R (.int d) H->tb ZB H R) (k:Q (.bl (decide (lo<=d)&&decide (d<=hi))) H):pM (dR λi j=>.bl (decide (i<=j))) (dR λi j=>.bl (decide (i<=j))) (tC (.int lo)) tb (tC (.int hi)) ZB H Q:=by(
refine a _ ⟨_,_,O,O,_,O,?_⟩;by_cases h0:lo<=d
·rw[No (s2 h0)];rw[s2 h0]at k;exact⟨_,_,O,O,k⟩
·rw[Ps (by simpa using h0)];rw[sw h0]at k;exact k)
theorem o2 {K:xz}{ZB:St}{H:Hp}{Q:VK}{lo hi d:Int}{tb tc:TE}(a:∀R:VK,R (.int d) H->tb ZB H R) (b:∀R:VK,R (.int hi) H->tc ZB H R) (k:Q (.bl (decide (lo<=d)&&decide (d<hi))) H):pM (dR λi j=>.bl (decide (i<=j))) (dR λi j=>.bl (decide (i<j))) (tC (.int lo)) tb tc ZB H Q:=by(
refine a _ ⟨_,_,O,O,_,O,?_⟩;by_cases h0:lo<=d
·rw[No (s2 h0)];rw[s2 h0]at k;exact b _ ⟨_,_,O,O,k⟩
·rw[Ps (by simpa using h0)];rw[sw h0]at k;exact k)
def pB:Sp:=λvs H Q _=>∃(d:Int),vs=[.int d]/\Q (.bl (decide (0<=d)&&decide (d<7))) H
theorem KO:pc ["day"] ["day"] (sB tQ):=nl rfl rfl rfl (by decide +kernel)
theorem IA {f:B}{fd:sc}(F:sn K "is_day" "is_day" tQ f fd) (T:bM K mg CP):Db P w K mg base AC 1 f fd ["day"] pB:=by(
refine F.ok KO (λvs H Q E h=>?_) (λa A outer s H vs Q E hr h=>?_)
·obtain⟨d,rfl,_⟩:=h;rfl
·obtain⟨d,rfl,k⟩:=h;exact⟨_,FM (tz (oX b' dO Fa (I 0) (nm T.dw rfl))),o2 (K:=K) (λR q=>⟨_,O,q⟩) (λR q=>q) k⟩)
def pC:Sp:=λvs H Q _=>∃(d:Int),vs=[.int d]/\Q (.bl (decide (0<=d)&&decide (d<2880))) H
theorem KP:pc ["minute"] ["minute"] (sB tR):=nl rfl rfl rfl (by decide +kernel)
theorem IB {f:B}{fd:sc}(F:sn K "is_minute" "is_minute" tR f fd) (T:bM K mg CP):Db P w K mg base AC 1 f fd ["minute"] pC:=by(
refine F.ok KP (λvs H Q E h=>?_) (λa A outer s H vs Q E hr h=>?_)
·obtain⟨d,rfl,_⟩:=h;rfl
·obtain⟨d,rfl,k⟩:=h;exact⟨_,FM (tz (oX b' dO Fa (I 0) (nm T.mi rfl))),o2 (K:=K) (λR q=>⟨_,O,q⟩) (λR q=>q) k⟩)
def jD:Sp:=λvs H Q _=>∃(d:Int),vs=[.int d]/\Q (.bl (decide (0<=d)&&decide (d<=4096))) H
theorem KQ:pc ["most"] ["most"] (sB tS):=nl rfl rfl rfl (by decide +kernel)
theorem IC {f:B}{fd:sc}(F:sn K "is_most" "is_most" tS f fd) (c:aY mg "MOST_ROWS" 4096):Db P w K mg base AC 1 f fd ["most"] jD:=by(
refine F.ok KQ (λvs H Q E h=>?_) (λa A outer s H vs Q E hr h=>?_)
·obtain⟨d,rfl,_⟩:=h;rfl
·obtain⟨d,rfl,k⟩:=h;exact⟨_,FM (tz (oX b' b' Fa (I 0) (nm c rfl))),jy (K:=K) (λR q=>⟨_,O,q⟩) k⟩)
def pA (CP CN:B):Sp:=λvs H Q _=>∃(A:PA) (T:Go) (m:Nat) (d:Int),vs=[.ref A.x,.int d]/\em CP CN H A T m/\Q (.bl (decide (0<=d)&&decide (d<(T.stops.length:Int)))) H
theorem KN:pc ["self","stop"] ["self","stop"] (sB tP):=nl rfl rfl rfl (by decide +kernel)
theorem Iz {f:B}{fd:sc}(F:sn K "has_stop" "Plan.has_stop" tP f fd) (T:bM K mg CP):Db P w K mg base AC 1 f fd ["self","stop"] (pA CP CN):=by(
refine F.ok KN (λvs H Q E h=>?_) (λg e outer s H vs Q E hr h=>?_)
·obtain⟨A,a,m,d,rfl,_⟩:=h;rfl
·obtain⟨A,a,m,d,rfl,b,k⟩:=h;refine⟨_,FM (tz (oX b' dO Fa (I 1) (aV bV (by rfl) T.len bR (WF (zn (I 0) rfl) PP)))),o2 (K:=K) (hi:=(a.stops.length:Int)) (λR q=>⟨_,O,q⟩) (λR q=>?_) k⟩;refine⟨_,O,A.x,CP,A.dx,_,_,O,b.ob,T.cl,T.chg,O,A.c,_,O,.inl (TW.of b.chg),?_⟩;rw[FS];exact q)
def oP (T:Go) (a b d t:Int):Bool:=(decide (0<=a)&&decide (a<(T.stops.length:Int)))&&((decide (0<=b)&&decide (b<(T.stops.length:Int)))&&((decide (0<=d)&&decide (d<7))&&(decide (0<=t)&&decide (t<2880))))
theorem jt (T:Go) (a b d t:Int):oP T a b d t=bS T a b d t:=by(
unfold oP bS eF u8;have c:decide (a<(T.stops.length:Int))=decide (a<=(T.stops.length:Int)-1):=by rw[hU];omega
have e:decide (b<(T.stops.length:Int))=decide (b<=(T.stops.length:Int)-1):=by rw[hU];omega
have f:decide (d<7)=decide (d<=6):=by rw[hU];omega
have g:decide (t<2880)=decide (t<=2879):=by rw[hU];omega
rw[c,e,f,g])
def ht (CP CN:B):Sp:=λvs H Q _=>∃(A:PA) (T:Go) (m:Nat) (a b d t:Int),vs=[.ref A.x,.int a,.int b,.int d,.int t]/\em CP CN H A T m/\Q (.bl (oP T a b d t)) H
theorem KI:pc ["plan","start","goal","day","minute"] ["plan","start","goal","day","minute"] (sB tu):=nl rfl rfl rfl (by decide +kernel)
theorem Ih {f q g i:B}{fd u r y:sc}(F:sn K "can_ask" "can_ask" tu f fd) (T:bM K mg CP) (j:Db P w K mg base AC 1 q u ["self","stop"] (pA CP CN)) (l:Binds K u ["self","stop"] []) (z:b3 K CP "has_stop" q)
  (C:Db P w K mg base AC 1 g r ["day"] pB) (D:Binds K r ["day"] []) (U:mg "is_day"=some (.ref g)) (L:cL K (.ref g)=true)
  (GM:Db P w K mg base AC 1 i y ["minute"] pC) (J:Binds K y ["minute"] []) (Y:mg "is_minute"=some (.ref i)) (N:cL K (.ref i)=true):Db P w K mg base AC 2 f fd ["plan","start","goal","day","minute"] (ht CP CN):=by(
refine F.ok KI (λvs H Q E h=>?_) (λNk Nj outer s H vs Q E hr h=>?_)
·obtain⟨A,c,m,a,b,d,t,rfl,_⟩:=h;rfl
·obtain⟨A,c,m,a,b,d,t,rfl,e,k⟩:=h;refine⟨_,FM (tz (sE (an (I 0) T.cl z j hr l .nil wE (WF (I 1) PP)) (sE (an (I 0) T.cl z j hr l .nil wE (WF (I 2) PP)) (sE (ii C hr rfl U L D .nil wE (WF (I 3) PP)) (Jx (ii GM hr rfl Y N J .nil wE (WF (I 4) PP))))))),?_⟩;unfold oP at k;refine⟨_,O,A.x,A.dx,_,O,e.ob,O,_,O,A,c,m,a,O,e,_,O,?_⟩;cases n:(decide (0<=a)&&decide (a<(c.stops.length:Int)))with
 |false=>rw[n]at k;exact v6 k
 |true=>
  rw[n,m_]at k;refine ww ⟨_,O,A.x,A.dx,_,O,e.ob,O,_,O,A,c,m,b,O,e,_,O,?_⟩;cases o:(decide (0<=b)&&decide (b<(c.stops.length:Int)))with
  |false=>rw[o]at k;exact v6 k
  |true=>
   rw[o,m_]at k;refine ww ⟨_,O,d,O,_,O,?_⟩;cases p:(decide (0<=d)&&decide (d<7))with
   |false=>rw[p]at k;exact v6 k
   |true=>
    rw[p,m_]at k;exact ww ⟨_,O,t,O,k⟩)
structure nR (T:Go):Prop where
 stops:T.stops.length<=256
 trips:T.trips.length<=1024
 walks:T.walks.length<=4096
 late:∀p,p∈T.trips->p.late.length=7
theorem lZ {ZB:St}{H:Hp}{D:Ends}{x C dx q:B}{fs:List (Str×XV)}{u:HO}{fl:Str}(h0:ZB[0]?=some (some (.ref x))) (c:H x=some (.ins C dx fs)) (b:H q=none) (cl:cp K C) (e:ao K C fl) (hf:fs.length<1000)
  (k:∀(V:Hp),Ev [x] H V->V q=some u->V x=some (.ins C dx (rc fl (.ref q) fs))->D.nx ZB V):
  bQ 0 ZB (T0 H q u) λf H2=>∃a C dx fs,f=.ref a/\H2 a=some (.ins C dx fs)/\cp K C/\ao K C fl/\fs.length<1000/\D.nx ZB (T0 H2 a (.ins C dx (rc fl (.ref q) fs))):=by
 have d:x≠q:=v0 c b;refine⟨_,h0,x,C,dx,fs,O,(Uf d).trans c,cl,e,hf,k _ (((Ev.rfl' _ _).new b).put (by simp)) ?_ KE⟩;rw[Uf (Ne.symm d),KE]
def uL (CP CN:B):Sp:=λvs H Q _=>∃(x dx:B),vs=[.ref x]/\H x=some (.ins CP dx [])/\
 ∀(V:Hp) (A:PA),A.x=x->em CP CN V A dZ 0->Ev [x] H V->(∀b,b∈A.own->b=x\/H b=none)->Q .ak V
theorem KU:pc ["self"] ["self"] (sB t5):=nl rfl rfl rfl (by decide +kernel)
theorem IM {f:B}{fd:sc}(F:sn K "__init__" "Plan.__init__" t5 f fd) (T:bM K mg CP):Db P w K mg base AC 1 f fd ["self"] (uL CP CN):=by(
refine F.ok KU (λvs H Q E h=>?_) (λNH ND outer s H vs Q E hr h=>?_)
·obtain⟨x,dx,rfl,_⟩:=h;rfl
·obtain⟨x,dx,rfl,N,k⟩:=h;refine⟨_,On (bf (I 0) (f2 PP) rfl) (On (bf (I 0) (f2 PP) rfl) (On (bf (I 0) (f2 PP) rfl) (On (bf (I 0) zv rfl) (FM (bf (I 0) zv rfl))))),?_⟩;have Nq:=d5.start (li N);refine⟨g1 _,λc Nk=>lZ rfl N Nk T.cl T.chg (by decide) λH1 Ny A g=>?_⟩;have Nr:=Nq.step Ny (li N) (li g) Nk (li A);refine⟨g1 _,λt Nm=>lZ rfl g Nm T.cl T.trips (by show 1<1000;decide) λH2 Y D j=>?_⟩;have Nu:=Nr.step Y (li g) (li j) Nm (li D);refine⟨g1 _,λNC Nn=>lZ rfl j Nn T.cl T.walks (by show 2<1000;decide) λNF y J m=>?_⟩;have Nv:=Nu.step y (li j) (li m) Nn (li J);refine λl Nl=>lZ rfl m Nl T.cl T.late (by show 3<1000;decide) λNG b L r=>?_;have Nw:=Nv.step b (li m) (li r) Nl (li L);refine λn nn=>lZ rfl r nn T.cl T.bb (by show 4<1000;decide) λNx a Nj Np=>?_;have u:=Nw.step a (li r) (li Np) nn (li Nj);have nx:∀ {q:B}{U:Hp}{o:HO},U q=some o->(∃C dx fs,U x=some (.ins C dx fs))->(∀C dx fs,o≠.ins C dx fs)->q∉[x]:=λe ⟨C,dx,fs,Nz⟩ NA=>by
  simp only[ss];intro z;rw[z,Nz]at e;exact NA _ _ _ (bT e).symm
 have n1:=nx A ⟨_,_,_,g⟩ (λ_ _ _ z=>by cases z);have n2:=nx D ⟨_,_,_,j⟩ (λ_ _ _ z=>by cases z);have n3:=nx J ⟨_,_,_,m⟩ (λ_ _ _ z=>by cases z);have n4:=nx L ⟨_,_,_,r⟩ (λ_ _ _ z=>by cases z);refine k Nx ⟨x,dx,c,t,NC,l,n⟩ rfl ⟨u.nd,Np,a _ _ (b _ _ (y _ _ (Y _ _ A n1) n1) n1) n1,⟨[],a _ _ (b _ _ (y _ _ D n2) n2) n2,.nil⟩,⟨[],a _ _ (b _ _ J n3) n3,.nil⟩,⟨[],a _ _ L n4,t1 _,⟨λi d p e=>by simp[dZ]at e,λi d _=>LU⟩⟩,⟨[],Nj,g1 _,λd _=>⟨λv e=>by simp[jp]at e,λv e=>by simp[jp]at e⟩⟩⟩ u.but u.fresh)
theorem em.clear {H:Hp}{A:PA}{T:Go}{m:Nat}(h:em CP CN H A T m):em CP CN (T0 H A.n (.dT [])) A T m/\hide A.own (T0 H A.n (.dT []))=hide A.own H:=by
 have n:=kE h.nd;have a:hide A.own (T0 H A.n (.dT []))=hide A.own H:=fe (by simp[PA.own]);obtain⟨ts,e,f⟩:=h.trips;obtain⟨j,g,i⟩:=h.walks;obtain⟨lk,b,c,d⟩:=h.late;refine⟨h.build (by rw[a];exact Tl.rfl' _) (Uf (n 0 5 (by decide) (by decide) (by decide))) ((Uf (n 1 5 (by decide) (by decide) (by decide))).trans h.chg) ⟨ts,(Uf (n 2 5 (by decide) (by decide) (by decide))).trans e,by rw[a];exact f⟩ ⟨j,(Uf (n 3 5 (by decide) (by decide) (by decide))).trans g,by rw[a];exact i⟩ ⟨lk,(Uf (n 4 5 (by decide) (by decide) (by decide))).trans b,c,by rw[a];exact d⟩ KE,a⟩
def hx (CP CN:B) (args:List Int->Option b0) (n:Nat):Sp:=λvs H Q _=>∃(A:PA) (T:Go) (m:Nat) (l:List Int) (c:b0),vs=XV.ref A.x::l.map XV.int/\l.length=n/\args l=some c/\em CP CN H A T m/\nR T/\m<=1000/\
 ∀V,em CP CN V A (EQ T c).2 (m+1)->Ev A.own H V->Q (.int (EQ T c).1.code) V
def j':List Int->Option b0
 |[c]=>some (.halt c)
 |_=>none
theorem Ky:pc ["self","change"] ["self","change"] (sB s9):=nl rfl rfl rfl (by decide +kernel)
theorem H7 {f:B}{fd:sc}(F:sn K "add_stop" "Plan.add_stop" s9 f fd) (T:bM K mg CP):Db P w K mg base AC 1 f fd ["self","change"] (hx CP CN j' 1):=by(
refine F.ok Ky (λvs H Q E h=>?_) (λNk Nj outer s H vs Q E hr h=>?_)
·obtain⟨A,a,m,l,c,rfl,o,_⟩:=h;simp[o]
·obtain⟨A,a,m,l,c,rfl,o,u,b,hT,hm,k⟩:=h;obtain⟨ch,rfl⟩:∃ch,l=[ch]:=by match l,o with|[ch],_=>exact⟨ch,O⟩
 cases u;refine⟨_,On (kt (bI (jx b' b' Fa (I 1) Fa)) (FM (tz (nm T.c2 rfl))) io)
  (On (kt (he cQ (aV bV (by rfl) T.len bR (WF (zn (I 0) rfl) PP)) (nm T.ms rfl) (lm _)) (FM (tz (nm T.c8 rfl))) io)
  (On (dL (kG m' nc qH oI (zn (I 0) rfl)))
  (On (dL (cv b8 cV cW cP (zn (I 0) rfl) (WF (I 1) PP)))
  (FM (tz (kw gy (aV bV (by rfl) T.len bR (WF (zn (I 0) rfl) PP)) Fa)))))),?_⟩
 obtain⟨Nn,hn,_⟩:=b.bb;refine jy (K:=K) (d:=ch) (λR q=>⟨_,O,q⟩) ⟨_,O,?_⟩;cases e:(decide (0<=ch)&&decide (ch<=120))with
 |false=>
  have i:EQ a (.halt ch)=(bC (-2),a):=by simp only[EQ,u8,e,aX]
  rw[i]at k;exact ww (k H (b.more (by omega)) (Ev.rfl' _ _))
 |true=>
  refine v6 ?_;refine⟨_,O,A.x,CP,A.dx,_,_,O,b.ob,T.cl,T.chg,O,A.c,_,O,.inl (TW.of b.chg),O,_,O,?_⟩;by_cases c:a.stops.length=256
  ·have i:EQ a (.halt ch)=(bC (-8),a):=by simp only[EQ,u8,e,c,aX,cU,aF]
   rw[i]at k;rw[s2 (by rw[FS,c];rfl)];exact ww (k H (b.more (by omega)) (Ev.rfl' _ _))
  ·have i:EQ a (.halt ch)=(bC a.stops.length,{a with stops:=a.stops++[ch.toNat]}):=by simp only[EQ,u8,e,c,cU,aF]
   rw[i]at k;rw[sw (by rw[FS];intro z;injection z with z;omega)];refine v6 ?_;refine⟨_,O,A.x,CP,A.dx,_,_,O,b.ob,T.cl,T.bb,O,.inr (.inr (.inl ⟨O,.inr ⟨_,hn⟩⟩)),A.n,_,O,O,hn,?_⟩;obtain⟨g,Nl⟩:=b.clear;refine⟨_,O,A.x,CP,A.dx,_,_,O,g.ob,T.cl,T.chg,O,.inl ⟨O,_,TW.of g.chg⟩,_,O,A.c,_,_,O,O,g.chg,small (by rw[FS];have:=hT.stops;omega),?_⟩;have n:=kE b.nd;have j:hide A.own (T0 (T0 H A.n (.dT [])) A.c (.lst (a.stops.map Sc++[XV.int ch])))=hide A.own (T0 H A.n (.dT [])):=fe (by simp[PA.own]);refine⟨_,O,A.x,CP,A.dx,_,_,O,(Uf (n 0 1 (by decide) (by decide) (by decide))).trans g.ob,T.cl,T.chg,O,A.c,_,O,.inl (TW.of KE),_,_,O,O,?_⟩;obtain⟨ts,J,L⟩:=g.trips;obtain⟨Y,N,U⟩:=g.walks;obtain⟨lk,C,Nm,D⟩:=g.late;have y:0<=ch:=by simp only[ga,f4]at e;exact e.1
   have p:(a.stops++[ch.toNat]).map Sc=a.stops.map Sc++[XV.int ch]:=by
    rw[bA];simp only[na,gU,Sc,e1 y]
   have t:Ev A.own H (T0 (T0 H A.n (.dT [])) A.c (.lst (a.stops.map Sc++[XV.int ch]))):=((Ev.rfl' _ _).put (by simp[PA.own])).put (by simp[PA.own]);have:=k (T0 (T0 H A.n (.dT [])) A.c (.lst (a.stops.map Sc++[XV.int ch]))) (g.build (T':= {a with stops:=a.stops++[ch.toNat]}) (by rw[j];exact Tl.rfl' _) (Uf (n 0 1 (by decide) (by decide) (by decide))) (by rw[p];exact KE) ⟨ts,(Uf (n 2 1 (by decide) (by decide) (by decide))).trans J,by rw[j];exact L⟩ ⟨Y,(Uf (n 3 1 (by decide) (by decide) (by decide))).trans N,by rw[j];exact U⟩ ⟨lk,(Uf (n 4 1 (by decide) (by decide) (by decide))).trans C,by omega,by rw[j];exact D⟩ ((Uf (n 5 1 (by decide) (by decide) (by decide))).trans KE)) t;have r:((a.stops.map Sc++[XV.int ch]).length:Int)-1=(a.stops.length:Int):=by rw[lv,FS,bz];omega
   show Q (XV.int (((a.stops.map Sc++[XV.int ch]).length:Int)-1)) _;rw[r];exact this)
theorem An (T:Go) (a:Int):(decide (0<=a)&&decide (a<(T.stops.length:Int)))=eF T a:=by(
unfold eF u8;have b:decide (a<(T.stops.length:Int))=decide (a<=(T.stops.length:Int)-1):=by rw[hU];omega
rw[b])
def ka:List Int->Option b0
 |[a,b,m]=>some (.walk a b m)
 |_=>none
theorem Kz:pc ["self","start","goal","minutes"] ["self","start","goal","minutes"] (sB tf):=nl rfl rfl rfl (by decide +kernel)
theorem H9 {f Np:B}{fd Nq:sc}(F:sn K "add_walk" "Plan.add_walk" tf f fd) (T:bM K mg CP) (Nl:Db P w K mg base AC 1 Np Nq ["self","stop"] (pA CP CN)) (Nm:Binds K Nq ["self","stop"] []) (Nu:b3 K CP "has_stop" Np):Db P w K mg base AC 2 f fd ["self","start","goal","minutes"] (hx CP CN ka 3):=by(
refine F.ok Kz (λvs H Q E h=>?_) (λNQ NO outer s H vs Q E hr h=>?_)
·obtain⟨A,g,m,l,c,rfl,Y,_⟩:=h;simp[Y]
·obtain⟨A,g,m,l,c,rfl,Y,NA,i,hT,hm,k⟩:=h;obtain⟨a,b,mi,rfl⟩:∃a b mi,l=[a,b,mi]:=by match l,Y with|[a,b,mi],_=>exact⟨a,b,mi,O⟩
 cases NA;refine⟨_,On (kt (PW.pt (eb (bI (cg (an (I 0) T.cl Nu Nl hr Nm .nil wE (WF (I 1) PP)))) (eb (bI (cg (an (I 0) T.cl Nu Nl hr Nm .nil wE (WF (I 2) PP)))) (gA (bI (jx b' b' Fa (I 3) Fa)))))) (FM (tz (nm T.c2 rfl))) io)
  (On (kt (he cQ (aV bV (by rfl) T.len bR (WF (zn (I 0) rfl) PP)) (nm T.mw rfl) (lm _)) (FM (tz (nm T.c8 rfl))) io)
  (On (dL (kG m' nc qH oI (zn (I 0) rfl)))
  (On (dL (cv b8 cV cW cP (zn (I 0) rfl) (WF (bP (WF (I 1) (WF (I 2) (WF (I 3) PP)))) PP)))
  (FM (tz (kw gy (aV bV (by rfl) T.len bR (WF (zn (I 0) rfl) PP)) Fa)))))),?_⟩
 obtain⟨NU,hn,_⟩:=i.bb;obtain⟨NN,NK,NL⟩:=i.walks;have Nr:NN.length=g.walks.length:=Paired.length NL;have N:(eF g a&&(eF g b&&u8 mi 0 240))=false->Q (.int (-2)) H:=λe=>by
  have y:EQ g (.walk a b mi)=(bC (-2),g):=by simp only[EQ,e,aX]
  rw[y]at k;exact k H (i.more (by omega)) (Ev.rfl' _ _)
 refine⟨_,O,A.x,A.dx,_,O,i.ob,O,_,O,A,g,m,a,O,i,_,O,?_⟩;rw[An];cases p:eF g a with
 |false=>exact ww (ww (N (by rw[p];rfl)))
 |true=>
  refine v6 ⟨_,O,A.x,A.dx,_,O,i.ob,O,_,O,A,g,m,b,O,i,_,O,?_⟩;rw[An];cases u:eF g b with
  |false=>exact ww (ww (N (by rw[p,u];rfl)))
  |true=>
   refine v6 ?_;refine jy (K:=K) (d:=mi) (λR q=>⟨_,O,q⟩) ⟨_,O,?_⟩;cases J:(decide (0<=mi)&&decide (mi<=240))with
   |false=>exact ww (N (by rw[p,u];exact J))
   |true=>
    have all:(eF g a&&(eF g b&&u8 mi 0 240))=true:=by rw[p,u];exact J
    refine v6 ?_;refine⟨_,O,A.x,CP,A.dx,_,_,O,i.ob,T.cl,T.walks,O,A.w,_,O,.inl (TW.of NK),O,_,O,?_⟩;by_cases c:g.walks.length=4096
    ·have y:EQ g (.walk a b mi)=(bC (-8),g):=by simp only[EQ,all,c,aX,cU,aF]
     rw[y]at k;rw[s2 (by rw[Nr,c];rfl)];exact ww (k H (i.more (by omega)) (Ev.rfl' _ _))
    ·have y:EQ g (.walk a b mi)=(bC g.walks.length,{g with walks:=g.walks++[⟨a.toNat,b.toNat,mi.toNat⟩]}):=by simp only[EQ,all,c,cU,aF]
     rw[y]at k;rw[sw (by rw[Nr];intro z;injection z with z;omega)];refine v6 ?_;refine⟨_,O,A.x,CP,A.dx,_,_,O,i.ob,T.cl,T.bb,O,.inr (.inr (.inl ⟨O,.inr ⟨_,hn⟩⟩)),A.n,_,O,O,hn,?_⟩;obtain⟨o,NR⟩:=i.clear;obtain⟨D,Nw,Nx⟩:=o.walks;obtain⟨ts,NH,NI⟩:=o.trips;obtain⟨lk,NC,NS,ND⟩:=o.late;have n:=kE i.nd;have NF:D.length=g.walks.length:=Paired.length Nx;refine⟨_,O,A.x,CP,A.dx,_,_,O,o.ob,T.cl,T.walks,O,.inl ⟨O,_,TW.of Nw⟩,_,O,_,O,_,O,by show 3<=Is;decide,λt Nj=>?_⟩;have Nk:∀j,j∈A.own->j≠t:=λj U z=>o.there U (by rw[z];exact Nj);refine⟨A.w,_,_,O,O,(Uf (Nk A.w (by simp[PA.own]))).trans Nw,small (by have:=hT.walks;omega),?_⟩;generalize C:T0 (T0 (T0 H A.n (.dT [])) t (.tup [XV.int a,XV.int b,XV.int mi])) A.w (.lst (D++[XV.ref t]))=H2;have L:Tl (hide A.own (T0 H A.n (.dT []))) (hide A.own H2):=by rw[<- C];exact oL (by simp[PA.own]) Nj
     have r:∀j,j∈A.own->j≠A.w->H2 j=(T0 H A.n (.dT [])) j:=λj U NG=>by rw[<- C,Uf NG,Uf (Nk j U)]
     have Nn:H2 A.w=some (.lst (D++[XV.ref t])):=by rw[<- C];exact KE
     have Nv:t∉A.own:=λz=>Nk t z rfl;have NM:i_ (hide A.own H2) (XV.ref t) ⟨a.toNat,b.toNat,mi.toNat⟩:=by
      refine⟨t,O,wv.mpr ⟨Nv,?_⟩⟩;rw[<- C,Uf (λz=>Nv (by rw[z];simp[PA.own])),KE];unfold eF u8 at p u;simp only[ga,f4]at p u J;simp only[Sc,e1 p.1,e1 u.1,e1 J.1]
     refine⟨_,O,A.x,CP,A.dx,_,_,O,(r A.x (by simp[PA.own]) (n 0 3 (by decide) (by decide) (by decide))).trans o.ob,T.cl,T.walks,O,A.w,_,O,.inl (TW.of Nn),_,_,O,O,?_⟩;have Nz:Ev A.own H H2:=by rw[<- C];exact(((Ev.rfl' _ _).put (by simp[PA.own])).new Nj).put (by simp[PA.own])
     have:=k H2 (o.build (T':= {g with walks:=g.walks++[⟨a.toNat,b.toNat,mi.toNat⟩]}) L (r A.x (by simp[PA.own]) (n 0 3 (by decide) (by decide) (by decide))) ((r A.c (by simp[PA.own]) (n 1 3 (by decide) (by decide) (by decide))).trans o.chg) ⟨ts,(r A.t (by simp[PA.own]) (n 2 3 (by decide) (by decide) (by decide))).trans NH,aj (λ_ _ q=>q.same L) NI⟩ ⟨_,Nn,Paired.snoc (aj (λ_ _ q=>q.same L) Nx) NM⟩ ⟨lk,(r A.l (by simp[PA.own]) (n 4 3 (by decide) (by decide) (by decide))).trans NC,by omega,ND.same L⟩ ((r A.n (by simp[PA.own]) (n 5 3 (by decide) (by decide) (by decide))).trans KE)) Nz;have Ny:((D++[XV.ref t]).length:Int)-1=(g.walks.length:Int):=by rw[lv,NF,bz];omega
     show Q (XV.int (((D++[XV.ref t]).length:Int)-1)) _;rw[Ny];exact this)
def j_:List Int->Option b0
 |[p,d,i,m]=>some (.late p d i m)
 |_=>none
theorem KX:pc ["self","trip","day","call","minutes"] ["self","trip","day","call","minutes"] (sB ud):=nl rfl rfl rfl (by decide +kernel)
theorem IY {f Nz:B}{fd NH:sc}(F:sn K "tell_late" "Plan.tell_late" ud f fd) (T:bM K mg CP) (NV:Db P w K mg base AC 1 Nz NH ["day"] pB) (NW:Binds K NH ["day"] []) (Ob:mg "is_day"=some (.ref Nz)) (N8:cL K (.ref Nz)=true):Db P w K mg base AC 2 f fd ["self","trip","day","call","minutes"] (hx CP CN j_ 4):=by(
refine F.ok KX (λvs H Q E h=>?_) (λOi Oh outer s H vs Q E hr h=>?_)
·obtain⟨A,a,m,l,c,rfl,NA,_⟩:=h;simp[NA]
·obtain⟨A,a,m,l,c,rfl,NA,N4,r,hT,hm,k⟩:=h;obtain⟨p,d,i,mi,rfl⟩:∃p d i mi,l=[p,d,i,mi]:=by match l,NA with|[p,d,i,mi],_=>exact⟨p,d,i,mi,O⟩
 cases N4;have hu:=hc hr;have N5:=hT.late;refine⟨_,On (kt (PW.pt (eb (bI (jx b' dO Fa (I 1) (aV bV (by rfl) T.len bR (WF (zn (I 0) rfl) PP)))) (gA (bI (cg (ii NV hr rfl Ob N8 NW .nil wE (WF (I 2) PP))))))) (FM (tz (nm T.c2 rfl))) io)
  (On (kt (PW.pt (eb (bI (jx b' b' Fa (I 3) Fa)) (gA (bI (jx b' b' Fa (I 4) Fa))))) (FM (tz (nm T.c2 rfl))) io)
  (On (dL (kG m' nc qH oI (zn (I 0) rfl)))
  (On (mv hu (zn (I 0) rfl) (bP (WF (I 1) (WF (I 2) PP))) (bP (WF (I 3) (WF (I 4) PP))) rfl)
  (FM (tz Fa))))),?_⟩
 obtain⟨Ol,hn,_⟩:=r.bb;obtain⟨ts,Nv,Nl⟩:=r.trips;have N_:ts.length=a.trips.length:=Paired.length Nl;have Oc:(decide (0<=p)&&decide (p<(ts.length:Int)))=u8 p 0 ((a.trips.length:Int)-1):=by
  rw[N_];unfold u8;have g:decide (p<(a.trips.length:Int))=decide (p<=(a.trips.length:Int)-1):=by rw[hU];omega
  rw[g]
 have NY:(decide (0<=d)&&decide (d<7))=u8 d 0 6:=by
  unfold u8;have g:decide (d<7)=decide (d<=6):=by rw[hU];omega
  rw[g]
 have Nm:(u8 p 0 ((a.trips.length:Int)-1)&&(u8 d 0 6&&(u8 i 0 63&&u8 mi 0 240)))=false->Q (.int (-2)) H:=λe=>by
  have Nx:EQ a (.late p d i mi)=(bC (-2),a):=by simp only[EQ,e,aX]
  rw[Nx]at k;exact k H (r.more (by omega)) (Ev.rfl' _ _)
 refine o2 (K:=K) (d:=p) (hi:=(ts.length:Int)) (λR q=>⟨_,O,q⟩) (λR q=>⟨_,O,A.x,CP,A.dx,_,_,O,r.ob,T.cl,T.trips,O,A.t,_,O,.inl (TW.of Nv),q⟩) ⟨_,O,?_⟩;rw[Oc];cases ep:u8 p 0 ((a.trips.length:Int)-1)with
 |false=>exact ww (ww (Nm (by rw[ep];rfl)))
 |true=>
  refine v6 ⟨_,O,d,O,_,O,?_⟩;rw[NY];cases D:u8 d 0 6 with
  |false=>exact ww (Nm (by rw[ep,D];rfl))
  |true=>
   refine v6 ?_;dsimp only[pP,kY,uU,Ax,Aw,pS];refine jy (K:=K) (d:=i) (λR q=>⟨_,O,q⟩) ⟨_,O,?_⟩;cases N:(decide (0<=i)&&decide (i<=63))with
   |false=>exact ww (ww (Nm (by rw[ep,D,show u8 i 0 63=false from N];rfl)))
   |true=>
    refine v6 ?_;refine jy (K:=K) (d:=mi) (λR q=>⟨_,O,q⟩) ⟨_,O,?_⟩;cases Np:(decide (0<=mi)&&decide (mi<=240))with
    |false=>exact ww (Nm (by rw[ep,D,show u8 i 0 63=true from N,show u8 mi 0 240=false from Np];rfl))
    |true=>
     have all:(u8 p 0 ((a.trips.length:Int)-1)&&(u8 d 0 6&&(u8 i 0 63&&u8 mi 0 240)))=true:=by rw[ep,D,show u8 i 0 63=true from N,show u8 mi 0 240=true from Np];rfl
     have Nx:EQ a (.late p d i mi)=(bC 0,{a with trips:=a.trips.mapIdx λk x=>if k=p.toNat then {x with late:=x.late.set d.toNat (i.toNat,mi.toNat)}else x}):=by simp only[EQ,all,cU,aF]
     rw[Nx]at k;refine v6 ?_;refine⟨_,O,A.x,CP,A.dx,_,_,O,r.ob,T.cl,T.bb,O,.inr (.inr (.inl ⟨O,.inr ⟨_,hn⟩⟩)),A.n,_,O,O,hn,?_⟩;obtain⟨o,Oj⟩:=r.clear;obtain⟨NS,NQ,NR⟩:=o.walks;obtain⟨ts,Nv,Nl⟩:=o.trips;obtain⟨lk,NM,N9,ND⟩:=o.late;have n:=kE r.nd;generalize Nq:T0 H A.n (.dT [])=H1 at o NS NQ NR ts Nv Nl lk NM N9 ND;refine⟨_,O,_,O,by show 2<=Is;decide,λtv NF=>?_⟩;have Nw:∀b,b∈A.own->b≠tv:=λb J z=>o.there J (by rw[z];exact NF);refine⟨_,O,A.x,CP,A.dx,_,_,O,(Uf (Nw A.x (by simp[PA.own]))).trans o.ob,T.cl,T.late,O,_,O,_,O,by show 2<=Is;decide,λtk Nj=>?_⟩;have NL:tk≠tv:=λz=>by rw[z,KE]at Nj;cases Nj
     have NN:H1 tk=none:=by rw[Uf NL]at Nj;exact Nj
     have NK:∀b,b∈A.own->b≠tk:=λb J z=>o.there J (by rw[z];exact NN);simp only[u8,ga,f4]at ep D N Np;have N0:(d9 p.toNat d.toNat).map kV=[XV.int p,XV.int d]:=by
      simp only[d9,na,gU,kV,e1 ep.1,e1 D.1]
     refine⟨A.l,_,O,fL.t (k:=d9 p.toNat d.toNat) ((Uf (NK A.l (by simp[PA.own]))).trans ((Uf (Nw A.l (by simp[PA.own]))).trans NM)) (by rw[N0];exact KE) (small (by omega)),?_⟩;generalize U:T0 (T0 (T0 H1 tv (.tup [XV.int i,XV.int mi])) tk (.tup [XV.int p,XV.int d])) A.l (.dT (ax lk (d9 p.toNat d.toNat) (XV.ref tv)))=H2;have L:∀b,b∈A.own->b≠A.l->H2 b=H1 b:=λb J Oa=>by rw[<- U,Uf Oa,Uf (NK b J),Uf (Nw b J)]
     have Nr:Tl (hide A.own H1) (hide A.own H2):=λb u e=>by
      obtain⟨Nu,Nk⟩:=wv.mp e;refine wv.mpr ⟨Nu,?_⟩;rw[<- U,Uf (λz=>Nu (by rw[z];simp[PA.own])),Uf (v0 Nk NN),Uf (v0 Nk NF)];exact Nk
     have N1:H2 A.l=some (.dT (ax lk (d9 p.toNat d.toNat) (XV.ref tv))):=by rw[<- U];exact KE
     have NO:tv∉A.own:=λz=>Nw tv z rfl;have Og:hide A.own H2 tv=some (.tup [Sc i.toNat,Sc mi.toNat]):=by
      refine wv.mpr ⟨NO,?_⟩;rw[<- U,Uf (λz=>NO (by rw[z];simp[PA.own])),Uf (Ne.symm NL),KE];simp only[Sc,e1 N.1,e1 Np.1]
     have N3:Ev A.own H H2:=by
      rw[<- U,<-Nq];refine Ev.put (Ev.new (Ev.new ((Ev.rfl' _ _).put (by simp[PA.own])) (by rw[Nq];exact NF)) ?_) (by simp[PA.own]);rw[Nq];exact Nj
     refine k H2 (o.build (T':= {a with trips:=a.trips.mapIdx λk x=>if k=p.toNat then {x with late:=x.late.set d.toNat (i.toNat,mi.toNat)}else x}) Nr (L A.x (by simp[PA.own]) (n 0 4 (by decide) (by decide) (by decide))) ((L A.c (by simp[PA.own]) (n 1 4 (by decide) (by decide) (by decide))).trans o.chg) ⟨ts,(L A.t (by simp[PA.own]) (n 2 4 (by decide) (by decide) (by decide))).trans Nv,?_⟩ ⟨NS,(L A.w (by simp[PA.own]) (n 3 4 (by decide) (by decide) (by decide))).trans NQ,aj (λ_ _ q=>q.same Nr) NR⟩ ⟨_,N1,?_,⟨λY d' Om g NZ=>?_,λY d' NI=>?_⟩⟩ ((L A.n (by simp[PA.own]) (n 5 4 (by decide) (by decide) (by decide))).trans (by rw[<- Nq];exact KE))) N3
     ·refine oV (by rw[vl];exact Paired.length Nl) λj v y hv NC=>?_;obtain⟨NU,N7,Of⟩:=dP Nl hv;rw[Bg,N7]at NC;simp only[hM,gO]at NC;obtain⟨sa,NX,N2,Nu,Nk,Od,Oe⟩:=Of.same Nr;have:y.days=NU.days/\y.calls=NU.calls:=by rw[<- NC];split<;>exact⟨O,O⟩
      exact⟨sa,NX,N2,by rw[this.1];exact Nu,by rw[this.2];exact Nk,by rw[this.2];exact Od,by rw[this.2];exact Oe⟩
     ·unfold ax;split
      ·rw[FS];omega
      ·rw[lv,bz];omega
     ·rw[jJ];rw[Bg]at g;cases Nn:a.trips[Y]? with
      |none=>rw[Nn]at g;cases g
      |some C=>
       rw[Nn]at g;simp only[hM,gO]at g;have aA:=(ND.at_ Y d' C Nn NZ).same Nr;by_cases Ny:Y=p.toNat
       ·rw[No Ny]at g;subst g;by_cases NG:d'=d.toNat
        ·subst Ny NG;rw[No rfl];have N6:d.toNat<C.late.length:=by
          have:=N5 C (pi Nn);omega
         show i5 _ _ ((C.late.set d.toNat (i.toNat,mi.toNat)).getD d.toNat (0,0));rw[Tw.gC N6,No rfl];exact⟨tv,O,Og⟩
        ·rw[Ps (λz=>by simp only[d9,jW]at z;have:=z.2.1;injection this with this;omega)];show i5 _ _ ((C.late.set d.toNat (i.toNat,mi.toNat)).getD d' (0,0));have:(C.late.set d.toNat (i.toNat,mi.toNat)).getD d' (0,0)=C.late.getD d' (0,0):=by
          rw[nw,q1 (Ne.symm NG),<-nw]
         rw[this];exact aA
       ·rw[Ps Ny]at g;subst g;rw[Ps (λz=>by simp only[d9,jW]at z;have:=z.1;injection this with this;omega)];exact aA
     ·rw[vl]at NI;rw[jJ,Ps (λz=>by simp only[d9,jW]at z;have:=z.1;injection this with this;omega)];exact ND.no Y d' NI)
end Dv
namespace L2
open PySem
theorem FF {K:xz}{a b c:B}{xs ys zs:List XV}{g:TG}{tb:TS}{D:Ends}{ZB:St}{H:Hp}(Pv:Nat->St->Hp->Prop) (h0:Pv 0 ZB H) (w:∀i ZB H,i<=xs.length->Pv i ZB H->TW K H a xs/\TW K H b ys/\TW K H c zs) (E:ys.length=xs.length) (hz:zs.length=xs.length)
  (A:∀i x y z T ZB H,xs[i]?=some x->ys[i]?=some y->zs[i]?=some z->Pv i ZB H->H T=none->g (.ref T) ZB (T0 H T (.tup [x,y,z])) λh H2=>tb {D with nx:=Pv (i+1),ct:=Pv (i+1),bk:=D.nx} h H2) (hd:∀ZB H,Pv xs.length ZB H->D.nx ZB H):
  ∃W:Nat->Nat->St->Hp->Prop,(∃m,W 0 m ZB H)/\∀i m ZB H,W i m ZB H->
   ((lK K a b c).stop i H/\D.nx ZB H)\/((lK K a b c).go i H/\∃N:St->Hp->Prop,(∀f V,N f V->∃k,k<m/\W (i+1) k f V)/\∀x V,(lK K a b c).ez i H x V->g x ZB V λh H2=>tb {D with nx:=N,ct:=N,bk:=D.nx} h H2):=by(
refine⟨λi m ZB H=>m=xs.length-i/\i<=xs.length/\Pv i ZB H,⟨xs.length,by simp,g1 _,h0⟩,?_⟩;rintro i m ZB H ⟨rfl,hi,p⟩;obtain⟨d,l,n⟩:=w i ZB H hi p;by_cases j:i<xs.length
·have o:xs[i]?=some xs[i]:=im j;have q:ys[i]?=some (ys[i]'(by omega)):=im (by omega);have r:zs[i]?=some (zs[i]'(by omega)):=im (by omega);refine .inr ⟨⟨xs,ys,zs,_,_,_,d,l,n,o,q,r⟩,Pv (i+1),λf V C=>⟨xs.length-(i+1),by omega,O,j,C⟩,λv V y=>?_⟩;obtain⟨T,x,y,z,rfl,hT,rfl,s,t,u⟩:=y;exact A i x y z T ZB H (s xs d) (t ys l) (u zs n) p hT
·have e:i=xs.length:=by omega
 subst e;exact .inl ⟨⟨xs,d,t1 _⟩,hd ZB H p⟩)
end L2
namespace Dv
open PySem L2 Tw
variable {P:pu}{w:rs}{K:xz}{mg:Str->Option Wp}{base:wn}{CP CN CS CL CG:B}
def hp (n:Int):Int->List (Int×Int×Int)->Bool
 |_,[]=>true
 |gone,(s,c,g)::l=>if n<=s\/c<gone\/g<c\/2880<=g then false else hp n g l
def uz:Sp:=λvs H Q _=>∃(s c g:B) (l:List (Int×Int×Int)) (n:Int),vs=[.ref s,.ref c,.ref g,.int n]/\H s=some (.lst (l.map λx=>XV.int x.1))/\H c=some (.lst (l.map λx=>XV.int x.2.1))/\H g=some (.lst (l.map λx=>XV.int x.2.2))/\
 ∀V,Tl H V->Q (.bl (hp n 0 l)) V
theorem kS:pc ["stops","comes","goes","stop_count","gone","stop","come","go"] ["stops","comes","goes","stop_count"] (sB tE):=nl rfl rfl rfl (by decide +kernel)
theorem Ik {f:B}{fd:sc}(F:sn K "can_run" "can_run" tE f fd) (T:bM K mg CP):Db P w K mg base AC 1 f fd ["stops","comes","goes","stop_count"] uz:=by(
refine F.ok kS (λvs H Q E h=>?_) (λNk Nj outer s0 H vs Q E hr h=>?_)
·obtain⟨s,c,g,l,n,rfl,_⟩:=h;rfl
·obtain⟨s,c,g,l,n,rfl,J,D,hg,k⟩:=h;refine⟨_,On (tt (i:=4) kS.nd rfl (IN rfl) Fa)
  (On (cw bD rfl (JD rfl T.zip (WF (I 0) (WF (I 1) (WF (I 2) PP)))) (cb rfl (re (v4 (i:=5) kS.nd rfl (IN rfl)) (re (v4 (i:=6) kS.nd rfl (IN rfl)) (re (v4 (i:=7) kS.nd rfl (IN rfl)) cc))))
   (On (kt (PW.pt (eb (he kC (I 5) (I 3) (lm _)) (eb (he dO (I 6) (I 4) (lm _)) (eb (he dO (I 7) (I 6) (lm _)) (gA (he kC (I 7) (nm T.mi rfl) (lm _))))))) (FM (tz mn)) io)
   (FM (tt (i:=4) kS.nd rfl (IN rfl) (I 7)))))
  (FM (tz mn))),?_⟩
 refine⟨_,O,_,O,_,O,s,c,g,_,_,_,O,TW.of J,TW.of D,TW.of hg,?_⟩;refine FF (λi ZB H2=>∃gone u A C,ZB=[some (.ref s),some (.ref c),some (.ref g),some (.int n),some (.int gone),u,A,C]/\hp n 0 l=hp n gone (l.drop i)/\Tl H H2)
  ⟨0,none,none,none,O,O,Tl.rfl' _⟩ (λi ZB H2 _ ⟨_,_,_,_,_,_,j⟩=>⟨TW.of (j _ _ J),TW.of (j _ _ D),TW.of (j _ _ hg)⟩) (by rw[FS,FS]) (by rw[FS,FS]) ?_ ?_
 ·rintro i x y z t ZB H2 m r hz ⟨gone,u,A,C,rfl,e,j⟩ Y;rw[pr]at m r hz;cases q:l[i]? with
  |none=>rw[q]at m;cases m
  |some p=>
   obtain⟨a,b,d⟩:=p;rw[q]at m r hz;cases m;cases r;cases hz;have L:=(ay.mp q);have U:l.drop i=(a,b,d)::l.drop (i+1):=by rw[w6 L.1,L.2]
   rw[U]at e;have N:Tl H (T0 H2 t (.tup [XV.int a,XV.int b,XV.int d])):=j.tr (Tl.new Y);refine⟨t,_,O,pm.of KE,O,_,_,O,_,_,O,_,_,O,O,?_⟩;have o:(n<=a\/b<gone\/d<b\/2880<=d)->Q (.bl false) (T0 H2 t (.tup [XV.int a,XV.int b,XV.int d])):=λh=>by
    have:=k _ N;rw[e]at this;simp only[hp,No h]at this;exact this
   refine⟨_,O,_,O,_,_,O,O,_,O,?_⟩;by_cases c1:n<=a
   ·rw[s2 c1];exact ww (ww (o (.inl c1)))
   rw[sw c1];refine v6 ⟨_,O,_,O,_,_,O,O,_,O,?_⟩;by_cases c2:b<gone
   ·rw[s2 c2];exact ww (ww (o (.inr (.inl c2))))
   rw[sw c2];refine v6 ⟨_,O,_,O,_,_,O,O,_,O,?_⟩;by_cases c3:d<b
   ·rw[s2 c3];exact ww (ww (o (.inr (.inr (.inl c3)))))
   rw[sw c3];refine v6 ⟨_,O,_,_,O,O,_,O,?_⟩;by_cases c4:2880<=d
   ·rw[s2 c4];exact ww (o (.inr (.inr (.inr c4))))
   rw[sw c4];refine v6 ⟨_,O,d,_,_,_,O,?_,N⟩;rw[e];simp only[hp];rw[Ps (by omega)]
 ·rintro ZB H2 ⟨gone,u,A,C,rfl,e,j⟩;rw[FS,Bq]at e;have:=k H2 j;rw[e]at this;exact this)
def cG:List Int->List (Int×Int×Int)
 |a::b::c::l=>(a,b,c)::cG l
 |_=>[]
theorem AE:∀(l:List Int) (n i:Nat),l.length=3*n->i<n->(cG l)[i]?=some (l.getD (3*i) 0,l.getD (3*i+1) 0,l.getD (3*i+2) 0)
 |a::b::c::l,n,0,_,_=>rfl
 |a::b::c::l,n,i+1,h,hi=>by
  have:=AE l (n-1) i (by simp at h;omega) (by omega);show(cG l)[i]?=_;rw[this];have d:3*(i+1)=3*i+1+1+1:=by omega
  simp[d,List.getD_cons_succ]
 |[],n,i,h,hi=>by simp at h;omega
 |[_],n,i,h,hi=>by simp at h;omega
 |[_,_],n,i,h,hi=>by simp at h;omega
theorem AF:∀(l:List Int) (n:Nat),l.length=3*n->(cG l).length=n
 |[],n,h=>by simp at h;simp[cG];omega
 |[_],n,h=>by simp at h;omega
 |[_,_],n,h=>by simp at h;omega
 |a::b::c::l,n,h=>by
  have:=AF l (n-1) (by simp at h;omega);show(cG l).length+1=n;rw[this];simp at h;omega
theorem zy (l:List Int) (n k:Nat) (h:l.length=3*n) (hn:0<n) (b:k<3):eu (l.map XV.int) (some (k:Int)) none (some 3)=(s5 n).map λi=>XV.int (l.getD (3*i+k) 0):=by(
have e:fz (some (k:Int)) none (some 3) (l.map XV.int).length=((k:Int),((3*n:Nat):Int),3):=by
 rw[FS,h];unfold fz;simp only[wx,show(3:Int)>0 by decide,aX];rw[Ps (by omega)]
 congr 1
 omega
unfold eu;rw[e];show(mT (k:Int) ((3*n:Nat):Int) 3).filterMap ((l.map XV.int)[·]?)=_;have a:mT (k:Int) ((3*n:Nat):Int) 3=(s5 n).map λi=>3*i+k:=by
 unfold mT;simp only[show(3:Int)>0 by decide,aX];rw[No (by omega)];have:((((3*n:Nat):Int)-(k:Int)+3-1)/3).toNat=n:=by omega
 rw[this];refine ei λi _=>?_;omega
rw[a,q2];have:=yh (ix:=λi=>3*i+k) (xs:=l.map XV.int) (ys:=(s5 n).map λi=>XV.int (l.getD (3*i+k) 0)) λi hi=>by
 simp only[FS,fH]at hi;rw[Hl (by omega) 0,pr,f' hi];rfl
simp only[FS,fH]at this;exact this)
theorem sQ {a:Type}(f:Int×Int×Int->a) (l:List Int) (n:Nat) (h:l.length=3*n):(cG l).map f=(s5 n).map λi=>f (l.getD (3*i) 0,l.getD (3*i+1) 0,l.getD (3*i+2) 0):=by(
apply vm;intro i;by_cases hi:i<n
·rw[pr,AE l n i h hi,pr,f' hi];rfl
·rw[hP (by rw[FS,AF l n h];omega),hP (by simp;omega)])
def ia (x:Int×Int×Int):wc:=⟨x.1.toNat,x.2.1.toNat,x.2.2.toNat⟩
theorem rA:∀l:List Int,fC (cA l)=(cG l).map ia
 |[]=>rfl
 |[_]=>rfl
 |[_,_]=>rfl
 |a::b::c::l=>by
  show⟨a.toNat,b.toNat,c.toNat⟩::fC (cA l)=_;rw[rA l];rfl
theorem u2:∀(l:List Int),(∀z,z∈l->0<=z)->∀x,x∈cG l->0<=x.1/\0<=x.2.1/\0<=x.2.2
 |[],_,x,h=>by simp[cG]at h
 |[_],_,x,h=>by simp[cG]at h
 |[_,_],_,x,h=>by simp[cG]at h
 |a::b::c::l,h0,x,h=>by
  rcases s1.mp h with rfl|h
  ·exact⟨h0 a (by simp),h0 b (by simp),h0 c (by simp)⟩
  ·exact u2 l (λz hz=>h0 z (by simp[hz])) x h
def ih (g:Int):List (Int×Int×Int)->Bool
 |[]=>true
 |x::_=>decide (g<=x.2.1)
theorem z0 (T:Go):∀(l:List (Int×Int×Int)) (gone:Int),(∀x,x∈l->0<=x.1/\0<=x.2.1/\0<=x.2.2)->hp (T.stops.length:Int) gone l=(eG T (l.map ia)&&ih gone l)
 |[],_,_=>rfl
 |(s,c,g)::l,gone,h=>by
  obtain⟨h1,h2,n⟩:=h (s,c,g) (lc ..);simp only at h1 h2 n;have o:=z0 T l g λx a=>h x (on _ a);unfold hp;rw[o];have key:eG T (((s,c,g)::l).map ia)=((decide (s.toNat<T.stops.length)&&(decide (c.toNat<=g.toNat)&&decide (g.toNat<2880)))&&(eG T (l.map ia)&&ih g l)):=by
   unfold eG;cases l with
   |nil=>simp[ia,ih]
   |cons x l=>
    have a:=h x (by simp);have e:decide (g.toNat<=x.2.1.toNat)=decide (g<=x.2.1):=by rw[hU];omega
    simp only[na,List.all_cons,List.tail_cons,nF,ia,ih,e];generalize decide (s.toNat<T.stops.length)=b;generalize decide (c.toNat<=g.toNat)=d;generalize decide (g.toNat<2880)=f;generalize decide (g<=x.2.1)=i;generalize decide (x.1.toNat<T.stops.length)=j;generalize decide (x.2.1.toNat<=x.2.2.toNat)=k;generalize decide (x.2.2.toNat<2880)=m;cases b<;>cases d<;>cases f<;>cases i<;>cases j<;>cases k<;>cases m<;>simp
  rw[key];by_cases c1:(T.stops.length:Int)<=s\/c<gone\/g<c\/2880<=g
  ·rw[No c1];symm;rcases c1 with q|q|q|q
   ·rw[sw (show ¬s.toNat<T.stops.length by omega)];rfl
   ·simp only[ih,sw (show ¬gone<=c by omega),m9]
   ·rw[sw (show ¬c.toNat<=g.toNat by omega)];simp
   ·rw[sw (show ¬g.toNat<2880 by omega)];simp
  ·rw[Ps c1];rw[s2 (show s.toNat<T.stops.length by omega),s2 (show c.toNat<=g.toNat by omega),s2 (show g.toNat<2880 by omega)];simp only[ih,s2 (show gone<=c by omega),m_,wt]
theorem Ko (T:Go) (l:List Int) (h:∀z,z∈l->0<=z):hp (T.stops.length:Int) 0 (cG l)=eG T (fC (cA l)):=by(
have hn:=u2 l h;rw[z0 T _ 0 hn,rA];cases e:cG l with
|nil=>simp[ih]
|cons x r=>
 have:=hn x (by rw[e];simp);simp only[ih,s2 this.2.1,wt])
def uO (CP CN:B):Sp:=λvs H Q _=>∃(A:PA) (T:Go) (m:Nat) (d:Int) (a:B) (row:List Int),vs=[XV.ref A.x,.int d,.ref a]/\H a=some (.lst (row.map XV.int))/\(∀z,z∈row->0<=z)/\
 ((1<=d/\d<=127)/\(2<=(row.length:Int)/3/\(row.length:Int)/3<=64)->(row.length:Int)=3*((row.length:Int)/3))/\em CP CN H A T m/\nR T/\m<=1000/\
 ∀V,em CP CN V A (EQ T (.trip d (cA row) ((row.length:Int)/3))).2 (m+1)->Ev A.own H V->Q (.int (EQ T (.trip d (cA row) ((row.length:Int)/3))).1.code) V
theorem pa:pc ["self","days","calls","stops","comes","goes"] ["self","days","calls"] (sB s_):=nl rfl rfl rfl (by decide +kernel)
theorem sS {K:xz}{ZB:St}{H:Hp}{j:Nat}{a:B}{l:List Int}{n k:Nat}{z:Int}{Q:VK}(d:z=(k:Int)) (h0:ZB[j]?=some (some (.ref a))) (e:TW K H a (l.map XV.int)) (c:l.length=3*n) (hn:0<n) (b:k<3) (hz:n<=1000000)
  (q:∀p,H p=none->Q (.ref p) (T0 H p (.lst ((s5 n).map λi=>XV.int (l.getD (3*i+k) 0))))):uY K (bQ j) (pR (tC (.int z))) pQ (pR (tC (.int 3))) ZB H Q:=by(
subst d;refine⟨_,h0,_,O,_,O,a,_,O,e,(by intro z;cases z),?_,λp f=>?_⟩
·rw[zy l n k c hn b,FS,fH];exact d1 (small hz)
·rw[zy l n k c hn b];exact q p f)
theorem H8 {f NH:B}{fd NZ:sc}(F:sn K "add_trip" "Plan.add_trip" s_ f fd) (T:bM K mg CP) (N_:Db P w K mg base AC 1 NH NZ ["stops","comes","goes","stop_count"] uz) (Oa:Binds K NZ ["stops","comes","goes","stop_count"] []) (Ox:mg "can_run"=some (.ref NH)) (Oq:cL K (.ref NH)=true):Db P w K mg base AC 2 f fd ["self","days","calls"] (uO CP CN):=by(
refine F.ok pa (λvs H Q E h=>?_) (λOH OG outer s H vs Q E hr h=>?_)
·obtain⟨A,r,m,d,N7,row,rfl,_⟩:=h;rfl
·obtain⟨A,r,m,d,N7,row,rfl,Nz,h0,N0,Ny,hT,hm,k⟩:=h;have OK:∀ {X:Cx},True:=λ{_}=>trivial;refine⟨_,On (kt (PW.pt (eb (bI (jx b' b' Fa (I 1) Fa)) (gA (bI (jx b' b' Fa (kw I7 (aV bV (by rfl) T.len bR (WF (I 2) PP)) Fa) Fa))))) (FM (tz (nm T.c2 rfl))) io)
  (On (tt (i:=3) pa.nd rfl (IN rfl) (kI (I 2) (dQ Fa) fj (dQ Fa)))
  (On (tt (i:=4) pa.nd rfl (IN rfl) (kI (I 2) (dQ Fa) fj (dQ Fa)))
  (On (tt (i:=5) pa.nd rfl (IN rfl) (kI (I 2) (dQ Fa) fj (dQ Fa)))
  (On (kt (bI (cg (ii N_ hr rfl Ox Oq Oa .nil wE (WF (I 3) (WF (I 4) (WF (I 5) (WF (aV bV (by rfl) T.len bR (WF (zn (I 0) rfl) PP)) PP))))))) (FM (tz (nm T.c4 rfl))) io)
  (On (kt (he cQ (aV bV (by rfl) T.len bR (WF (zn (I 0) rfl) PP)) (nm T.mt rfl) (lm _)) (FM (tz (nm T.c8 rfl))) io)
  (On (dL (kG m' nc qH oI (zn (I 0) rfl)))
  (On (dL (cv b8 cV cW cP (zn (I 0) rfl) (WF (bP (WF (I 1) (WF (I 3) (WF (I 4) (WF (I 5) PP))))) PP)))
  (FM (tz (kw gy (aV bV (by rfl) T.len bR (WF (zn (I 0) rfl) PP)) Fa)))))))))),?_⟩
 generalize hn:(row.length:Int)/3=n at N0 k;have NX:(u8 d 1 127&&u8 n 2 64)=false->Q (.int (-2)) H:=λe=>by
  have L:EQ r (.trip d (cA row) n)=(bC (-2),r):=by simp only[EQ,e,aX]
  rw[L]at k;exact k H (Ny.more (by omega)) (Ev.rfl' _ _)
 refine jy (K:=K) (d:=d) (λR q=>⟨_,O,q⟩) ⟨_,O,?_⟩;cases Nq:(decide (1<=d)&&decide (d<=127))with
 |false=>exact ww (ww (NX (by rw[show u8 d 1 127=false from Nq];rfl)))
 |true=>
  refine v6 ?_;refine jy (K:=K) (d:=n) (λR q=>?_) ⟨_,O,?_⟩
  ·refine⟨_,O,N7,_,O,.inl (TW.of Nz),_,_,O,O,⟨by decide,by decide⟩,?_⟩;show R (XV.int (((row.map XV.int).length:Int)/3)) H;rw[FS,hn];exact q
  cases en:(decide (2<=n)&&decide (n<=64))with
  |false=>exact ww (NX (by rw[show u8 d 1 127=true from Nq,show u8 n 2 64=false from en];rfl))
  |true=>
   have all:(u8 d 1 127&&u8 n 2 64)=true:=by rw[show u8 d 1 127=true from Nq,show u8 n 2 64=true from en];rfl
   simp only[ga,f4]at Nq en;have OI:=N0 ⟨Nq,en⟩;obtain⟨q,rfl⟩:∃q:Nat,n=(q:Int):=⟨n.toNat,by omega⟩;have Nm:row.length=3*q:=by omega
   refine v6 ?_;dsimp only[pP,kY,iA,bG];refine sS (K:=K) (j:=2) (k:=0) rfl ?h0 (TW.of Nz) Nm (by omega) (by decide) (by omega) λsa N6=>?_
   case h0=>rfl
   have Nn:=Tl.new (o:=HO.lst ((s5 q).map λi=>XV.int (row.getD (3*i+0) 0))) N6;generalize Og:T0 H sa (.lst ((s5 q).map λi=>XV.int (row.getD (3*i+0) 0)))=H1 at Nn⊢;have Ob:H1 sa=some (.lst ((s5 q).map λi=>XV.int (row.getD (3*i+0) 0))):=by rw[<- Og];exact KE
   refine sS (K:=K) (j:=2) (k:=1) rfl ?h0 (TW.of (Nn _ _ Nz)) Nm (by omega) (by decide) (by omega) λJ N4=>?_
   case h0=>rfl
   have Nw:=Tl.new (o:=HO.lst ((s5 q).map λi=>XV.int (row.getD (3*i+1) 0))) N4;generalize Oh:T0 H1 J (.lst ((s5 q).map λi=>XV.int (row.getD (3*i+1) 0)))=H2 at Nw⊢;have Oc:H2 J=some (.lst ((s5 q).map λi=>XV.int (row.getD (3*i+1) 0))):=by rw[<- Oh];exact KE
   refine sS (K:=K) (j:=2) (k:=2) rfl ?h0 (TW.of (Nw _ _ (Nn _ _ Nz))) Nm (by omega) (by decide) (by omega) λN N5=>?_
   case h0=>rfl
   have NA:=Tl.new (o:=HO.lst ((s5 q).map λi=>XV.int (row.getD (3*i+2) 0))) N5;generalize Oi:T0 H2 N (.lst ((s5 q).map λi=>XV.int (row.getD (3*i+2) 0)))=Np at NA⊢;have Od:Np N=some (.lst ((s5 q).map λi=>XV.int (row.getD (3*i+2) 0))):=by rw[<- Oi];exact KE
   have N8:Tl H Np:=Nn.tr (Nw.tr NA);have NK:=Ny.same N8;have NU:Np sa=some (.lst ((cG row).map λx=>XV.int x.1)):=by rw[sQ _ row q Nm];exact NA _ _ (Nw _ _ Ob)
   have NV:Np J=some (.lst ((cG row).map λx=>XV.int x.2.1)):=by rw[sQ _ row q Nm];exact NA _ _ Oc
   have NW:Np N=some (.lst ((cG row).map λx=>XV.int x.2.2)):=by rw[sQ _ row q Nm];exact Od
   refine⟨_,O,_,O,_,O,_,O,A.x,CP,A.dx,_,_,O,NK.ob,T.cl,T.chg,O,A.c,_,O,.inl (TW.of NK.chg),sa,J,N,cG row,_,O,NU,NV,NW,λNk Nx=>⟨_,O,?_⟩⟩;rw[FS,Ko r row h0];have NQ:=N8.tr Nx;have U:=NK.same Nx;cases NF:eG r (fC (cA row))with
   |false=>
    have L:EQ r (.trip d (cA row) q)=(bC (-4),r):=by simp only[EQ,all,NF,aX,cU,aF]
    rw[L]at k;exact ww (k Nk (U.more (by omega)) (NQ.but _))
   |true=>
    refine v6 ?_;obtain⟨OC,NC,ND⟩:=U.trips;have N3:OC.length=r.trips.length:=Paired.length ND;refine⟨_,O,A.x,CP,A.dx,_,_,O,U.ob,T.cl,T.trips,O,A.t,_,O,.inl (TW.of NC),O,_,O,?_⟩;by_cases c:r.trips.length=1024
    ·have L:EQ r (.trip d (cA row) q)=(bC (-8),r):=by simp only[EQ,all,NF,c,aX,cU,aF]
     rw[L]at k;rw[s2 (by rw[N3,c];rfl)];exact ww (k Nk (U.more (by omega)) (NQ.but _))
    ·have L:EQ r (.trip d (cA row) q)=(bC r.trips.length,{r with trips:=r.trips++[⟨d.toNat,fC (cA row),g2 7 (0,0)⟩]}):=by simp only[EQ,all,NF,c,cU,aF]
     rw[L]at k;rw[sw (by rw[N3];intro z;injection z with z;omega)];refine v6 ?_;obtain⟨OL,N2,_⟩:=U.bb;refine⟨_,O,A.x,CP,A.dx,_,_,O,U.ob,T.cl,T.bb,O,.inr (.inr (.inl ⟨O,.inr ⟨_,N2⟩⟩)),A.n,_,O,O,N2,?_⟩;obtain⟨D,Om⟩:=U.clear;obtain⟨OF,OD,OE⟩:=D.walks;obtain⟨ts,NC,ND⟩:=D.trips;obtain⟨lk,Ot,OJ,NN⟩:=D.late;have n:=kE Ny.nd;have Ov:ts.length=r.trips.length:=Paired.length ND;refine⟨_,O,A.x,CP,A.dx,_,_,O,D.ob,T.cl,T.trips,O,.inl ⟨O,_,TW.of NC⟩,_,O,_,O,_,O,_,O,by show 4<=Is;decide,λt NM=>?_⟩;have NR:∀y,y∈A.own->y≠t:=λy Nu z=>D.there Nu (by rw[z];exact NM);refine⟨A.t,_,_,O,O,(Uf (NR A.t (by simp[PA.own]))).trans NC,small (by have:=hT.trips;omega),?_⟩;generalize Nr:T0 (T0 (T0 Nk A.n (.dT [])) t (.tup [XV.int d,XV.ref sa,XV.ref J,XV.ref N])) A.t (.lst (ts++[XV.ref t]))=C;have Nv:Tl (hide A.own (T0 Nk A.n (.dT []))) (hide A.own C):=by rw[<- Nr];exact oL (by simp[PA.own]) NM
     have Nl:∀y,y∈A.own->y≠A.t->C y=(T0 Nk A.n (.dT [])) y:=λy Nu Ow=>by rw[<- Nr,Uf Ow,Uf (NR y Nu)]
     have NY:C A.t=some (.lst (ts++[XV.ref t])):=by rw[<- Nr];exact KE
     have N9:t∉A.own:=λz=>NR t z rfl;have NI:∀ {b:B},H b=none->b∉A.own:=λNu z=>Ny.there z Nu;have Oy:H J=none:=Nn.free N4;have Oz:H N=none:=Nn.free (Nw.free N5);have NS:∀ {b:B}{u:HO},b∉A.own->Nk b=some u->hide A.own C b=some u:=λ{b u} OA NO=>Nv b u (by rw[Om];exact wv.mpr ⟨OA,NO⟩);have Oj:=rA row;have NL:=u2 row h0;have NG:∀(g:wc->Nat) (f:Int×Int×Int->Int),(∀x,x∈cG row->((g (ia x):Nat):Int)=f x)->(fC (cA row)).map (λa=>Sc (g a))=(cG row).map λx=>XV.int (f x):=λg f Ol=>by
      rw[Oj,be];refine ei λx Nj=>?_;show Sc (g (ia x))=_;unfold Sc;rw[Ol x Nj]
     have OB:j8 (hide A.own C) (XV.ref t) ⟨d.toNat,fC (cA row),g2 7 (0,0)⟩:=by
      refine⟨sa,J,N,⟨t,O,wv.mpr ⟨N9,?_⟩⟩,?_,?_,?_⟩
      ·rw[<- Nr,Uf (λz=>N9 (by rw[z];simp[PA.own])),KE];simp only[Sc,e1 (show 0<=d by omega)]
      ·rw[NG (·.halt) (·.1) λx Nj=>e1 (NL x Nj).1];exact NS (NI N6) (Nx _ _ NU)
      ·rw[NG (·.comes) (·.2.1) λx Nj=>e1 (NL x Nj).2.1];exact NS (NI Oy) (Nx _ _ NV)
      ·rw[NG (·.goes) (·.2.2) λx Nj=>e1 (NL x Nj).2.2];exact NS (NI Oz) (Nx _ _ NW)
     refine⟨_,O,A.x,CP,A.dx,_,_,O,(Nl A.x (by simp[PA.own]) (n 0 2 (by decide) (by decide) (by decide))).trans D.ob,T.cl,T.trips,O,A.t,_,O,.inl (TW.of NY),_,_,O,O,?_⟩;have Of:Ev A.own H C:=by
      rw[<- Nr];exact(((NQ.but _).put (by simp[PA.own])).new NM).put (by simp[PA.own])
     have Oo:j4 (hide A.own C) lk (r.trips++[⟨d.toNat,fC (cA row),g2 7 (0,0)⟩]):=by
      have Ou:=NN.same Nv;refine⟨λi e p Y N1=>?_,λi e hi=>NN.no i e (by rw[lv]at hi;omega)⟩;by_cases hi:i<r.trips.length
      ·rw[nu hi]at Y;exact Ou.at_ i e p Y N1
      ·rw[nt (by omega)]at Y;rw[NN.no i e (by omega)];have:i-r.trips.length=0:=by
        cases NO:i-r.trips.length with
        |zero=>rfl
        |succ m=>rw[NO]at Y;simp at Y
       rw[this]at Y;cases Y;show(g2 7 ((0:Nat),(0:Nat))).getD e (0,0)=(0,0);rw[nw,ny];simp[N1]
     have:=k C (D.build (T':= {r with trips:=r.trips++[⟨d.toNat,fC (cA row),g2 7 (0,0)⟩]}) Nv (Nl A.x (by simp[PA.own]) (n 0 2 (by decide) (by decide) (by decide))) ((Nl A.c (by simp[PA.own]) (n 1 2 (by decide) (by decide) (by decide))).trans D.chg) ⟨_,NY,Paired.snoc (aj (λ_ _ q=>q.same Nv) ND) OB⟩ ⟨OF,(Nl A.w (by simp[PA.own]) (n 3 2 (by decide) (by decide) (by decide))).trans OD,aj (λ_ _ q=>q.same Nv) OE⟩ ⟨lk,(Nl A.l (by simp[PA.own]) (n 4 2 (by decide) (by decide) (by decide))).trans Ot,by omega,Oo⟩ ((Nl A.n (by simp[PA.own]) (n 5 2 (by decide) (by decide) (by decide))).trans KE)) Of;have Oe:((ts++[XV.ref t]).length:Int)-1=(r.trips.length:Int):=by rw[lv,Ov,bz];omega
     show Q (XV.int (((ts++[XV.ref t]).length:Int)-1)) _;rw[Oe];exact this)
theorem x3 (xs:List XV) {c:Int}(h:0<=c):el xs none (some c)=xs.take c.toNat:=by(
obtain⟨k,rfl⟩:∃k:Nat,c=(k:Int):=⟨c.toNat,by omega⟩;unfold el;rw[HT.z5,HT.o8,Bw,d2,Nat.sub_zero];by_cases q:k<=xs.length
·rw[jT q]
·rw[Cm (by omega),de,vf (by omega)])
theorem EC (xs:List XV) {c:Int}(h:0<=c):el xs (some c) none=xs.drop c.toNat:=by(
obtain⟨k,rfl⟩:∃k:Nat,c=(k:Int):=⟨c.toNat,by omega⟩;unfold el;rw[HT.z5,HT.o8,d2];by_cases q:k<=xs.length
·rw[jT q,vf (by rw[iY];omega)]
·rw[Cm (by omega),Bq,vg (by omega)];simp)
def xj (z:Int):XV->XV
 |.int i=>.int (i+z)
 |v=>v
theorem zI {K:xz}{ZB:St}{H:Hp}{j v u:Nat}{a:B}{l m:List Int}{tl th:TO}{lo hi:Option Int}{z:Int}{Q:VK}(h0:ZB[j]?=some (some (.ref a))) (h:∀R,R lo H->tl ZB H R) (g:∀R,R hi H->th ZB H R) (e:TW K H a (l.map XV.int)) (hm:el (l.map XV.int) lo hi=m.map XV.int) (hz:m.length<=Is)
  (hv:∀x,np ((np ZB [v]).set v (some x)) [v]=np ZB [v]) (hg:∀x,((np ZB [v]).set v (some x))[v]?=some (some x)) (hu:∀x,((np ZB [v]).set v (some x))[u]?=some (some (.int z)))
  (k:∀p D,H p=none->H D=none->D≠p->Q (.ref D) (T0 (T0 H p (.lst (m.map XV.int))) D (.lst ((m.map λx=>x+z).map XV.int)))):
  kX (r2 K (Az (zG K) (bQ j) tl th)) (bG v) iB (hy (dR λi j=>.int (i+j)) (bQ v) (bQ u)) [v] ZB H Q:=by(
refine⟨_,h0,h _ (g _ ⟨a,_,O,e,λp f=>?_⟩)⟩;rw[hm];refine⟨p,O,⟨_,TW.of KE⟩,λD b=>?_⟩;have c:D≠p:=λz=>by rw[z,KE]at b;cases b
refine ox (xj z) b (TW.of KE) (by rw[FS];exact hz) (λx n H2 q r o=>?_) ?_
·obtain⟨i,_,rfl⟩:=m0.mp n;exact⟨hv _,_,hg _,_,hu _,i,z,O,O,o⟩
·have d:(m.map XV.int).map (xj z)=(m.map λx=>x+z).map XV.int:=by
  rw[be,be];rfl
 rw[d];exact k p D f (by rw[Uf c]at b;exact b) c)
def hs (l:List Int) (c:Nat) (b s:Int):List Int:=(l.take c).map (λx=>x+b)++(l.drop c).map λx=>x+s
theorem Ae (l:List Int) (c:Nat) (b s:Int):hs l c b s=(s5 l.length).map λi=>l.getD i 0+(if i<c then b else s):=by(
unfold hs;apply vm;intro i;by_cases hi:i<l.length
·rw[pr,f' hi];by_cases a:i<c
 ·rw[nu (by rw[FS,aK];omega),pr,A8 a,im hi];simp[a,hi]
 ·rw[nt (by rw[FS,aK];omega),FS,aK,pr,List.getElem?_drop,show c+(i-min c l.length)=i by omega,im hi];simp[a,hi]
·rw[hP (by rw[lv,FS,FS,aK,iY];omega),hP (by rw[FS,fH];omega)])
def uN:Sp:=λvs H Q _=>∃(a:B) (l:List Int) (c b s:Int),vs=[.ref a,.int c,.int b,.int s]/\H a=some (.lst (l.map XV.int))/\0<=c/\l.length<=1000000/\
 ∀(V:Hp) (p:B),Tl H V->H p=none->V p=some (.lst ((hs l c.toNat b s).map XV.int))->Q (.ref p) V
theorem mF:pc ["minutes","call","before","since","minute"] ["minutes","call","before","since"] (sB ub):=nl rfl rfl rfl (by decide +kernel)
theorem IW {f:B}{fd:sc}(F:sn K "shifted" "shifted" ub f fd):Db P w K mg base AC 1 f fd ["minutes","call","before","since"] uN:=by(
refine F.ok mF (λvs H Q E h=>?_) (λNl Nk outer s0 H vs Q E hr h=>?_)
·obtain⟨a,l,c,b,s,rfl,_⟩:=h;rfl
·obtain⟨a,l,c,b,s,rfl,t,y,Nm,k⟩:=h;refine⟨_,FM (tz (kw I6
  (iu (own:=[("minute",4)]) rfl mF.nd (cf (mq mG (I 0) fj (dQ (I 1)))) (e9 rfl) (λ_ _ _ _ _=>v4 (i:=4) mF.nd rfl (IN rfl) (dE rfl)) (λ_ _ _ _ _=>fW) (λ_ _ _ _ _=>kw bu (I 4) (I 2)))
  (iu (own:=[("minute",4)]) rfl mF.nd (cf (mq mG (I 0) (dQ (I 1)) fj)) (e9 rfl) (λ_ _ _ _ _=>v4 (i:=4) mF.nd rfl (IN rfl) (dE rfl)) (λ_ _ _ _ _=>fW) (λ_ _ _ _ _=>kw bu (I 4) (I 3))))),?_⟩
 have sz:∀ {m:Nat},m<=1000000->m<=Is:=λh=>d1 (small h);dsimp only[hy,Ay];refine zI (K:=K) (j:=0) (v:=4) (u:=2) (l:=l) (m:=l.take c.toNat) (lo:=none) (hi:=some c) (z:=b) ?h0 ?h1 ?h2 (TW.of t) ?hm (sz (by rw[aK];omega)) ?hv ?hg ?hu λNj d U J N=>?_
 case h0=>rfl
 case h1=>exact λR q=>q
 case h2=>exact λR q=>⟨_,O,c,O,q⟩
 case hm=>rw[x3 _ y,mM]
 case hv=>exact λ_=>rfl
 case hg=>exact λ_=>rfl
 case hu=>exact λ_=>rfl
 generalize o:T0 (T0 H Nj (.lst ((l.take c.toNat).map XV.int))) d (.lst (((l.take c.toNat).map λx=>x+b).map XV.int))=H1;have g:Tl H H1:=by rw[<- o];exact(Tl.new U).tr (Tl.new (by rw[Uf N];exact J))
 have C:H1 d=some (.lst (((l.take c.toNat).map λx=>x+b).map XV.int)):=by rw[<- o];exact KE
 refine zI (K:=K) (j:=0) (v:=4) (u:=3) (l:=l) (m:=l.drop c.toNat) (lo:=some c) (hi:=none) (z:=s) ?h0 ?h1 ?h2 (TW.of (g _ _ t)) ?hm (sz (by rw[iY];omega)) ?hv ?hg ?hu λp2 e Y L T=>?_
 case h0=>rfl
 case h1=>exact λR q=>⟨_,O,c,O,q⟩
 case h2=>exact λR q=>q
 case hm=>rw[EC _ y,vu]
 case hv=>exact λ_=>rfl
 case hg=>exact λ_=>rfl
 case hu=>exact λ_=>rfl
 generalize r:T0 (T0 H1 p2 (.lst ((l.drop c.toNat).map XV.int))) e (.lst (((l.drop c.toNat).map λx=>x+s).map XV.int))=H2;have n:Tl H1 H2:=by rw[<- r];exact(Tl.new Y).tr (Tl.new (by rw[Uf T];exact L))
 have D:H2 e=some (.lst (((l.drop c.toNat).map λx=>x+s).map XV.int)):=by rw[<- r];exact KE
 refine⟨d,e,_,_,O,O,n _ _ C,D,sz (by simp only[FS,aK,iY];omega),λp A=>?_⟩;refine k _ p ((g.tr n).tr (Tl.new A)) ((g.tr n).free A) ?_;rw[KE,<-bA];rfl)
def sY (d:Nat) (k:Int) (p:cr):bn:=(p.calls.map (·.halt),hs (p.calls.map λa=>(a.comes:Int)) ((p.late.getD d (0,0)).1+1) (k*1440) (k*1440+((p.late.getD d (0,0)).2:Nat)),hs (p.calls.map λa=>(a.goes:Int)) (p.late.getD d (0,0)).1 (k*1440) (k*1440+((p.late.getD d (0,0)).2:Nat)))
theorem Kn (M:Nat) (k:Int) (p:cr):sY (fB M k) k p=aJ M k p:=by(
unfold sY aJ;rw[Ae,Ae];simp only[FS];have b:∀i,i<p.calls.length->(p.calls.map λa=>((a.comes:Nat):Int)).getD i 0=(((p.calls.getD i ⟨0,0,0⟩).comes:Nat):Int):=λi hi=>by
 simp[nw,pr,im hi]
have c:∀i,i<p.calls.length->(p.calls.map λa=>((a.goes:Nat):Int)).getD i 0=(((p.calls.getD i ⟨0,0,0⟩).goes:Nat):Int):=λi hi=>by
 simp[nw,pr,im hi]
refine cB (Prod.mk _) (congr (cB Prod.mk ?_) ?_)
·refine ei λi hi=>?_;rw[b i (bJ.mp hi)];unfold w3 w2;split<;>split<;>omega
·refine ei λi hi=>?_;rw[c i (bJ.mp hi)];unfold w4 w2;split<;>split<;>omega)
def ov (G H V:Hp):Hp:=λa=>if((H a).isNone||(G a).isSome)=true then V a else none
theorem Jd {G H V:Hp}{a:B}{o o':HO}(h:G a=some o) (h':V a=some o'):ov G H V a=some o':=by
 unfold ov;rw[No (by rw[h];simp)];exact h'
theorem sC {G H V:Hp}{a:B}{o':HO}(h:H a=none) (h':V a=some o'):ov G H V a=some o':=by
 unfold ov;rw[No (by rw[h];simp)];exact h'
theorem Jc {G H V:Hp}{a:B}{o:HO}(h:H a=some o) (h':G a=none):ov G H V a=none:=by
 unfold ov;rw[Ps (by rw[h,h'];simp)]
theorem Je {G H V:Hp}:Tl (ov G H V) V:=λa o e=>by
 unfold ov at e;split at e
 ·exact e
 ·cases e
def uM (CP CN:B):Sp:=λvs H Q _=>∃(G:Hp) (A:PA) (T:Go) (m i d:Nat) (k:Int) (p:cr),vs=[.ref A.x,Sc i,.int k,Sc d]/\Tl G H/\em CP CN G A T m/\T.trips[i]?=some p/\d<7/\(-1<=k/\k<=1)/\p.calls.length<=1000/\
 ∀(V:Hp) (t:B),Tl H V->fP (ov G H V) (.ref t) ((i,k),sY d k p)->Q (.ref t) V
theorem gB:pc ["self","trip","begins","weekday","days","stops","comes","goes","midnight","call","minutes","came","gone"] ["self","trip","begins","weekday"] (sB t8):=nl rfl rfl rfl (by decide +kernel)
theorem IS {f C:B}{fd Nn:sc}(F:sn K "run_of" "Plan.run_of" t8 f fd) (T:bM K mg CP) (Nj:Db P w K mg base AC 1 C Nn ["minutes","call","before","since"] uN) (Nk:Binds K Nn ["minutes","call","before","since"] []) (Nw:mg "shifted"=some (.ref C)) (Nv:cL K (.ref C)=true):Db P w K mg base AC 2 f fd ["self","trip","begins","weekday"] (uM CP CN):=by
 refine F.ok gB (λvs H Q E h=>?_) (λNY NW outer s0 H vs Q E hr h=>?_)
 ·obtain⟨G,A,Nz,m,i,d,k,p,rfl,_⟩:=h;rfl
 ·obtain⟨G,A,Nz,m,i,d,k,p,rfl,y,D,Nr,hd,NZ,hz,NO⟩:=h;have Nq:=D.same y;have hu:=hc hr;refine⟨_,On (du (Ch wT (zn (I 0) rfl) (I 1) (λ_ _=>rfl)) (cb rfl (re (v4 (i:=4) gB.nd rfl (IN rfl)) (re (v4 (i:=5) gB.nd rfl (IN rfl)) (re (v4 (i:=6) gB.nd rfl (IN rfl)) (re (v4 (i:=7) gB.nd rfl (IN rfl)) cc))))))
   (On (tt (i:=8) gB.nd rfl (IN rfl) (kw I9 (I 2) (nm T.md rfl)))
   (On (du (sG hu (zn (I 0) rfl) (bP (WF (I 1) (WF (I 3) PP))) (bP (WF Fa (WF Fa PP))) ⟨O,O,O,O⟩) (cb rfl (re (v4 (i:=9) gB.nd rfl (IN rfl)) (re (v4 (i:=10) gB.nd rfl (IN rfl)) cc))))
   (On (tt (i:=11) gB.nd rfl (IN rfl) (ii Nj hr rfl Nw Nv Nk .nil wE (WF (I 6) (WF (kw bu (I 9) Fa) (WF (I 8) (WF (kw bu (I 8) (I 10)) PP))))))
   (On (tt (i:=12) gB.nd rfl (IN rfl) (ii Nj hr rfl Nw Nv Nk .nil wE (WF (I 7) (WF (I 9) (WF (I 8) (WF (kw bu (I 8) (I 10)) PP))))))
   (FM (tz (bP (WF (I 1) (WF (I 2) (WF (I 5) (WF (I 11) (WF (I 12) PP)))))))))))),?_⟩
  obtain⟨ts,Y,NV⟩:=D.trips;obtain⟨lk,s,N0,NQ⟩:=D.late
  replace Y:=y _ _ Y
  replace s:=y _ _ s
  obtain⟨v,hv,sa,Nl,Np,⟨ta,rfl,NN⟩,Nu,NI,NL⟩:=cF NV Nr;have sub:Tl (hide A.own G) H:=λb o e=>y _ _ (bW A.own G _ _ e);refine⟨_,O,A.x,CP,A.dx,_,_,O,Nq.ob,T.cl,T.trips,O,_,O,A.t,_,_,_,O,O,TW.of Y,lw hv,ta,_,O,pm.of (sub _ _ NN),O,_,_,O,_,_,O,_,_,O,_,_,O,O,?_⟩;refine⟨_,O,k,1440,O,O,.inl ⟨by omega,by omega⟩,?_⟩;refine⟨_,O,A.x,CP,A.dx,_,_,O,Nq.ob,T.cl,T.late,O,A.l,O,.inr ⟨_,.inl s⟩,_,O,_,O,by show 2<=Is;decide,λtk NU=>⟨by show 2<=Is;decide,λz Ny=>?_⟩⟩;generalize J:T0 (T0 H tk (.tup [Sc i,Sc d])) z (.tup [XV.int 0,XV.int 0])=H1;have j:Tl H H1:=by rw[<- J];exact(Tl.new NU).tr (Tl.new Ny)
  have NF:H1 tk=some (.tup ((d9 i d).map kV)):=by rw[<- J];exact Tl.new Ny _ _ KE
  have NG:H1 z=some (.tup [XV.int 0,XV.int 0]):=by rw[<- J];exact KE
  refine⟨_,cC.t (k:=d9 i d) (j _ _ s) NF,?_⟩;obtain⟨c,mi,N⟩:∃c mi:Nat,p.late.getD d (0,0)=(c,mi):=⟨_,_,O⟩;have NH:∃n,(jp lk (d9 i d)).getD (XV.ref z)=XV.ref n/\H1 n=some (.tup [Sc c,Sc mi]):=by
   have:=NQ.at_ i d p Nr hd;rw[N]at this;cases q:jp lk (d9 i d)with
   |none=>
    rw[q]at this;have e:(c,mi)=(0,0):=this;cases e;exact⟨z,O,NG⟩
   |some v=>
    rw[q]at this;obtain⟨n,rfl,L⟩:=this;exact⟨n,O,j _ _ (sub _ _ L)⟩
  obtain⟨n,ND,L⟩:=NH;rw[ND];refine⟨n,_,O,pm.of L,O,_,_,O,_,_,O,O,?_⟩;have Nm:∀(g:wc->Nat),(p.calls.map λa=>Sc (g a))=(p.calls.map λa=>((g a:Nat):Int)).map XV.int:=λg=>by rw[be];rfl
  have NK:H1 Nl=some (.lst ((p.calls.map λa=>((a.comes:Nat):Int)).map XV.int)):=by rw[<- Nm (·.comes)];exact j _ _ (sub _ _ NI)
  refine⟨_,O,_,O,_,_,O,O,_,O,_,O,_,O,_,_,O,O,Nl,(p.calls.map λa=>((a.comes:Nat):Int)),_,_,_,O,NK,by omega,by rw[FS];omega,λH2 p2 r NR NA=>?_⟩;have NM:H2 Np=some (.lst ((p.calls.map λa=>((a.goes:Nat):Int)).map XV.int)):=by rw[<- Nm (·.goes)];exact r _ _ (j _ _ (sub _ _ NL))
  refine⟨_,O,_,O,_,O,_,O,_,O,_,_,O,O,Np,(p.calls.map λa=>((a.goes:Nat):Int)),_,_,_,O,NM,by omega,by rw[FS];omega,λNX U u NS NC=>?_⟩;refine⟨Sc i,O,XV.int k,O,XV.ref sa,O,XV.ref p2,O,XV.ref U,O,by show 5<=Is;decide,λt Nx=>?_⟩;have st:=Tl.new (o:=HO.tup [Sc i,XV.int k,XV.ref sa,XV.ref p2,XV.ref U]) Nx;refine NO _ t (((j.tr r).tr u).tr st) ⟨sa,p2,U,⟨t,O,sC (((j.tr r).tr u).free Nx) KE⟩,?_,?_,?_⟩
  ·have:=st _ _ (u _ _ (r _ _ (j _ _ (sub _ _ Nu))));rw[Jd (bW A.own G _ _ Nu) this];show some (HO.lst (p.calls.map λa=>Sc a.halt))=some (HO.lst ((p.calls.map (·.halt)).map Sc));rw[be];rfl
  ·rw[sC (j.free NR) (st _ _ (u _ _ NA))];show _=some (HO.lst ((hs (p.calls.map λa=>((a.comes:Nat):Int)) ((p.late.getD d (0,0)).1+1) (k*1440) (k*1440+((p.late.getD d (0,0)).2:Nat))).map XV.int));rw[N];have e:((c:Int)+1).toNat=c+1:=by omega
   show some (HO.lst ((hs (p.calls.map λa=>((a.comes:Nat):Int)) ((c:Int)+1).toNat (k*1440) (k*1440+(mi:Int))).map XV.int))=some (HO.lst ((hs (p.calls.map λa=>((a.comes:Nat):Int)) (c+1) (k*1440) (k*1440+(mi:Int))).map XV.int));rw[e]
  ·rw[sC ((j.tr r).free NS) (st _ _ NC)];show _=some (HO.lst ((hs (p.calls.map λa=>((a.goes:Nat):Int)) ((p.late.getD d (0,0)).1) (k*1440) (k*1440+((p.late.getD d (0,0)).2:Nat))).map XV.int));rw[N];rfl
def zt (M i:Nat) (p:cr) (ks:List Int):List ((Nat×Int)×bn):=(ks.filter λk=>p.runs M k).map λk=>((i,k),aJ M k p)
def cH (M:Nat) (l:List cr):List ((Nat×Int)×bn):=l.zipIdx.flatMap λx=>zt M x.2 x.1 [-1,0,1]
theorem k3 (T:Go) (M:Nat):(cH M T.trips).map (·.2)=AT T M:=by(
unfold cH zt AT v2;rw[p6,p6]
congr 1;funext x
rw[be,be];rfl)
theorem AZ (T:Go) (M:Nat):(cH M T.trips).map (·.1)=ln T M:=by(
unfold cH zt ln v2;rw[p6,p6]
congr 1;funext x
rw[be,be];rfl)
theorem L7 {M i:Nat}{l:List cr}{p:cr}(h:l[i]?=some p):cH M (l.take (i+1))=cH M (l.take i)++zt M i p [-1,0,1]:=by(
have hi:=(ay.mp h).1;unfold cH;rw[ck,h,cz,vk,nC]
congr 1
simp[aK,jT (d1 hi)])
theorem L' {M i j:Nat}{p:cr}{ks:List Int}{k:Int}(h:ks[j]?=some k):zt M i p (ks.take (j+1))=zt M i p (ks.take j)++(if p.runs M k=true then [((i,k),aJ M k p)]else []):=by
 unfold zt;rw[ck,h,cz,jY,bA];by_cases c:p.runs M k=true<;>simp[c]
theorem p1 (M:Nat) (l:List cr):(cH M l).length<=3*l.length:=by(
unfold cH;rw[vi];have:∀(m:List (cr×Nat)),(m.map λx=>(zt M x.2 x.1 [-1,0,1]).length).sum<=3*m.length:=λm=>by
 induction m with
 |nil=>simp
 |cons x m b=>
  have a:(zt M x.2 x.1 [-1,0,1]).length<=3:=by
   unfold zt;rw[FS];exact ly ..
  rw[na,dH,bh];omega
have:=this l.zipIdx;rw[Bl]at this;exact this)
theorem Kp (M:Nat) (k:Int) (p:cr):decide (XV.int (qX ((p.days:Int)/2^(((M:Int)+k)%7).toNat) 1)=XV.int 1)=p.runs M k:=by(
unfold MV fB;have e:(((M:Int)+k+7)%7).toNat=(((M:Int)+k)%7).toNat:=by omega
rw[MR,e,Nat.testBit_eq_decide_div_mod_eq,hU];constructor
·intro h;injection h with h;exact_mod_cast h
·intro h;congr 1;exact_mod_cast h)
theorem L1 (M:Nat) (k:Int):XV.int (((M:Int)+k)%7)=Sc (fB M k):=by(
unfold Sc fB
congr 1;omega)
theorem L3 (M:Nat) (k:Int):fB M k<7:=by
 unfold fB;omega
def pE (CP CN:B):Sp:=λvs H Q _=>∃(A:PA) (T:Go) (m d:Nat),vs=[.ref A.x,Sc d]/\em CP CN H A T m/\nR T/\(∀p,p∈T.trips->p.calls.length<=64)/\
 ∀(V:Hp) (b:B) (a:List XV),Tl H V->V b=some (.lst a)->Paired (fP V) a (cH d T.trips)->Q (.ref b) V
theorem mE:pc ["self","day","runs","trip","begins","weekday"] ["self","day"] (sB t9):=nl rfl rfl rfl (by decide +kernel)
theorem IT {f NA:B}{fd NC:sc}(F:sn K "runs_around" "Plan.runs_around" t9 f fd) (T:bM K mg CP) (NI:Db P w K mg base AC 2 NA NC ["self","trip","begins","weekday"] (uM CP CN)) (NL:Binds K NC ["self","trip","begins","weekday"] []) (NZ:b3 K CP "run_of" NA):Db P w K mg base AC 3 f fd ["self","day"] (pE CP CN):=by
 refine F.ok mE (λvs H Q E h=>?_) (λN6 N4 outer s0 H vs Q E hr h=>?_)
 ·obtain⟨A,l,m,d,rfl,_⟩:=h;rfl
 ·obtain⟨A,l,m,d,rfl,Y,hT,NO,k⟩:=h;refine⟨_,On (tt (i:=2) mE.nd rfl (IN rfl) (f2 PP))
   (On (cw bD rfl (mr rfl T.range (WF (aV bV (by rfl) T.len bR (WF (zn (I 0) rfl) PP)) PP)) (v4 (i:=3) mE.nd rfl (IN rfl))
    (FM (cw bD rfl (JC (bP (WF (et ey Fa) (WF Fa (WF Fa PP))))) (v4 (i:=4) mE.nd rfl (IN rfl))
     (On (tt (i:=5) mE.nd rfl (IN rfl) (kw I8 (kw bu (I 1) (I 4)) (nm T.dw rfl)))
     (FM (kt (he cQ (kw I5 (kw Ja (Ch gw (Ch wT (zn (I 0) rfl) (I 3) (λ_ _=>rfl)) Fa (λ_ _=>rfl)) (I 5)) Fa) Fa (lm _))
      (FM (dL (cv b8 cV cW cP (I 2) (WF (an (I 0) T.cl NZ NI hr NL .nil wE (WF (I 3) (WF (I 4) (WF (I 5) PP)))) PP)))) io))))))
   (FM (tz (I 2)))),?_⟩
  obtain⟨ts,NG,NH⟩:=Y.trips;have Ob:ts.length=l.trips.length:=Paired.length NH;refine⟨g1 _,λb Nq=>?_⟩;have Nu:Tl H (T0 H b (.lst [])):=Tl.new Nq;refine⟨_,O,A.x,CP,A.dx,_,_,O,Nu _ _ Y.ob,T.cl,T.trips,O,A.t,_,O,.inl (TW.of (Nu _ _ NG)),_,O,by omega,by have:=hT.trips;omega,?_⟩;have en:((ts.length:Nat):Int).toNat=l.trips.length:=by omega
  refine kl (λi ZB H2=>∃Nw D J o,ZB=[some (.ref A.x),some (Sc d),some (.ref b),Nw,D,J]/\H2 b=some (.lst o)/\Paired (fP (hide [b] H2)) o (cH d (l.trips.take i))/\Tl H H2)
   ⟨none,none,none,[],O,KE,.nil,Nu⟩ ?_ ?_
  ·rintro i ZB H2 hi ⟨Nw,D,J,o,rfl,Np,Nk,Nv⟩;have hi:i<l.trips.length:=m7 hi en;have NM:(0:Int)+((i:Nat):Int)=((i:Nat):Int):=by omega
   show bG 3 (XV.int ((0:Int)+((i:Nat):Int))) _ _ _;rw[NM];obtain⟨p,Nj⟩:∃p,l.trips[i]?=some p:=⟨_,im hi⟩;obtain⟨Oc,NY,sa,N5,N7,⟨ta,rfl,NW⟩,N_,N8,N9⟩:=cF NH Nj;have NX:=bW _ _ _ _ NW;refine⟨_,O,by show 3<=Is;decide,λU N0=>?_⟩;have st:Tl H2 (T0 H2 U (.tup [XV.int (-1),XV.int 0,XV.int 1])):=Tl.new N0;refine⟨U,O,⟨_,pm.of KE⟩,?_⟩;have fU:Tl (hide [b] H2) (hide [b] (T0 H2 U (.tup [XV.int (-1),XV.int 0,XV.int 1]))):=λc u e=>by
    obtain⟨Nl,Nr⟩:=wv.mp e;exact wv.mpr ⟨Nl,st _ _ Nr⟩
   refine FE (K:=K) (a:=U) (xs:=[XV.int (-1),XV.int 0,XV.int 1]) (λj ZB r=>∃D J o,ZB=[some (.ref A.x),some (Sc d),some (.ref b),some (Sc i),D,J]/\r b=some (.lst o)/\r U=some (.tup [XV.int (-1),XV.int 0,XV.int 1])/\Paired (fP (hide [b] r)) o (cH d (l.trips.take i)++zt d i p (([-1,0,1]:List Int).take j))/\Tl H r)
    ⟨D,J,o,O,st _ _ Np,KE,by rw[show zt d i p (([-1,0,1]:List Int).take 0)=[] from rfl,e4];exact aj (λ_ _ q=>q.same fU) Nk,Nv.tr st⟩ (λj ZB r _ ⟨_,_,_,_,_,q,_,_⟩=>pm.of q) ?_ ?_
   ·rintro j N3 ZB r NS ⟨N1,N2,C,rfl,y,L,N,s⟩;obtain⟨g,NV,rfl,NU⟩:∃g:Int,([-1,0,1]:List Int)[j]?=some g/\N3=XV.int g/\(-1<=g/\g<=1):=by
     match j,NS with
     |0,h=>exact⟨-1,O,by simpa using h.symm,by decide⟩
     |1,h=>exact⟨0,O,by simpa using h.symm,by decide⟩
     |2,h=>exact⟨1,O,by simpa using h.symm,by decide⟩
     |n+3,h=>simp at h
    rw[L' NV];have ND:=Y.same s;have Oa:C.length<=10000:=by
     rw[Paired.length N,lv];have h1:=p1 d (l.trips.take i);have h2:(zt d i p (([-1,0,1]:List Int).take j)).length<=3:=by
      unfold zt;rw[FS];refine dg (ly ..) ?_;rw[aK];exact Nat.min_le_right ..
     rw[aK]at h1;have:=hT.trips;omega
    refine⟨_,O,_,O,_,_,O,O,_,_,O,O,by show(0:Int)<7;decide,?_⟩;show bG 5 (XV.int (((d:Int)+g)%7)) _ _ _;rw[L1];refine⟨_,O,A.x,CP,A.dx,_,_,O,ND.ob,T.cl,T.trips,O,_,O,A.t,_,_,_,O,O,TW.of (s _ _ NG),lw NY,ta,_,_,_,O,O,pm.of (s _ _ NX),O,_,O,_,_,O,O,CQ _,_,_,O,O,O,_,O,?_⟩;have Ny:=Kp d g p;have NN:(((d:Int)+g)%7).toNat=fB d g:=by unfold fB;omega
    rw[NN]at Ny;have Nz:decide (XV.int (qX ((p.days:Int)/2^((fB d g:Nat):Int).toNat) 1)=XV.int 1)=p.runs d g:=by rw[d2];exact Ny
    show if decide (XV.int (qX ((p.days:Int)/2^((fB d g:Nat):Int).toNat) 1)=XV.int 1)=true then _ else _;by_cases c:p.runs d g=true
    ·rw[Nz.trans c];refine ww ?_;rw[No c];refine⟨_,O,.inl ⟨O,_,TW.of y⟩,_,O,A.x,A.dx,_,O,ND.ob,O,_,O,_,O,_,O,H,A,l,m,i,fB d g,g,p,O,s,Y,Nj,L3 d g,NU,by have:=NO p (pi Nj);omega,λNK t Nm NF=>?_⟩;rw[Kn]at NF;have NQ:=Nm _ _ y;refine⟨b,C,_,O,O,NQ,small (by omega),_,_,C++[XV.ref t],O,KE,?_,?_,λNn u e=>?_⟩
     ·exact(Uf (λz=>by rw[z,y]at L;cases L)).trans (Nm _ _ L)
     ·have NR:Tl (hide [b] r) (hide [b] (T0 NK b (.lst (C++[XV.ref t])))):=λNn u e=>by
       obtain⟨Nl,Nr⟩:=wv.mp e;exact wv.mpr ⟨Nl,(Uf (by simpa using Nl)).trans (Nm _ _ Nr)⟩
      rw[<- dd];refine Paired.snoc (aj (λ_ _ q=>q.same NR) N) ?_;refine NF.same λNn u e=>?_;have Nx:Nn≠b:=λz=>by rw[z,Jc y Nq]at e;cases e
      exact wv.mpr ⟨by simpa using Nx,(Uf Nx).trans (Je _ _ e)⟩
     ·rw[Uf (v0 e Nq)];exact Nm _ _ (s _ _ e)
    ·rw[Nz.trans (by simpa using c)];refine v6 ?_;rw[Ps c,e4];exact⟨_,_,C,O,y,L,N,s⟩
   ·rintro ZB r ⟨N1,N2,C,rfl,y,L,N,s⟩;exact⟨_,_,_,C,O,y,by rw[L7 Nj];exact N,s⟩
  ·rintro ZB H2 ⟨Nw,D,J,o,rfl,Np,Nk,Nv⟩;rw[en,de]at Nk;exact⟨_,O,k H2 b o Nv Np (aj (λ_ _ q=>q.same (bW _ _)) Nk)⟩
structure eI (T:Go):Prop where
 bd:ce T
 sz:nR T
 je:∀p,p∈T.trips->p.calls.length<=64
theorem mK {a:Type}(f:a->Nat) (b:Nat):∀l:List a,(∀x,x∈l->f x<=b)->(l.map f).sum<=b*l.length
 |[],_=>by simp
 |x::l,h=>by
  have h1:=h x (lc ..);have h2:=mK f b l λy c=>h y (on _ c);rw[na,dH,bh,Nat.mul_add];omega
theorem I3 (n k:Nat):((s5 n).map λs=>if(k==s)=true then 1 else 0).sum<=1/\(n<=k->((s5 n).map λs=>if(k==s)=true then 1 else 0).sum=0):=by(
induction n with
|zero=>simp
|succ n a=>
 rw[vq,bA,List.sum_append];by_cases c:k=n
 ·have:=a.2 (by omega);constructor
  ·simp only[na,gU,dH,Bx];rw[this];split<;>omega
  ·omega
 ·have e:(k==n)=false:=by simpa using c
  simp only[na,gU,e,fF,aF,dH,Bx];exact⟨by have:=a.1;omega,λh=>by have:=a.2 (by omega);omega⟩)
theorem Ar (n:Nat):∀L:List (Nat×s3),((s5 n).map λs=>(L.filter λd=>d.1==s).length).sum<=L.length
 |[]=>by
  have:((s5 n).map λs=>(([]:List (Nat×s3)).filter λd=>d.1==s).length)=(s5 n).map λ_=>0:=rfl;rw[this];have:=mK (λ_:Nat=>0) 0 (s5 n) λ_ _=>t1 _;simpa using this
 |d::L=>by
  have b:=Ar n L;have e:((s5 n).map λs=>((d::L).filter λd=>d.1==s).length).sum=((s5 n).map λs=>if(d.1==s)=true then 1 else 0).sum+((s5 n).map λs=>(L.filter λd=>d.1==s).length).sum:=by
   generalize s5 n=r
   induction r with
   |nil=>rfl
   |cons s r a=>
    simp only[na,dH,a];rw[nH];by_cases c:(d.1==s)=true
    ·rw[No c,No c,bh];omega
    ·rw[Ps c,Ps c];omega
  rw[e,bh];have:=(I3 n d.1).1;omega
theorem yu {a:Type}(l:List (List a)):l.map cm=(s5 l.length).map λs=>(l.getD s []).length:=by(
apply vm;intro i;by_cases hi:i<l.length
·rw[pr,pr,f' hi,im hi];simp[nw,hi]
·rw[hP (by rw[FS];omega),hP (by rw[FS,fH];omega)])
theorem y_ {b:List Int}{R:List bn}{cq:List (Nat×Int)}{W:List Wk}{N:Nt}(h:sK b R cq W N) (c:lO b.length R) (f:∀s g m,(s,g,m)∈W->g<b.length) (h1:b.length<=1000) (h2:R.length<=100000) (l:(R.map λx=>x.1.length).sum<=300000):cX N:=by(
have hm:∀r,r<N.runs.length->R.getD r ([],[],[])∈R:=λr hr=>getD_mem (by rw[<- h.eU];exact hr) _;have hn:=h.n;refine⟨by rw[h.ha,hn],by rw[h.l0,hn],λs g m a q=>?_,λr i hr hi=>?_,λr hr=>?_,λr hr=>?_,λs e a j=>?_,by rw[hn];exact h1,?_,by rw[h.eU];omega,λr=>?_⟩
·rw[hn]at a⊢;exact f s g m ((h.sh a).mp q)
·rw[h.stop,hn];rw[h.len]at hi;exact c.stops _ (hm r hr) _ (getD_mem hi _)
·rw[h.len];exact c.pos _ (hm r hr)
·rw[h.len,h.run];exact c.comes _ (hm r hr)
·rw[hn]at a;obtain⟨x,k,_⟩:=y4.mp ((h.perm s a).mem_iff.mp j);rw[h.eU];exact(ay.mp k).1
·have e:N.af.map cm=(s5 b.length).map λs=>((d6 R).filter λd=>d.1==s).length:=by
  rw[yu,h.ha];refine ei λs a=>?_;rw[(h.perm s (bJ.mp a)).length_eq];unfold jg;rw[FS]
 rw[e];have o:=Ar b.length (d6 R);have p:=xk R;omega
·rw[h.len];by_cases hr:r<R.length
 ·have:=jo (R.map λx=>x.1.length) r;rw[nw,pr,im hr]at this;rw[nw,im hr];simp only[hM,wx]at this⊢;omega
 ·rw[nw,hP (by omega)];simp)
section
variable {T:Go}(hT:eI T) (d:Nat)
include hT
theorem A0:((cH d T.trips).map λy=>y.2.1.length).sum<=300000:=by(
have h1:=p1 d T.trips;have h2:=mK (λy:(Nat×Int)×bn=>y.2.1.length) 64 (cH d T.trips) λy a=>by
 unfold cH zt at a;obtain⟨x,b,a⟩:=e3.mp a;obtain⟨k,_,rfl⟩:=m0.mp a;simp only[aJ,FS];exact hT.je _ (pi (hK.mp b))
have:=hT.sz.trips;omega)
theorem yr:nM (up T) (cH d T.trips) (ol T):=by(
have g:(up T).length=T.stops.length:=by simp[up]
have ok:=jA hT.bd d;have f:∀y,y∈cH d T.trips->y.2∈AT T d:=λy e=>by rw[<- k3];exact lz e
refine⟨by rw[g];have:=hT.sz.stops;omega,by have:=p1 d T.trips;have:=hT.sz.trips;omega,A0 hT d,λy e=>?_,by simp only[ol,FS];have:=hT.sz.walks;omega,λw hw=>?_⟩
·exact⟨ok.goes _ (f y e),ok.pos _ (f y e),λst h=>by rw[g];exact ok.stops _ (f y e) st h⟩
·obtain⟨a,b,c⟩:=w;exact(jL hT.bd a b c hw).1)
theorem o5:((AT T d).map λx=>x.1.length).sum<=300000:=by
 have:=A0 hT d;rw[<- k3,be];exact this
theorem z2:(AT T d).length<=100000:=by
 rw[<- k3,FS];have:=p1 d T.trips;have:=hT.sz.trips;omega
theorem jk {N:Nt}(h:sK (up T) (AT T d) (ln T d) (ol T) N):cX N:=by(
have a:(up T).length=T.stops.length:=by simp[up]
refine y_ h (by rw[a];exact jA hT.bd d) (λs g m q=>(jL hT.bd s g m q).2.1) (by rw[a];have:=hT.sz.stops;omega) (z2 hT d) (o5 hT d))
theorem xM {N:Nt}(h:sK (up T) ((AT T d).map ut) (ln T d) ((ol T).map br) N):cX N:=by(
have k:(up T).length=T.stops.length:=by simp[up]
refine y_ h (by rw[k];exact xv hT.bd d) (λs g m q=>?_) (by rw[k];have:=hT.sz.stops;omega) (by rw[FS];exact z2 hT d) ?_
·obtain⟨⟨a,b,c⟩,hw,e⟩:=m0.mp q;injection e with i f;injection f with f j;simp only at i f j;subst i f j;exact(jL hT.bd _ _ _ hw).1
·rw[be];have:((λx:bn=>x.1.length)∘ut)=λx=>x.1.length:=funext λx=>by simp[ut]
 rw[this];exact o5 hT d)
end
def fM (H V:Hp):Prop:=∀b o,H b=some o->(∀l,o≠HO.dT l)->V b=some o
theorem fM.put {H:Hp}{q:B}{l l':List (List wS×XV)}(h:H q=some (.dT l)):fM H (T0 H q (.dT l')):=λb o e m=>by
 rw[Uf (λz=>by rw[z,h]at e;exact m _ (bT e).symm)];exact e
theorem gt.jq {CN:B}{H V:Hp}{n:B}{N:Nt}(s:fM H V) (h:gt CN H n N):gt CN V n N:=by(
obtain⟨m,c,r,o,d,f,Q,os,ds,fs,h1,h2,t,u,y,A,D,E,J,p⟩:=h.ex;have T:∀ {b:B}{C dx:B}{fs:List (Str×XV)},H b=some (.ins C dx fs)->V b=some (.ins C dx fs):=λe=>s _ _ e λ_ z=>by cases z
have tl:∀ {b:B}{l:List XV},H b=some (.lst l)->V b=some (.lst l):=λe=>s _ _ e λ_ z=>by cases z
have j:∀ {v:XV}{l:List XV},TupAt H v l->TupAt V v l:=λ⟨a,e,q⟩=>⟨a,e,s _ _ q λ_ z=>by cases z⟩;have k:∀ {v:XV}{l:List XV},LstAt H v l->LstAt V v l:=λ⟨a,e,q⟩=>⟨a,e,tl q⟩;refine⟨m,c,r,o,d,f,Q,os,ds,fs,T h1,tl h2,tl t,aj (λv x ⟨a,b,g,i,L⟩=>⟨a,b,j g,tl i,tl L⟩) u,tl y,aj (λv x ⟨es,g,i⟩=>⟨es,k g,aj (λ_ _ q=>j q) i⟩) A,tl D,aj (λv x ⟨es,g,i⟩=>⟨es,k g,aj (λ_ _ q=>j q) i⟩) E,tl J,aj (λ_ _ q=>j q) p⟩)
def gW (CN:B) (H:Hp) (T:Go) (d:Nat) (v:XV):Prop:=∃a N,v=XV.ref a/\gt CN H a N/\sK (up T) (AT T d) (ln T d) (ol T) N
def lG (CN:B) (H:Hp) (T:Go) (d:Nat) (v:XV):Prop:=∃a N,v=XV.ref a/\gt CN H a N/\sK (up T) ((AT T d).map ut) (ln T d) ((ol T).map br) N
theorem em.put {H:Hp}{A:PA}{T:Go}{m:Nat}(h:em CP CN H A T m) {j:List (List wS×XV)}(hn:H A.n=some (.dT j)) {z:Str}{d:Nat}{v:XV}(s:z="forward"->gW CN H T d v) (r:z="mirrored"->lG CN H T d v):
  em CP CN (T0 H A.n (.dT (ax j (b6 z d) v))) A T (m+1):=by(
have n:=kE h.nd;have k:hide A.own (T0 H A.n (.dT (ax j (b6 z d) v)))=hide A.own H:=fe (by simp[PA.own]);obtain⟨ts,y,C⟩:=h.trips;obtain⟨J,D,E⟩:=h.walks;obtain⟨lk,t,L,x⟩:=h.late;obtain⟨p,o,n2,n3⟩:=h.bb;have e:p=j:=by rw[hn]at o;cases o;rfl
subst e;have nd:=fM.put (l':=ax p (b6 z d) v) hn;refine⟨h.nd,(Uf (n 0 5 (by decide) (by decide) (by decide))).trans h.ob,(Uf (n 1 5 (by decide) (by decide) (by decide))).trans h.chg,⟨ts,(Uf (n 2 5 (by decide) (by decide) (by decide))).trans y,by rw[k];exact C⟩,⟨J,(Uf (n 3 5 (by decide) (by decide) (by decide))).trans D,by rw[k];exact E⟩,⟨lk,(Uf (n 4 5 (by decide) (by decide) (by decide))).trans t,by omega,by rw[k];exact x⟩,⟨_,KE,?_,λd' l=>⟨λu hu=>?_,λu hu=>?_⟩⟩⟩
·unfold ax;split
 ·rw[FS];omega
 ·rw[lv,bz];omega
·rw[jJ]at hu;split at hu
 ·next q=>
  cases hu;simp only[b6,jW,and_true]at q;obtain⟨g,i⟩:=q;injection g with g;injection i with i;have:d'=d:=by omega
  subst this;obtain⟨a,N,b,c,f⟩:=s g.symm;exact⟨a,N,b,c.jq nd,f⟩
 ·obtain⟨a,N,b,c,f⟩:=(n3 d' l).1 u hu;exact⟨a,N,b,c.jq nd,f⟩
·rw[jJ]at hu;split at hu
 ·next q=>
  cases hu;simp only[b6,jW,and_true]at q;obtain⟨g,i⟩:=q;injection g with g;injection i with i;have:d'=d:=by omega
  subst this;obtain⟨a,N,b,c,f⟩:=r g.symm;exact⟨a,N,b,c.jq nd,f⟩
 ·obtain⟨a,N,b,c,f⟩:=(n3 d' l).2 u hu;exact⟨a,N,b,c.jq nd,f⟩)
def fu (CP CN:B) (a:B->Hp->Go->Nat->XV->Prop):Sp:=λvs H Q _=>∃(A:PA) (T:Go) (m d:Nat),vs=[.ref A.x,Sc d]/\em CP CN H A T m/\eI T/\d<7/\m<=1000/\
 ∀(V:Hp) (v:XV),em CP CN V A T (m+1)->a CN V T d v->Ev [A.n] H V->fM H V->Q v V
theorem AV {H:Hp}{A:PA}{T:Go}{a:List XV}(h:Paired (i_ (hide A.own H)) a T.walks):Paired (nT H) a (ol T):=by(
unfold ol;generalize T.walks=c at h
induction h with
|nil=>exact .nil
|cons r t b=>exact .cons (TupAt.same (bW _ _) r) b)
theorem xY (T:Go):(up T).map XV.int=T.stops.map Sc:=by unfold up;rw[be];rfl
theorem z8:pc ["self","day","key"] ["self","day"] (sB tL):=nl rfl rfl rfl (by decide +kernel)
theorem z_:pc ["self","day","key"] ["self","day"] (sB tY):=nl rfl rfl rfl (by decide +kernel)
theorem fM.same {H V:Hp}(s:Tl H V):fM H V:=λb o e _=>s b o e
theorem Iu {f Y U:B}{fd Nk Nj:sc}(F:sn K "forward" "Plan.forward" tL f fd) (T:bM K mg CP) (Nu:Db P w K mg base AC 3 Y Nk ["self","day"] (pE CP CN)) (Nw:Binds K Nk ["self","day"] []) (NC:b3 K CP "runs_around" Y)
  (ND:mg "Network"=some (.ref CN)) (TD:Mk K CN U) (Nr:Db P w K mg base AC 2 U Nj ["self","changes","runs","walks"] (pD CN)) (Nv:Binds K Nj ["self","changes","runs","walks"] []):Db P w K mg base AC 4 f fd ["self","day"] (fu CP CN gW):=by(
refine F.ok z8 (λvs H Q E h=>?_) (λNQ NO outer s0 H vs Q E hr h=>?_)
·obtain⟨A,j,m,d,rfl,_⟩:=h;rfl
·obtain⟨A,j,m,d,rfl,Ny,hT,hd,hm,k⟩:=h;have hu:=hc hr;refine⟨_,On (tt (i:=2) z8.nd rfl (IN rfl) (bP (WF zw (WF (I 1) PP))))
  (On (kt (zC (zu hu (I 2) (zn (I 0) rfl)))
   (FM (mv hu (zn (I 0) rfl) (I 2) (hk TD Nr (hr.mono) rfl ND Nv .nil wE (WF (zn (I 0) rfl) (WF (an (I 0) T.cl NC Nu hr Nw .nil wE (WF (I 1) PP)) (WF (zn (I 0) rfl) PP)))) rfl)) io)
  (FM (tz (sF hu (zn (I 0) rfl) (I 2) (λ_ _=>rfl))))),?_⟩
 refine⟨_,O,by show 2<=Is;decide,λtk NG=>?_⟩;have l:Tl H (T0 H tk (.tup [XV.str "forward",Sc d])):=Tl.new NG;have o:(T0 H tk (.tup [XV.str "forward",Sc d])) tk=some (.tup ((b6 "forward" d).map kV)):=KE;generalize T0 H tk (.tup [XV.str "forward",Sc d])=H1 at l o⊢;have a:=Ny.same l;obtain⟨J,n1,n2,n3⟩:=a.bb;refine⟨_,O,_,O,A.x,CP,A.dx,_,_,O,a.ob,T.cl,T.bb,O,A.n,_,O,cC.t (k:=b6 "forward" d) n1 o,_,O,?_⟩;cases q:jp J (b6 "forward" d)with
 |some v=>
  refine v6 ?_;refine⟨_,O,A.x,CP,A.dx,_,_,O,a.ob,T.cl,T.bb,O,_,O,A.n,v,O,by rw[<- q];exact cC.t (k:=b6 "forward" d) n1 o,?_⟩;exact k H1 v (a.more (by omega)) ((n3 d hd).1 v q) (l.but _) (fM.same l)
 |none=>
  refine ww ?_;refine⟨_,O,A.x,CP,A.dx,_,_,O,a.ob,T.cl,T.chg,O,_,O,A.x,A.dx,_,O,a.ob,O,_,O,A,j,m,d,O,a,hT.sz,hT.je,λH2 b NI y Nz NH=>?_⟩;have r:=a.same y;obtain⟨NN,NL,NM⟩:=r.walks;refine⟨_,O,A.x,CP,A.dx,_,_,O,r.ob,T.cl,T.walks,O,λx dx nx NF ne=>?_⟩;have g:Tl H2 (T0 (T0 H2 dx (.own x)) x (.ins CN dx [])):=(Tl.new NF).tr (Tl.new (by rw[Uf (Ne.symm ne)];exact nx));have NK:Tl H2 (hide [x] (T0 (T0 H2 dx (.own x)) x (.ins CN dx []))):=λc u e=>wv.mpr ⟨by simpa using v0 e nx,g _ _ e⟩;refine⟨x,dx,A.c,b,A.w,up j,cH d j.trips,NI,NN,ol j,O,KE,by rw[xY];exact g _ _ r.chg,g _ _ Nz,aj (λ_ _ q=>q.same NK) NH,g _ _ NL,aj (λ_ _ q=>TupAt.same g q) (AV NM),yr hT d,λL N D Nl Nx=>⟨O,?_⟩⟩;have C:Tl H2 L:=λc u e=>Nx c u (g _ _ e) (by simpa using v0 e nx);rw[k3,AZ]at D;have Nn:=r.same C;have s:=C _ _ (y _ _ n1);have p:=C _ _ (y _ _ o);have NA:tk≠A.n:=λz=>by rw[z,s]at p;cases p
  refine⟨_,O,A.x,CP,A.dx,_,_,O,Nn.ob,T.cl,T.bb,O,_,O,A.n,_,O,fL.t (k:=b6 "forward" d) s p (small (by omega)),?_⟩;have Np:=Nn.put s (z:="forward") (d:=d) (v:=XV.ref x) (λ_=>⟨x,N,O,Nl,D⟩) (λz=>absurd z (by decide));have Nm:=fM.put (l':=ax J (b6 "forward" d) (XV.ref x)) s;refine⟨_,O,A.x,CP,A.dx,_,_,O,Np.ob,T.cl,T.bb,O,_,O,A.n,XV.ref x,O,?_,?_⟩
  ·have:=cC.t (H:=T0 L A.n (.dT (ax J (b6 "forward" d) (XV.ref x)))) (k:=b6 "forward" d) (b:=tk) KE ((Uf NA).trans p);rw[jJ,No rfl]at this;exact this
  ·have Nq:=(l.tr y).tr C;exact k _ _ Np ⟨x,N,O,Nl.jq Nm,D⟩ ((Nq.but _).put (by simp)) λc u e m=>Nm c u (Nq c u e) m)
theorem II {f Nj L:B}{fd Nl Nk:sc}(F:sn K "mirrored" "Plan.mirrored" tY f fd) (T:bM K mg CP) (Nv:Db P w K mg base AC 3 Nj Nl ["self","day"] (pE CP CN)) (Ny:Binds K Nl ["self","day"] []) (NG:b3 K CP "runs_around" Nj)
  (GM:Db P w K mg base AC 4 L Nk ["changes","runs","walks"] (uI CN)) (Nx:Binds K Nk ["changes","runs","walks"] []) (NH:mg "mirrored_network"=some (.ref L)) (ND:cL K (.ref L)=true):Db P w K mg base AC 5 f fd ["self","day"] (fu CP CN lG):=by(
refine F.ok z_ (λvs H Q E h=>?_) (λNS NR outer s0 H vs Q E hr h=>?_)
·obtain⟨A,g,m,d,rfl,_⟩:=h;rfl
·obtain⟨A,g,m,d,rfl,Nz,hT,hd,hm,k⟩:=h;have hu:=hc hr;refine⟨_,On (tt (i:=2) z_.nd rfl (IN rfl) (bP (WF zw (WF (I 1) PP))))
  (On (kt (zC (zu hu (I 2) (zn (I 0) rfl)))
   (FM (mv hu (zn (I 0) rfl) (I 2) (ii GM hr rfl NH ND Nx .nil wE (WF (zn (I 0) rfl) (WF (an (I 0) T.cl NG Nv (hr.mono) Ny .nil wE (WF (I 1) PP)) (WF (zn (I 0) rfl) PP)))) rfl)) io)
  (FM (tz (sF hu (zn (I 0) rfl) (I 2) (λ_ _=>rfl))))),?_⟩
 refine⟨_,O,by show 2<=Is;decide,λtk NI=>?_⟩;have o:Tl H (T0 H tk (.tup [XV.str "mirrored",Sc d])):=Tl.new NI;have p:(T0 H tk (.tup [XV.str "mirrored",Sc d])) tk=some (.tup ((b6 "mirrored" d).map kV)):=KE;generalize T0 H tk (.tup [XV.str "mirrored",Sc d])=H1 at o p⊢;have j:=Nz.same o;obtain⟨Y,n1,n2,n3⟩:=j.bb;refine⟨_,O,_,O,A.x,CP,A.dx,_,_,O,j.ob,T.cl,T.bb,O,A.n,_,O,cC.t (k:=b6 "mirrored" d) n1 p,_,O,?_⟩;cases q:jp Y (b6 "mirrored" d)with
 |some v=>
  refine v6 ?_;refine⟨_,O,A.x,CP,A.dx,_,_,O,j.ob,T.cl,T.bb,O,_,O,A.n,v,O,by rw[<- q];exact cC.t (k:=b6 "mirrored" d) n1 p,?_⟩;exact k H1 v (j.more (by omega)) ((n3 d hd).2 v q) (o.but _) (fM.same o)
 |none=>
  refine ww ?_;refine⟨_,O,A.x,CP,A.dx,_,_,O,j.ob,T.cl,T.chg,O,_,O,A.x,A.dx,_,O,j.ob,O,_,O,A,g,m,d,O,j,hT.sz,hT.je,λH2 b NL D NA NK=>?_⟩;have s:=j.same D;obtain⟨NQ,NN,NO⟩:=s.walks;have NV:(up g).length=g.stops.length:=by simp[up]
  have ok:=jA hT.bd d;have Nr:∀y,y∈cH d g.trips->y.2∈AT g d:=λy l=>by rw[<- k3];exact lz l
  have NU:=o5 hT d;refine⟨_,O,A.x,CP,A.dx,_,_,O,s.ob,T.cl,T.walks,O,A.c,b,A.w,up g,cH d g.trips,NL,NQ,ol g,O,by rw[xY];exact s.chg,NA,NK,NN,AV NO,yr hT d,λy l=>ok.comes _ (Nr y l),λNM NC=>?_,λy l=>?_,λNw x N U Nm J=>?_⟩
  ·obtain⟨a,b,c⟩:=NM;exact(jL hT.bd a b c NC).2.1
  ·obtain⟨i,hi⟩:=fD.mp (Nr y l);have:=jo ((AT g d).map λx=>x.1.length) i;rw[nw,pr,hi]at this;have this:y.2.1.length<=_:=this;omega
  rw[k3,AZ]at U;have Np:=s.same J;have C:=J _ _ (D _ _ n1);have r:=J _ _ (D _ _ p);have NF:tk≠A.n:=λz=>by rw[z,C]at r;cases r
  refine⟨_,O,A.x,CP,A.dx,_,_,O,Np.ob,T.cl,T.bb,O,_,O,A.n,_,O,fL.t (k:=b6 "mirrored" d) C r (small (by omega)),?_⟩;have Nq:=Np.put C (z:="mirrored") (d:=d) (v:=XV.ref x) (λz=>absurd z (by decide)) (λ_=>⟨x,N,O,Nm,U⟩);have Nn:=fM.put (l':=ax Y (b6 "mirrored" d) (XV.ref x)) C;refine⟨_,O,A.x,CP,A.dx,_,_,O,Nq.ob,T.cl,T.bb,O,_,O,A.n,XV.ref x,O,?_,?_⟩
  ·have:=cC.t (H:=T0 Nw A.n (.dT (ax Y (b6 "mirrored" d) (XV.ref x)))) (k:=b6 "mirrored" d) (b:=tk) KE ((Uf NF).trans r);rw[jJ,No rfl]at this;exact this
  ·have Nu:=(o.tr D).tr J;exact k _ _ Nq ⟨x,N,O,Nm.jq Nn,U⟩ ((Nu.but _).put (by simp)) λc u e m=>Nn c u (Nu c u e) m)
end Dv
namespace L2
open PySem PySem.Spec PySem.AutoSeq1
theorem EZ {l b:B}{a:Array Wp}{n:Nat}{o:Obj}{c:Array Wp}{n2:Nat}(h0:¬(!a.isEmpty&&ll (a.size+c.size))=true) (h1:a.size<=Is) (h2:a.size+c.size<=Is+1) (f:o.cls=.type "tuple") (i:o.data=.seq c n2):
  Meets (hE.«list.extend» ⟨[.ref l,.ref b],[]⟩) (λ_ R s=>s.heap.get? l=some {cls:=.type "list",dict:=none,data:=.seq a n,slots:= #[]}/\s.heap.get? b=some o/\R (.ok (.ret Value.none)) {s with heap:=s.heap.update l (gR λx=>x++c),toks:=s.toks}):=
 .of_wp λprog w A R s h=>by
  obtain⟨m,p,q,D⟩:=o;simp only at f i;subst f i;obtain⟨C,g,d,tk,os⟩:=s;obtain⟨e,j,h⟩:=h;have r:=idx_int;have t:=sub_tuple_tuple;have u:=sub_list_list;have y:=sub_tuple_list;have z:=sub_list_tuple;have k:(a++c).size<=Is+1:=by rw[Array.size_append];exact h2
  wp_walk using (mR e rfl (hz:=h1) (_hz':=k)),wpAny_loadPart' e,wpAny_loadPart' j
  exact⟨_,O,h⟩
def J1 (K:xz):XV->List XV->Hp->VK->Prop:=λx vs H Q=>∃l b xs zs,x=.ref l/\vs=[.ref b]/\H l=some (.lst xs)/\pm K H b zs/\xs.length+zs.length<=Is/\Q .ak (T0 H l (.lst (xs++zs)))
theorem Hu {X:Cx}:lL X "list.extend" (J1 X.K):=by(
intro WP s ZB H x vs v us Q W1 t p h;obtain⟨l,b,xs,zs,rfl,rfl,c,g,hz,q⟩:=h;cases t;obtain⟨u,rfl,m⟩:=p.one;cases m;obtain⟨z,Op,n,r,w,e⟩:=W1.hh c;obtain⟨a,d,⟨o,f,j,n2,k⟩,A⟩:=W1.tuple g;have y:=d.length;have big:Op.toArray.size+a.toArray.size<=Is:=by rw[aP,aP];omega
have i:¬(!Op.toArray.isEmpty&&ll (Op.toArray.size+a.toArray.size))=true:=by
 rw[sm big,m9];exact b2
refine jO F.slot_list_extend ⟨_,e,O⟩ F.entry_list_extend (F.args_list_extend_2 _ _) (EZ i (by rw[aP];omega) (by omega) j k) ⟨e,f,?_⟩;exact⟨.ak,_,W1.mb (its':=Op++a) c e (by simp) (r.append d) (by rw[lv];omega),O,q⟩)
end L2
namespace L2
open PySem PySem.Spec PyProof.Rows
section
variable {prog:pu}{w:rs}{A:cs}{R:mX->Rs->Prop}{W1:B}{fp wr:List B}{n:Nat}{P:Nat->Wp->Prop}{St:Nat->wn->Prop}
def w_ (prog:pu) (w:rs) (A:cs) (ok:wn->Prop) (P:Nat->Wp->Prop) (c:Nat->Nat->Bool):Prop:=
 ∀i j a b (s:Rs) (Q:Wp->Rs->Prop) (E:Wp->Rs->Prop),ok s.heap->P i a->P j b->Q (.bool (c i j)) s->wpAny (Do prog w) A (vE .Lt a b) Q E s
theorem oH:(toString "min"++toString ".loop":String)="min.loop":=by decide
theorem Ho {ok:wn->Prop}(W:Walks prog w A.in1 W1 fp wr n P St) (i:Nat->Nat->Bool) (Nj:w_ prog w A.in1 ok P i) (S:B) (J:S∉fp) (ag:∀h h':wn,ok h->(∀b o,b∉wr->b≠S->h.get? b=some o->h'.get? b=some o)->ok h'):
  ∀(k j:Nat) (s:Rs) (a:Wp) (c:Nat),n-(j+1)=k->j+1<=n->ok s.heap->St (j+1) s.heap->P (eZ i j) a->s.heap.get? S=some {cls:=.type "list",dict:=none,data:=.seq #[a,a] c,slots:= #[]}->
  (∀v h' tk,P (eZ i (n-1)) v->(∀b o,b∉wr->b≠S->s.heap.get? b=some o->h'.get? b=some o)->R (.ok (.ret v)) {s with heap:=h',toks:=tk})->codeAny (Do prog w) A (.builtin "min.loop" ⟨[.ref W1,.none,.ref S],[]⟩) R s:=by(
have L:S∉wr:=λh=>J (W.sub _ h);intro k
induction k with
|zero=>
 intro j s a c Nl Nk Q C p l q;have N:j+1=n:=by omega
 refine vB F.entry_min_loop ?_;rw[wV F.plain_min_loop _];show wpAny _ A.in1 (vN (.ref S) >>= _) _ _ s;refine IR (hC l rfl ?_);show wpAny _ A.in1 (tryCatch (eD (.ref W1)) _ >>= _) _ _ s;refine IR (qi (W.done s _ _ (N▸C) λh' tk g=>?_));have m:=g S _ L l;show wpAny _ A.in1 (vM S (λ_=> #[]) >>= _) _ _ _;refine IR ?_;refine mR m rfl (IR (iJ (t3 ?_)));refine q a _ tk (by rw[<- N];exact p) λb o f d e=>(hH _ _ (Ne.symm d)).trans (g b o f e)
|succ k U=>
 intro j s a c Nl Nk Q C p l q;have y:j+1<n:=by omega
 refine vB F.entry_min_loop ?_;rw[wV F.plain_min_loop _];show wpAny _ A.in1 (vN (.ref S) >>= _) _ _ s;refine IR (hC l rfl ?_);show wpAny _ A.in1 (tryCatch (eD (.ref W1)) _ >>= _) _ _ s;refine IR (qi (W.item (j+1) s _ _ y C λv h' tk H T g=>?_));have m:=g S _ L l;have z:ok h':=ag _ _ Q λb o r _ e=>g b o r e;show wpAny _ A.in1 (tryCatch (jP [v,v] (vE .Lt v a >>= _)) _ >>= _) _ _ _;refine IR (qi (iH (IR (Nj (j+1) (eZ i j) v a _ _ _ z H p ?_))));refine IR (iH (iF ?_));refine IR (iJ (t3 ?_));cases r:i (j+1) (eZ i j)with
 |true=>
  simp only[aX];refine IR ?_;refine mR m rfl (IR (iJ ?_));rw[oH];refine t3 ⟨ql F.plain_min_loop _,U (j+1) _ v _ (by omega) y (ag _ _ z λb o _ d e=>(hH _ _ (Ne.symm d)).trans e) (W.frame _ _ _ T λb Y o e=>?_) (by simp only[eZ,r,aX];exact H) (jR _ m rfl) λE t D u x=>?_⟩
  ·exact(hH _ _ (λh:S=b=>J (by rw[h];exact Y))).trans e
  ·exact q E t D u λb o f d e=>x b o f d ((hH _ _ (Ne.symm d)).trans (g b o f e))
 |false=>
  simp only[fF,aF];refine IR (iJ ?_);rw[oH];refine t3 ⟨ql F.plain_min_loop _,U (j+1) _ a c (by omega) y z T (by simp only[eZ,r,fF,aF];exact p) m λE t D u x=>?_⟩;exact q E t D u λb o f d e=>x b o f d (g b o f e))
theorem Hn {ok:wn->Prop}(W:Walks prog w A.in1 W1 fp wr n P St) (d:Nat->Nat->Bool) (x:w_ prog w A.in1 ok P d) (S:B) (f:S∉fp) (ag:∀h h':wn,ok h->(∀b o,b∉wr->b≠S->h.get? b=some o->h'.get? b=some o)->ok h') (hn:0<n) {s:Rs}{c:Nat}(z:ok s.heap) (D:St 0 s.heap) (i:s.heap.get? S=some {cls:=.type "list",dict:=none,data:=.seq #[] c,slots:= #[]})
  (q:∀v h' tk,P (eZ d (n-1)) v->(∀b o,b∉wr->b≠S->s.heap.get? b=some o->h'.get? b=some o)->R (.ok (.ret v)) {s with heap:=h',toks:=tk}):codeAny (Do prog w) A (.builtin "min.loop" ⟨[.ref W1,.none,.ref S],[]⟩) R s:=by(
have r:S∉wr:=λh=>f (W.sub _ h);refine vB F.entry_min_loop ?_;rw[wV F.plain_min_loop _];show wpAny _ A.in1 (vN (.ref S) >>= _) _ _ s;refine IR (hC i rfl ?_);show wpAny _ A.in1 (tryCatch (eD (.ref W1)) _ >>= _) _ _ s;refine IR (qi (W.item 0 s _ _ hn D λv h' tk m E g=>?_));have j:=g S _ r i;have C:ok h':=ag _ _ z λb o t _ e=>g b o t e;show wpAny _ A.in1 (vM S (λ_=> #[v,v]) >>= _) _ _ _;refine IR ?_;refine mR j rfl ?_;rw[oH];refine t3 ⟨ql F.plain_min_loop _,Ho W d x S f ag _ 0 _ v _ rfl hn (ag _ _ C λb o _ a e=>(hH _ _ (Ne.symm a)).trans e) (W.frame _ _ _ E λb u o e=>?_) m (jR _ j rfl) λJ l H p y=>?_⟩
·exact(hH _ _ (λh:S=b=>f (by rw[h];exact u))).trans e
·exact q J l H p λb o k a e=>y b o k a ((hH _ _ (Ne.symm a)).trans (g b o k e)))
end
theorem xo (a:Nat->Nat->Bool) (c:∀i,a i i=false) (tr:∀i j k,a i j=true->a j k=true->a i k=true):∀k,eZ a k<=k/\∀j,j<=k->a j (eZ a k)=false
 |0=>⟨t1 _,λj b=>by rw[wm.mp b];exact c _⟩
 |k+1=>by
  obtain⟨h1,h2⟩:=xo a c tr k;unfold eZ;cases q:a (k+1) (eZ a k)with
  |true=>
   simp only[aX];refine⟨t1 _,λj b=>?_⟩;by_cases e:j=k+1
   ·rw[e];exact c _
   ·cases z:a j (k+1)with
    |false=>rfl
    |true=>have:=tr _ _ _ z q;rw[h2 j (by omega)]at this;cases this
  |false=>
   simp only[fF,aF];refine⟨by omega,λj b=>?_⟩;by_cases e:j=k+1
   ·rw[e];exact q
   ·exact h2 j (by omega)
theorem yU:∀a:List Int,HT.lexLt a a=false
 |[]=>rfl
 |x::a=>by rw[HT.kx,No rfl];exact yU a
theorem yW:∀a b c:List Int,HT.lexLt a b=true->HT.lexLt b c=true->HT.lexLt a c=true
 |[],[],_,h,_=>by cases h
 |[],_::_,[],_,h=>by cases h
 |[],_::_,_::_,_,_=>rfl
 |_::_,[],_,h,_=>by cases h
 |_::_,_::_,[],_,h=>by cases h
 |x::a,y::b,z::c,h,h'=>by
  rw[HT.kx]at h h'⊢;by_cases e:x=y
  ·rw[No e]at h;by_cases d:y=z
   ·rw[No d]at h';rw[No (e.trans d)];exact yW a b c h h'
   ·rw[Ps d]at h';rw[Ps (by omega)];rw[e];exact h'
  ·rw[Ps e]at h;have h1:x<y:=vv h;by_cases d:y=z
   ·rw[Ps (by omega)];exact s2 (by omega)
   ·rw[Ps d]at h';have h2:y<z:=vv h';rw[Ps (by omega)];exact s2 (by omega)
def J2 (K:xz):List XV->Hp->VK->Prop:=λvs H Q=>∃(a:B) (as:List B) (L:List (List Int)),vs=[XV.ref a]/\TW K H a (as.map XV.ref)/\Paired (λb ns=>H b=some (.tup (ns.map XV.int))) as L/\0<as.length/\
 ∀(i:Nat) (b:B) (m:List Int),as[i]?=some b->L[i]?=some m->(∀c,c∈L->HT.lexLt c m=false)->Q (.ref b) H
theorem Ey {X:Cx}(Nw:X.calm=true) (hu:X.A.units+1<cJ):gV X (.builtin "min") (J2 X.K):=by(
intro WP s ZB H vs us Q W1 r h;obtain⟨a,as,L,rfl,NC,N,NS,q⟩:=h;obtain⟨Op,Y,n,_⟩:=W1.list NC;rw[wP.sT r];have NW:Op.length=as.length:=by rw[<- Y.length,FS]
have NV:L.length=as.length:=(Paired.length N).symm;have at_:∀(i:Nat) (v:Wp),Op.toArray[i]?=some v->∃b ns,as[i]?=some b/\L[i]?=some ns/\v=f8 b/\∃y,iU s.heap b y/\cn y.toList ns:=λi v hv=>by
 have U:Op[i]?=some v:=by simpa using hv
 have hi:=(ay.mp U).1;obtain⟨b,d⟩:∃b,as[i]?=some b:=⟨_,im (by omega)⟩;obtain⟨u,T,NK⟩:=Y.get (show(as.map XV.ref)[i]?=some (XV.ref b) by rw[pr,d];rfl);rw[U]at T;cases T;cases NK;obtain⟨ns,p,Nu⟩:=Dv.dP N d;obtain⟨z,NY,rt,x⟩:=W1.ag b _ Nu;exact⟨b,ns,d,p,O,_,x,by simpa using intsAre_of rt⟩
have Nx:∃o,s.heap.get? a=some o:=let ⟨o,e,_⟩:=n.isList;⟨o,e⟩;obtain⟨NX,NA⟩:=Nx;have J:a<s.heap.objs.size:=f0 NA;refine call_function_tree F.kind_min F.plain_min F.entry_min (F.args_min1 _) ?_;show wpAny _ X.A.in1 (Builtin.Builtins.bindParams "min" ["key","default"] 0 ⟨[],[]⟩ >>= _) _ _ s;refine IR (B8 (show Builtin.Builtins.bindParams "min" ["key","default"] 0 ⟨[],[]⟩=pure [none,none] from rfl) ?_);refine IR (t3 ?_);refine IR (mP n.isList ?_);refine IR (mQ ?_);rw[oH];generalize t:s.heap.push {cls:=.type "list_iterator",data:=.fields #[.ref a,.int 0 0]}=h2;have C:∀b o,s.heap.get? b=some o->h2.get? b=some o:=λb o e=>by rw[<- t];exact ls _ e
have D:h2.objs.size=s.heap.objs.size+1:=by rw[<- t];exact cK ..
have W:=Walks.list (prog:=X.prog) (w:=X.w) (A:=X.A.in1) (W1.ok.hd Nw) s.heap.objs.size a (b1 J) Op.toArray;refine t3 ⟨ql F.plain_min_loop _,Hn (ok:=λh=>∀b o,s.heap.get? b=some o->h.get? b=some o) W (λi j=>HT.lexLt (L.getD i []) (L.getD j [])) (λi j NL NM s' Nj NN ok hi f g=>?_) h2.objs.size ?_ ?_ (by simp;omega) (λb o e=>ls _ (C b o e)) ?_ (a9 _ rfl) λv h' tk Nv l=>?_⟩
·obtain⟨b,ns,d,p,rfl,y,x,ND⟩:=at_ i NL hi;obtain⟨NO,NI,NQ,Nz,rfl,NU,NG,NF⟩:=at_ j NM f;have Nk:L.getD i []=ns:=by rw[nw,p];rfl
 have Nl:L.getD j []=NI:=by rw[nw,Nz];rfl
 replace g:Nj (qK (HT.lexLt (L.getD i []) (L.getD j []))) s':=g
 rw[Nk,Nl]at g;obtain⟨o,Nm,Np,g3⟩:=x;obtain⟨o',Nn,Nq,Nr⟩:=NG;exact HT.y1 (A:=X.A.in1) ⟨o,ok _ _ Nm,Np,g3⟩ ⟨o',ok _ _ Nn,Nq,Nr⟩ ND NF (by show X.A.units+1<cJ;exact hu) g
·rw[D];intro m;rcases s1.mp m with e|e
 ·exact Nat.succ_ne_self _ e
 ·exact Nat.not_lt.mpr (hL _) (wi (jU (ss.mp e)) J)
·intro h h' ok l b o e;have d:=f0 e;exact l b o (λm=>b1 d (ss.mp m)) (by rw[D];exact b1 (lh d)) (ok b o e)
·refine⟨⟨{cls:=.type "list_iterator",data:=.fields #[.ref a,.int 0 0]},?_,O,O⟩,?_⟩
 ·refine ls _ (by rw[<- t];exact a9 _ rfl)
 ·have:=n.isList;obtain⟨o,e,c1,c2⟩:=this;exact⟨o,ls _ (C _ _ e),c1,c2⟩
·have d:=xo (λi j=>HT.lexLt (L.getD i []) (L.getD j [])) (λi=>yU _) (λi j k=>yW _ _ _) (Op.toArray.size-1);obtain⟨b,ns,h1,E,rfl,_⟩:=at_ _ v Nv;refine⟨.ref b,H,W1.kept (t':=tk) λc o e=>l c o ?_ ?_ (ls _ (C _ _ e)),O,q _ b ns h1 E λNH Ny=>?_⟩
 ·exact λm=>b1 (f0 e) (ss.mp m)
 ·rw[D];exact b1 (lh (f0 e))
 ·obtain⟨j,f⟩:=fD.mp Ny;have NR:=(ay.mp f).1;have:=d.2 j (by simp;omega)
  replace this:HT.lexLt (L.getD j []) (L.getD (eZ (λi j=>HT.lexLt (L.getD i []) (L.getD j [])) (Op.toArray.size-1)) [])=false:=this
  rw[show L.getD j []=NH by rw[nw,f];rfl]at this;rw[show L.getD (eZ (λi j=>HT.lexLt (L.getD i []) (L.getD j [])) (Op.toArray.size-1)) []=ns by rw[nw,E];rfl]at this;exact this)
end L2
namespace Dv
open PySem L2 Tw
variable {P:pu}{w:rs}{K:xz}{mg:Str->Option Wp}{base:wn}{CP CN CS CL CG:B}
abbrev tG:v1:=nb 37
abbrev tW:v1:=nb 38
abbrev tM:v1:=nb 39
abbrev t6:v1:=nb 40
abbrev t7:v1:=nb 41
abbrev tT:v1:=nb 42
abbrev tp:v1:=nb 43
abbrev tF:v1:=nb 48
structure ej (mg:Str->Option Wp):Prop where
 c1:aY mg "NO_WAY" (-1)
 c3:aY mg "TOO_MANY" (-3)
 un:aY mg "UNREACHED" (-1)
 wk:aY mg "WALKED" (-1)
 nv:aY mg "NEVER" 1000000
 m8:aY mg "MOST_RIDES_OF_FRONT" 8
 min:mg "min"=none
 list:mg "list"=none
 sorted:mg "sorted"=none
def bm (a:wb):List Int:=a.code::(if a.code<0 then []else a.out)
def fY (most:Int) (L:List (List Int)):List Int:=if(L.length:Int)<=most then(L.length:Int)::L.flatten else [-3]
theorem zS (most:Int) (L:List (List Int)):fY most L=bm (la most L):=by(
unfold fY bm la;by_cases c:(L.length:Int)<=most
·simp only[No c];rw[Ps (by omega)]
·simp only[Ps c,bC];rfl)
def jC:Sp:=λvs H Q _=>∃(b:B) (most:Int) (c:List XV) (L:List (List Int)),vs=[.ref b,.int most]/\H b=some (.lst c)/\Paired (λv r=>TupAt H v (r.map XV.int)) c L/\most<=4096/\(∀r,r∈L->r.length<=9)/\
 ∀(V:Hp) (a:B),Tl H V->H a=none->V a=some (.lst ((fY most L).map XV.int))->Q (.ref a) V
theorem oy {a:Int}(h:(decide (0<=a)&&decide (a<=4096))=true):a<=4096:=by simp only[ga,f4]at h;exact h.2
theorem uk:pc ["rows","most","answer","row"] ["rows","most"] (sB tF):=nl rfl rfl rfl (by decide +kernel)
theorem Il {f:B}{fd:sc}(F:sn K "counted" "counted" tF f fd) (T:bM K mg CP) (U:ej mg):Db P w K mg base AC 1 f fd ["rows","most"] jC:=by(
refine F.ok uk (λvs H Q E h=>?_) (λy u outer s0 H vs Q E hr h=>?_)
·obtain⟨d,most,l,L,rfl,_⟩:=h;rfl
·obtain⟨d,most,l,L,rfl,g,p,z,o,k⟩:=h;refine⟨_,On (kt (he ml (aV bV (by rfl) T.len bR (WF (I 0) PP)) (I 1) (lm _)) (FM (tz (f2 (WF (nm U.c3 rfl) PP)))) io)
  (On (tt (i:=2) uk.nd rfl (IN rfl) (f2 (WF (aV bV (by rfl) T.len bR (WF (I 0) PP)) PP)))
  (On (cw bD rfl (cf (I 0)) (v4 (i:=3) uk.nd rfl (IN rfl))
   (FM (dL (cv b8 Cq Cr Hu (I 2) (WF (I 3) PP)))))
  (FM (tz (I 2))))),?_⟩
 have j:l.length=L.length:=Paired.length p;refine⟨_,O,d,_,O,.inl (TW.of g),_,O,_,_,O,O,_,O,?_⟩;by_cases c:most<(L.length:Int)
 ·rw[s2 (by rw[j];exact c)];refine ww ⟨by show 1<=Is;decide,λa b=>k _ a (Tl.new b) b ?_⟩;unfold fY;rw[KE,Ps (by omega)];rfl
 ·rw[sw (by rw[j];exact c)];refine v6 ⟨_,O,d,_,O,.inl (TW.of g),by show 1<=Is;decide,λa b=>?_⟩;have t:Tl H (T0 H a (.lst [XV.int (l.length:Int)])):=Tl.new b;refine⟨_,O,d,O,⟨_,TW.of (t _ _ g)⟩,?_⟩;refine gv (K:=K) (a:=d) (xs:=l) (λi ZB H2=>∃n,ZB=[some (.ref d),some (.int most),some (.ref a),n]/\H2=T0 H a (.lst (((L.length:Int)::(L.take i).flatten).map XV.int)))
   ⟨none,O,by rw[j];rfl⟩ (λi ZB H2 _ ⟨_,_,e⟩=>by rw[e];exact TW.of (Tl.new b _ _ g)) ?_ ?_
  ·rintro i v ZB H2 hi ⟨n,rfl,rfl⟩;obtain⟨r,m,ta,rfl,q⟩:=dP p hi;have A:=(ay.mp m).1;have fl:((L.take i).flatten).length<=9*i:=by
    rw[Bi];have:=mK cm 9 (L.take i) λx s=>o x (nA s);rw[aK]at this;have hm:min i L.length<=i:=Nat.min_le_left ..;have:=Nat.mul_le_mul_left 9 hm;omega
   have C:=o r (pi m);refine⟨_,O,.inl ⟨O,_,TW.of KE⟩,_,O,a,ta,_,_,O,O,KE,pm.of (Tl.new b _ _ q),?_,?_⟩
   ·simp only[FS,bh];exact d1 (small (by omega))
   ·refine⟨_,O,?_⟩;rw[gF,ck,m,cz,List.flatten_append,<-bA];simp
  ·rintro ZB H2 ⟨n,rfl,rfl⟩;refine⟨_,O,k _ a (Tl.new b) b ?_⟩;rw[KE,j,de];unfold fY;rw[No (by omega)])
theorem iv (N:Nt) (S:SS):∀k,aI N S k=aW N S k
 |0=>rfl
 |k+1=>by show cj N (aI N S k)=cj N (aW N S k);rw[iv N S k]
def cx (CP CN:B) (args:List Int->Option b0) (n:Nat):Sp:=λvs H Q _=>∃(A:PA) (T:Go) (m:Nat) (l:List Int) (c:b0),vs=XV.ref A.x::l.map XV.int/\l.length=n/\args l=some c/\em CP CN H A T m/\eI T/\m+2<=1000/\
 ∀(V:Hp) (a:B),em CP CN V A T (m+2)->Ev [A.n] H V->H a=none->V a=some (.lst ((bm (EQ T c).1).map XV.int))->Q (.ref a) V
def h5:List Int->Option b0
 |[a,b,d,t]=>some (.earliest a b d t)
 |_=>none
def h8:List Int->Option b0
 |[a,b,d,t]=>some (.latest a b d t)
 |_=>none
theorem z7:pc ["plan","start","goal","day","minute","search"] ["plan","start","goal","day","minute"] (sB tG):=nl rfl rfl rfl (by decide +kernel)
theorem z9:pc ["plan","start","goal","day","minute","search"] ["plan","start","goal","day","minute"] (sB tW):=nl rfl rfl rfl (by decide +kernel)
theorem ja {T:Go}{a b d t:Int}(h:bS T a b d t=true):∃(x y e:Nat),a=(x:Int)/\b=(y:Int)/\d=(e:Int)/\x<T.stops.length/\y<T.stops.length/\e<7/\0<=t/\t<2880:=by
 unfold bS eF u8 at h;simp only[ga,f4]at h;exact⟨a.toNat,b.toNat,d.toNat,by omega,by omega,by omega,by omega,by omega,by omega,by omega,by omega⟩
theorem gk {l:List B}{H V:Hp}(h:Ev l H V) {a:B}(c:V a=none) (d:∀b,b∈l->V b≠none):H a=none:=by(
cases q:H a with
|none=>rfl
|some o=>
 have:=h a o q λz=>d a z c;rw[c]at this;cases this)
theorem int_at {l:List Int}{i:Nat}(h:i<l.length):(l.map XV.int)[i]?=some (XV.int (l.getD i 0)):=by
 rw[pr,bN h 0];rfl
theorem kB {l:List Nat}{i:Nat}(h:i<l.length):(l.map Sc)[i]?=some (Sc (l.getD i 0)):=by
 rw[pr,bN h 0];rfl
theorem Im {f L Nq Y:B}{fd Nr Nu Nv:sc}(F:sn K "earliest" "earliest" tG f fd) (T:bM K mg CP) (U:ej mg) (X:a' K mg CS CN)
  (Ny:Db P w K mg base AC 2 L Nr ["plan","start","goal","day","minute"] (ht CP CN)) (NC:Binds K Nr ["plan","start","goal","day","minute"] []) (NS:mg "can_ask"=some (.ref L)) (NO:cL K (.ref L)=true)
  (Nz:Db P w K mg base AC 4 Nq Nu ["self","day"] (fu CP CN gW)) (ND:Binds K Nu ["self","day"] []) (NR:b3 K CP "forward" Nq)
  (NA:Db P w K mg base AC 6 Y Nv ["network","start","minute"] (kW CS CN)) (NF:Binds K Nv ["network","start","minute"] []) (NU:mg "searched"=some (.ref Y)) (NQ:cL K (.ref Y)=true):Db P w K mg base AC 7 f fd ["plan","start","goal","day","minute"] (cx CP CN h5 4):=by(
refine F.ok z7 (λvs H Q E h=>?_) (λNY NX outer s0 H vs Q E hr h=>?_)
·obtain⟨A,o,m,l,c,rfl,Nm,_⟩:=h;simp[Nm]
·obtain⟨A,o,m,l,c,rfl,Nm,NL,D,hT,hm,k⟩:=h;obtain⟨a,b,d,t,rfl⟩:∃a b d t,l=[a,b,d,t]:=by match l,Nm with|[a,b,d,t],_=>exact⟨a,b,d,t,O⟩
 cases NL;refine⟨_,On (kt (bI (cg (ii Ny (hr.mono) rfl NS NO NC .nil wE (WF (I 0) (WF (I 1) (WF (I 2) (WF (I 3) (WF (I 4) PP)))))))) (FM (tz (f2 (WF (nm T.c2 rfl) PP)))) io)
  (On (tt (i:=5) z7.nd rfl (IN rfl) (ii NA hr rfl NU NQ NF .nil wE (WF (an (I 0) T.cl NR Nz (hr.mono) ND .nil wE (WF (I 3) PP)) (WF (I 1) (WF (I 4) PP)))))
  (On (kt (he cQ (Ch wT (zn (I 5) rfl) (I 2) (λ_ _=>rfl)) (nm U.nv rfl) (lm _)) (FM (tz (f2 (WF (nm U.c1 rfl) PP)))) io)
  (FM (tz (f2 (WF Fa (WF (Ch wT (zn (I 5) rfl) (I 2) (λ_ _=>rfl)) (WF (Ch wT (zn (I 5) rfl) (I 2) (λ_ _=>rfl)) PP)))))))),?_⟩
 refine⟨_,O,_,O,_,O,_,O,_,O,A,o,m,a,b,d,t,O,D,_,O,?_⟩;rw[jt];cases C:bS o a b d t with
 |false=>
  have s:EQ o (.earliest a b d t)=(bC (-2),o):=by simp only[EQ,C,aX]
  rw[s]at k;exact ww ⟨by show 1<=Is;decide,λp g=>k _ p ((D.same (Tl.new g)).more (by omega)) ((Tl.new g).but _) g KE⟩
 |true=>
  obtain⟨x,y,e,rfl,rfl,rfl,u,Nn,NM,N0,N1⟩:=ja C;refine v6 ⟨_,O,A.x,A.dx,_,O,D.ob,O,_,O,A,o,m,e,O,D,hT,NM,by omega,λH1 v NI hv NG NZ=>?_⟩;obtain⟨n,N,rfl,NH,Nk⟩:=hv;have hz:=jk hT e Nk;obtain⟨ok,same,hn⟩:=dq hT.bd Nk;refine⟨_,O,_,O,n,N,x,t,O,NH,hz,by rw[hn];exact u,λH2 S j q r Nx=>?_⟩;have Nl:=NI.same Nx;have Nj:Ev [A.n] H H2:=NG.tr (Nx.but []) λb r=>by simp at r
  have Np:=jz ok (kb ok (s0:=x) (t0:=t) (by rw[hn];exact u) (by unfold Gc;omega)) j;rw[<- iv]at Np;have J:=fm (((e8 hz).au (stop:=x) (by rw[hn];exact u) t t).bx (by rw[hn];exact u) t) j;generalize NK:aI N (b9 N x t) j=SS at q r Np;have J:pp N SS:=by rw[<- NK];exact J
  obtain⟨NV,NW⟩:=yd hT.bd Nk u Nn Np r (by unfold Gc;omega);have Nw:y<SS.arr.length:=by rw[J.arr,hn];exact Nn
  have NN:y<SS.rides.length:=by rw[J.rides,hn];exact Nn
  have free:∀ {p:B},H2 p=none->H p=none:=λg=>gk Nj g λb r=>Nl.there (by simp only[ss]at r;rw[r];simp[PA.own]);refine⟨_,O,S.x,CS,S.dx,_,_,O,q.ob,X.aq,X.dv,O,_,O,S.a1,_,_,_,O,O,TW.of q.arr,lw (int_at Nw),O,_,O,?_⟩;by_cases c:SS.arr.getD y 0=Gc
  ·rw[s2 (by rw[c];rfl)];have s:EQ o (.earliest x y e t)=(bC (-1),o):=by simp only[EQ,C,cU,aF,d2,NV c]
   rw[s]at k;refine ww ⟨by show 1<=Is;decide,λp g=>?_⟩;exact k _ p ((Nl.same (Tl.new g)).more (by omega)) (Nj.new g) (free g) KE
  ·rw[sw (by intro z;injection z with z;exact c z)];have s:EQ o (.earliest x y e t)=(⟨0,[SS.arr.getD y 0,((SS.rides.getD y 0:Nat):Int)]⟩,o):=by simp only[EQ,C,cU,aF,d2,NW c]
   rw[s]at k;refine v6 ⟨_,O,S.x,CS,S.dx,_,_,O,q.ob,X.aq,X.dv,O,_,O,S.a1,_,_,_,O,O,TW.of q.arr,lw (int_at Nw),_,O,S.x,CS,S.dx,_,_,O,q.ob,X.aq,X.mz,O,_,O,S.a2,_,_,_,O,O,TW.of q.rides,lw (kB NN),by show 3<=Is;decide,λp g=>?_⟩;exact k _ p ((Nl.same (Tl.new g)).more (by omega)) (Nj.new g) (free g) KE)
theorem IG {f L Nq Y:B}{fd Nr Nu Nv:sc}(F:sn K "latest" "latest" tW f fd) (T:bM K mg CP) (U:ej mg) (X:a' K mg CS CN)
  (Ny:Db P w K mg base AC 2 L Nr ["plan","start","goal","day","minute"] (ht CP CN)) (NC:Binds K Nr ["plan","start","goal","day","minute"] []) (NS:mg "can_ask"=some (.ref L)) (NO:cL K (.ref L)=true)
  (Nz:Db P w K mg base AC 5 Nq Nu ["self","day"] (fu CP CN lG)) (ND:Binds K Nu ["self","day"] []) (NR:b3 K CP "mirrored" Nq)
  (NA:Db P w K mg base AC 6 Y Nv ["network","start","minute"] (kW CS CN)) (NF:Binds K Nv ["network","start","minute"] []) (NU:mg "searched"=some (.ref Y)) (NQ:cL K (.ref Y)=true):Db P w K mg base AC 7 f fd ["plan","start","goal","day","minute"] (cx CP CN h8 4):=by(
refine F.ok z9 (λvs H Q E h=>?_) (λNY NX outer s0 H vs Q E hr h=>?_)
·obtain⟨A,o,m,l,c,rfl,Nm,_⟩:=h;simp[Nm]
·obtain⟨A,o,m,l,c,rfl,Nm,NL,D,hT,hm,k⟩:=h;obtain⟨a,b,d,t,rfl⟩:∃a b d t,l=[a,b,d,t]:=by match l,Nm with|[a,b,d,t],_=>exact⟨a,b,d,t,O⟩
 cases NL;refine⟨_,On (kt (bI (cg (ii Ny (hr.mono) rfl NS NO NC .nil wE (WF (I 0) (WF (I 1) (WF (I 2) (WF (I 3) (WF (I 4) PP)))))))) (FM (tz (f2 (WF (nm T.c2 rfl) PP)))) io)
  (On (tt (i:=5) z9.nd rfl (IN rfl) (ii NA hr rfl NU NQ NF .nil wE (WF (an (I 0) T.cl NR Nz (hr.mono) ND .nil wE (WF (I 3) PP)) (WF (I 2) (WF (et ey (I 4)) PP)))))
  (On (kt (he cQ (Ch wT (zn (I 5) rfl) (I 1) (λ_ _=>rfl)) (nm U.nv rfl) (lm _)) (FM (tz (f2 (WF (nm U.c1 rfl) PP)))) io)
  (FM (tz (f2 (WF Fa (WF (et ey (Ch wT (zn (I 5) rfl) (I 1) (λ_ _=>rfl))) (WF (Ch wT (zn (I 5) rfl) (I 1) (λ_ _=>rfl)) PP)))))))),?_⟩
 refine⟨_,O,_,O,_,O,_,O,_,O,A,o,m,a,b,d,t,O,D,_,O,?_⟩;rw[jt];cases C:bS o a b d t with
 |false=>
  have s:EQ o (.latest a b d t)=(bC (-2),o):=by simp only[EQ,C,aX]
  rw[s]at k;exact ww ⟨by show 1<=Is;decide,λp g=>k _ p ((D.same (Tl.new g)).more (by omega)) ((Tl.new g).but _) g KE⟩
 |true=>
  obtain⟨x,y,e,rfl,rfl,rfl,Nn,u,NM,N0,N1⟩:=ja C;refine v6 ⟨_,O,A.x,A.dx,_,O,D.ob,O,_,O,A,o,m,e,O,D,hT,NM,by omega,λH1 v NI hv NG NZ=>?_⟩;obtain⟨n,N,rfl,NH,Nk⟩:=hv;have hz:=xM hT e Nk;obtain⟨ok,same,hn⟩:=jd hT.bd Nk;refine⟨_,O,_,O,t,O,n,N,y,-t,O,NH,hz,by rw[hn];exact u,λH2 S j q r Nx=>?_⟩;have Nl:=NI.same Nx;have Nj:Ev [A.n] H H2:=NG.tr (Nx.but []) λb r=>by simp at r
  have Np:=jz ok (kb ok (s0:=y) (t0:= -t) (by rw[hn];exact u) (by unfold Gc;omega)) j;rw[<- iv]at Np;have J:=fm (((e8 hz).au (stop:=y) (by rw[hn];exact u) (-t) (-t)).bx (by rw[hn];exact u) (-t)) j;generalize NK:aI N (b9 N y (-t)) j=SS at q r Np;have J:pp N SS:=by rw[<- NK];exact J
  obtain⟨NV,NW⟩:=G9 hT.bd Nk Nn u Np r (by unfold Gc;omega);have Nw:x<SS.arr.length:=by rw[J.arr,hn];exact Nn
  have NN:x<SS.rides.length:=by rw[J.rides,hn];exact Nn
  have free:∀ {p:B},H2 p=none->H p=none:=λg=>gk Nj g λb r=>Nl.there (by simp only[ss]at r;rw[r];simp[PA.own]);refine⟨_,O,S.x,CS,S.dx,_,_,O,q.ob,X.aq,X.dv,O,_,O,S.a1,_,_,_,O,O,TW.of q.arr,lw (int_at Nw),O,_,O,?_⟩;by_cases c:SS.arr.getD x 0=Gc
  ·rw[s2 (by rw[c];rfl)];have s:EQ o (.latest x y e t)=(bC (-1),o):=by simp only[EQ,C,cU,aF,d2,NV c]
   rw[s]at k;refine ww ⟨by show 1<=Is;decide,λp g=>?_⟩;exact k _ p ((Nl.same (Tl.new g)).more (by omega)) (Nj.new g) (free g) KE
  ·rw[sw (by intro z;injection z with z;exact c z)];have s:EQ o (.latest x y e t)=(⟨0,[-(SS.arr.getD x 0),((SS.rides.getD x 0:Nat):Int)]⟩,o):=by simp only[EQ,C,cU,aF,d2,NW c]
   rw[s]at k;refine v6 ⟨_,O,S.x,CS,S.dx,_,_,O,q.ob,X.aq,X.dv,O,_,O,S.a1,_,_,_,O,O,TW.of q.arr,lw (int_at Nw),_,O,_,O,S.x,CS,S.dx,_,_,O,q.ob,X.aq,X.mz,O,_,O,S.a2,_,_,_,O,O,TW.of q.rides,lw (kB NN),by show 3<=Is;decide,λp g=>?_⟩;exact k _ p ((Nl.same (Tl.new g)).more (by omega)) (Nj.new g) (free g) KE)
def Gf (P:pu) (w:rs) (K:xz) (mg:Str->Option Wp) (base:wn) (k:Nat) (x:Str) (ps:List Str) (sp:Sp):Prop:=∃f fd,Db P w K mg base AC k f fd ps sp/\Binds K fd ps []/\mg x=some (.ref f)/\cL K (.ref f)=true
def Gm (P:pu) (w:rs) (K:xz) (mg:Str->Option Wp) (base:wn) (k:Nat) (C:B) (x:Str) (ps:List Str) (sp:Sp):Prop:=∃f fd,Db P w K mg base AC k f fd ps sp/\Binds K fd ps []/\b3 K C x f
theorem zr {H:Hp}{f:XV->List XV}{g:Int->List Int}(hf:∀x,f (.int x)=(g x).map XV.int):∀ {as:List B}{l:List Int},Paired (λa x=>H a=some (.tup (f x))) as (l.map XV.int)->Paired (λv r=>TupAt H v (r.map XV.int)) (as.map XV.ref) (l.map g)
 |[],[],_=>.nil
 |[],_::_,h=>by cases h
 |_::_,[],h=>by cases h
 |a::as,x::l,h=>by
  rw[na]at h;cases h with
  |cons r t=>exact .cons ⟨a,O,by rw[r,hf]⟩ (zr hf t)
def sR:XV->List XV
 |.int x=>[.int (if x<1000000 then x else -1)]
 |_=>[]
def h_:List Int->Option b0
 |[a,d,t,m]=>some (.reach a d t m)
 |_=>none
theorem pj:pc ["plan","start","day","minute","most","search","rows","arrival"] ["plan","start","day","minute","most"] (sB t7):=nl rfl rfl rfl (by decide +kernel)
theorem Fx {a c:Type}(f:a->c) (l:List a):(l.map λx=>[f x]).flatten=l.map f:=by(
induction l with
|nil=>rfl
|cons x l b=>rw[na,jZ,b];rfl)
theorem IQ {f:B}{fd:sc}(F:sn K "reach" "reach" t7 f fd) (T:bM K mg CP) (U:ej mg) (X:a' K mg CS CN)
  (NM:Gf P w K mg base 2 "can_ask" ["plan","start","goal","day","minute"] (ht CP CN)) (NQ:Gf P w K mg base 1 "is_most" ["most"] jD) (NN:Gm P w K mg base 4 CP "forward" ["self","day"] (fu CP CN gW))
  (NR:Gf P w K mg base 6 "searched" ["network","start","minute"] (kW CS CN)) (NO:Gf P w K mg base 1 "counted" ["rows","most"] jC):Db P w K mg base AC 7 f fd ["plan","start","day","minute","most"] (cx CP CN h_ 4):=by(
obtain⟨Oi,Ot,Ny,NG,N8,N2⟩:=NM;obtain⟨Om,Ow,GM,NK,N_,N4⟩:=NQ;obtain⟨Oj,Ou,Nz,NH,N7⟩:=NN;obtain⟨Oo,Ox,NC,NL,Oa,N5⟩:=NR;obtain⟨Ol,Ov,NA,NI,N9,N3⟩:=NO;refine F.ok pj (λvs H Q E h=>?_) (λOh Of outer s0 H vs Q E hr h=>?_)
·obtain⟨A,q,m,l,c,rfl,Nk,_⟩:=h;simp[Nk]
·obtain⟨A,q,m,l,c,rfl,Nk,NZ,L,hT,hm,k⟩:=h;obtain⟨a,d,t,o,rfl⟩:∃a d t o,l=[a,d,t,o]:=by match l,Nk with|[a,b,d,t],_=>exact⟨a,b,d,t,O⟩
 cases NZ;refine⟨_,On (kt (PW.pt (eb (bI (cg (ii Ny (hr.mono) rfl N8 N2 NG .nil wE (WF (I 0) (WF (I 1) (WF (I 1) (WF (I 2) (WF (I 3) PP)))))))) (gA (bI (cg (ii GM (hr.mono) rfl N_ N4 NK .nil wE (WF (I 4) PP))))))) (FM (tz (f2 (WF (nm T.c2 rfl) PP)))) io)
  (On (tt (i:=5) pj.nd rfl (IN rfl) (ii NC hr rfl Oa N5 NL .nil wE (WF (an (I 0) T.cl N7 Nz (hr.mono) NH .nil wE (WF (I 2) PP)) (WF (I 1) (WF (I 3) PP)))))
  (On (o1 (i:=6) (own:=[("arrival",7)]) rfl pj.nd rfl rfl rfl (cf (zn (I 5) rfl)) (e9 rfl) (λ_ _ _ _ _=>v4 (i:=7) pj.nd rfl (IN rfl) (dE rfl)) (λ_ _ _ _ _=>fW) (λ_ _ _ _ _=>bP (WF (Jv (he dO (I 7) (nm U.nv rfl) (lm _)) (I 7) (nm U.un rfl)) PP)))
  (FM (tz (ii NA (hr.mono) rfl N9 N3 NI .nil wE (WF (I 6) (WF (I 4) PP))))))),?_⟩
 have Np:(bS q a a d t&&u8 o 0 4096)=false->∀p,H p=none->Q (.ref p) (T0 H p (.lst [XV.int (-2)])):=λe p u=>by
  have NS:EQ q (.reach a d t o)=(bC (-2),q):=by simp only[EQ,e,aX]
  rw[NS]at k;exact k _ p ((L.same (Tl.new u)).more (by omega)) ((Tl.new u).but _) u KE
 refine⟨_,O,_,O,_,O,_,O,_,O,A,q,m,a,a,d,t,O,L,_,O,?_⟩;rw[jt];cases J:bS q a a d t with
 |false=>exact ww (ww ⟨by show 1<=Is;decide,Np (by rw[J];rfl)⟩)
 |true=>
  refine v6 ⟨_,O,o,O,_,O,?_⟩;cases D:(decide (0<=o)&&decide (o<=4096))with
  |false=>exact ww ⟨by show 1<=Is;decide,Np (by rw[J,show u8 o 0 4096=false from D];rfl)⟩
  |true=>
   obtain⟨x,y,e,rfl,OC,rfl,C,OD,N0,OA,OB⟩:=ja J;refine v6 ⟨_,O,A.x,A.dx,_,O,L.ob,O,_,O,A,q,m,e,O,L,hT,N0,by omega,λH1 v NX hv NU Oz=>?_⟩;obtain⟨n,N,rfl,NW,Nj⟩:=hv;have hz:=jk hT e Nj;obtain⟨ok,same,hn⟩:=dq hT.bd Nj;refine⟨_,O,_,O,n,N,x,t,O,NW,hz,by rw[hn];exact C,λH2 S j Y s Nv=>?_⟩;have Nr:=NX.same Nv;have Nq:Ev [A.n] H H2:=NU.tr (Nv.but []) λb s=>by simp at s
   have Nl:=jz ok (kb ok (s0:=x) (t0:=t) (by rw[hn];exact C) (by unfold Gc;omega)) j;rw[<- iv]at Nl;have Nn:=fm (((e8 hz).au (stop:=x) (by rw[hn];exact C) t t).bx (by rw[hn];exact C) t) j;generalize NY:aI N (b9 N x t) j=SS at Y s Nl;have Nn:pp N SS:=by rw[<- NY];exact Nn
   have ci:=J' hT.bd Nj C Nl s (by unfold Gc;omega);have N6:SS.arr.length=q.stops.length:=by rw[Nn.arr,hn]
   have Oy:=hT.sz.stops;refine⟨_,O,S.x,CS,S.dx,_,_,O,Y.ob,X.aq,X.dv,O,S.a1,O,⟨_,TW.of Y.arr⟩,λNx Ob=>?_⟩;refine yO sR Ob (TW.of Y.arr) (by rw[FS];exact d1 (small (by omega))) (λv hv ND Og Nm Nu=>?_) λND as OF NV Oc Nm Oq=>?_
   ·obtain⟨z,OE,rfl⟩:=m0.mp hv;refine⟨O,_,O,_,_,O,O,_,O,?_⟩;by_cases c:z<1000000
    ·rw[s2 c];refine ww ⟨_,O,by show 1<=Is;decide,λp u=>?_⟩;have:=Nu p u;simp only[sR,No c]at this;exact this
    ·rw[sw c];refine v6 ⟨by show 1<=Is;decide,λp u=>?_⟩;have:=Nu p u;simp only[sR,Ps c]at this;exact this
   ·have Od:=zr (g:=λx=>[if x<1000000 then x else -1]) (λx=>rfl) Oc;refine⟨_,O,_,O,Nx,o,_,_,O,NV,Od,oy D,λr hr=>?_,λNF p Oe u N1=>?_⟩
    ·obtain⟨z,_,rfl⟩:=m0.mp hr;show 1<=9;decide
    have Nw:=Nm.tr Oe;refine k NF p ((Nr.same Nw).more (by omega)) (Nq.tr (Nw.but []) λb s=>by simp at s) ?_ ?_
    ·exact gk Nq (Nm.free u) λb s=>Nr.there (by simp only[ss]at s;rw[s];simp[PA.own])
    ·rw[N1];have eq:fY o (SS.arr.map λx=>[if x<1000000 then x else -1])=bm (EQ q (.reach x e t o)).1:=by
      have hw:(bS q x x e t&&u8 o 0 4096)=true:=by rw[J,show u8 o 0 4096=true from D];rfl
      unfold fY;rw[FS,N6,Fx];by_cases c:o<(q.stops.length:Int)
      ·simp only[EQ,hw,c,aX,cU,aF,bC];rw[Ps (by omega)];rfl
      ·simp only[EQ,hw,c,cU,aF,d2];rw[No (by omega),ci];unfold bm;rw[Ps (show ¬((q.stops.length:Int)<0) by omega)];rfl
     rw[eq])
end Dv
namespace L2
open PySem
theorem G_ {K:xz}{a:B}{xs:List XV}{n:TT}{v:Nat}{ZB:St}{H1:Hp}{D:B}{j:Hp->Prop}(p:XV->Bool) (k:H1 D=none) (o:TW K H1 a xs) (hz:xs.length<=Is)
  (hv:∀x,np ((np ZB [v]).set v (some x)) [v]=np ZB [v]) (hg:∀x,((np ZB [v]).set v (some x))[v]?=some (some x))
  (step:∀x,x∈xs->∀(H:Hp) (R:Bool->Hp->Prop),Tl H1 H->R (p x) H->n ((np ZB [v]).set v (some x)) H R) (post:j (T0 H1 D (.lst (xs.filter p)))):
  ∃W:Nat->Nat->Hp->Prop,(∃m,W 0 m (T0 H1 D (.lst [])))/\∀i m H,W i m H->
   ((cD K a).stop i H/\j H)\/((cD K a).go i H/\∃d:Hp->Prop,(∀V,d V->∃l,l<m/\W (i+1) l V)/\∀x V,(cD K a).ez i H x V->bG v x (np ZB [v]) V λf H2=>np f [v]=np ZB [v]/\n f H2 λb g=>
    if b=true then bQ v f g λy h=>∃wl,h D=some (.lst wl)/\wl.length<Is/\d (T0 h D (.lst (wl++[y])))else d g):=by(
refine l7 (xs:=xs) (λi H=>H=T0 H1 D (.lst ((xs.take i).filter p))) (by simp) (λi H _ (e:H=_)=>by rw[e];exact o.same (Tl.new k)) ?_ (λH (e:H=_)=>by rw[e,de];exact post);rintro i x H hi rfl;have q:i<xs.length:=(ay.mp hi).1;refine⟨hv x,step x (pi hi) _ _ (Tl.new k) ?_⟩;have e:(xs.take (i+1)).filter p=(xs.take i).filter p++(if p x=true then [x]else []):=by
 rw[ck,hi,cz,jY]
 congr 1
 by_cases c:p x=true<;>simp[c]
rw[e];cases c:p x with
|true=>
 rw[No rfl];refine⟨x,hg x,_,KE,?_,by rw[gF,No rfl]⟩;have h1:=ly p (xs.take i);rw[aK]at h1;omega
|false=>
 rw[Ps (by simp),Ps (by simp),e4])
end L2
namespace Dv
open PySem L2 Tw
variable {P:pu}{w:rs}{K:xz}{mg:Str->Option Wp}{base:wn}{CP CN CS CL CG:B}
theorem sD {d e:Type}{R:d->e->Prop}{p:d->Bool}{q:e->Bool}(h:∀x y,R x y->p x=q y):∀ {xs:List d}{ys:List e},Paired R xs ys->Paired R (xs.filter p) (ys.filter q)
 |_,_,.nil=>.nil
 |_,_,.cons (a:=a) (b:=b) r t=>by
  rw[nH,nH,h _ _ r];by_cases c:q b=true
  ·rw[No c,No c];exact .cons r (sD h t)
  ·rw[Ps c,Ps c];exact sD h t
theorem zq {a b:Type}{R:a->b->Prop}:∀ {xs:List a}{ys:List b}(k:Nat),Paired R xs ys->Paired R (xs.take k) (ys.take k)
 |_,_,0,_=>.nil
 |_,_,_+1,.nil=>.nil
 |_,_,k+1,.cons r t=>.cons r (zq k t)
theorem nW {a:Type}{xs:List a}{v:a}(h:xs[xs.length-1]?=some v):dI xs (-1)=some v:=by(
have h0:=(ay.mp h).1;unfold dI eS;rw[Ps (by omega),No (by omega)];show xs[_]?=some v;rw[<- h]
congr 1
omega)
def h4:List Int->Option b0
 |[s,d,t,m]=>some (.board s d t m)
 |_=>none
theorem fq:pc ["plan","stop","day","minute","most","network","rows","goes","run","call","trip","begins","stops","comes","leaving"] ["plan","stop","day","minute","most"] (sB tp):=nl rfl rfl rfl (by decide +kernel)
def eQ (H:Hp) (t:Int) (v:XV):Bool:=match jH H v with
 |.int g::_=>decide (t<=g)
 |_=>false
theorem Ig {f:B}{fd:sc}(F:sn K "board" "board" tp f fd) (T:bM K mg CP) (U:ej mg) (X:a' K mg CS CN)
  (Ot:Gf P w K mg base 2 "can_ask" ["plan","start","goal","day","minute"] (ht CP CN)) (Ow:Gf P w K mg base 1 "is_most" ["most"] jD) (Ou:Gm P w K mg base 4 CP "forward" ["self","day"] (fu CP CN gW))
  (Ov:Gf P w K mg base 1 "counted" ["rows","most"] jC):Db P w K mg base AC 7 f fd ["plan","stop","day","minute","most"] (cx CP CN h4 4):=by
 obtain⟨Pg,Pl,Oh,Ol,O6,O1⟩:=Ot;obtain⟨Pk,Po,GM,Oq,O8,O3⟩:=Ow;obtain⟨Ph,Pm,Oi,Om,O5⟩:=Ou;obtain⟨Pj,Pn,Oj,Oo,O7,O2⟩:=Ov;refine F.ok fq (λvs H Q E h=>?_) (λPe Pd outer s0 H vs Q E hr h=>?_)
 ·obtain⟨A,J,m,l,c,rfl,NO,_⟩:=h;simp[NO]
 ·obtain⟨A,J,m,l,c,rfl,NO,OO,NF,hT,hm,k⟩:=h;obtain⟨a,d,t,s,rfl⟩:∃a d t s,l=[a,d,t,s]:=by match l,NO with|[a,b,d,t],_=>exact⟨a,b,d,t,O⟩
  cases OO;refine⟨_,On (kt (PW.pt (eb (bI (cg (ii Oh (hr.mono) rfl O6 O1 Ol .nil wE (WF (I 0) (WF (I 1) (WF (I 1) (WF (I 2) (WF (I 3) PP)))))))) (gA (bI (cg (ii GM (hr.mono) rfl O8 O3 Oq .nil wE (WF (I 4) PP))))))) (FM (tz (f2 (WF (nm T.c2 rfl) PP)))) io)
   (On (tt (i:=5) fq.nd rfl (IN rfl) (an (I 0) T.cl O5 Oi (hr.mono) Om .nil wE (WF (I 2) PP)))
   (On (tt (i:=6) fq.nd rfl (IN rfl) (f2 PP))
   (On (cw bD rfl (cf (mq mG (iu (own:=[("leaving",14)]) rfl fq.nd (cf (Ch wT (zn (I 5) rfl) (I 1) (λ_ _=>rfl))) (e9 rfl) (λ_ _ _ _ _=>v4 (i:=14) fq.nd rfl (IN rfl) (dE rfl)) (λ_ _ _ _ _=>JK (he (r:=dR λi j=>.bl (decide (j<=i))) kC (Ch (r:=zE K) gw (I 14) Fa (λ_ _=>rfl)) (I 3) (lm _))) (λ_ _ _ _ _=>I 14)) fj (dQ (I 4))))
     (cb rfl (re (v4 (i:=7) fq.nd rfl (IN rfl)) (re (v4 (i:=8) fq.nd rfl (IN rfl)) (re (v4 (i:=9) fq.nd rfl (IN rfl)) cc))))
    (On (du (Ch wT (zn (I 5) rfl) (I 8) (λ_ _=>rfl)) (cb rfl (re (v4 (i:=10) fq.nd rfl (IN rfl)) (re (v4 (i:=11) fq.nd rfl (IN rfl)) cc))))
    (On (du (Ch wT (zn (I 5) rfl) (I 8) (λ_ _=>rfl)) (cb rfl (re (v4 (i:=12) fq.nd rfl (IN rfl)) (re (v4 (i:=13) fq.nd rfl (IN rfl)) cc))))
    (FM (dL (cv b8 cV cW cP (I 6) (WF (bP (WF (I 7) (WF (I 10) (WF (I 11) (WF (Ch wT (I 12) (et ey Fa) (λ_ _=>rfl)) PP))))) PP)))))))
   (FM (tz (ii Oj (hr.mono) rfl O7 O2 Oo .nil wE (WF (I 6) (WF (I 4) PP)))))))),?_⟩
  have N4:(bS J a a d t&&u8 s 0 4096)=false->∀p,H p=none->Q (.ref p) (T0 H p (.lst [XV.int (-2)])):=λe p Nx=>by
   have Y:EQ J (.board a d t s)=(bC (-2),J):=by simp only[EQ,e,aX]
   rw[Y]at k;exact k _ p ((NF.same (Tl.new Nx)).more (by omega)) ((Tl.new Nx).but _) Nx KE
  refine⟨_,O,_,O,_,O,_,O,_,O,A,J,m,a,a,d,t,O,NF,_,O,?_⟩;rw[jt];cases ND:bS J a a d t with
  |false=>exact ww (ww ⟨by show 1<=Is;decide,N4 (by rw[ND];rfl)⟩)
  |true=>
   refine v6 ⟨_,O,s,O,_,O,?_⟩;cases Nq:(decide (0<=s)&&decide (s<=4096))with
   |false=>exact ww ⟨by show 1<=Is;decide,N4 (by rw[ND,show u8 s 0 4096=false from Nq];rfl)⟩
   |true=>
    have hw:(bS J a a d t&&u8 s 0 4096)=true:=by rw[ND,show u8 s 0 4096=true from Nq];rfl
    simp only[ga,f4]at Nq;obtain⟨x,y,e,rfl,PF,rfl,NQ,NH,OP,Pz,PB⟩:=ja ND;refine v6 ⟨_,O,A.x,A.dx,_,O,NF.ob,O,_,O,A,J,m,e,O,NF,hT,OP,by omega,λH1 v N7 hv N5 Pt=>?_⟩;obtain⟨n,N,rfl,N6,Nu⟩:=hv;have hz:=jk hT e Nu;obtain⟨ok,same,hn⟩:=dq hT.bd Nu;have ci:=Eg hT.bd Nu (t:=t) NQ;obtain⟨NL,c,r,o,Oz,Pp,PL,os,ds,fs,h1,h2,OF,OG,OH,OI,Pq,Pr,OJ,OE⟩:=N6.ex;refine⟨g1 _,λb NI=>?_⟩;have D:Tl H1 (T0 H1 b (.lst [])):=Tl.new NI;generalize OK:T0 H1 b (.lst [])=H2 at D⊢;have N8:H2 b=some (.lst []):=by rw[<- OK];exact KE
    have xd:x<N.af.length:=by rw[hz.af,hn];exact NQ
    obtain⟨vd,OY,es,⟨Oy,rfl,N_⟩,NU⟩:=cF OI (bN xd []);have PJ:es.length<=300000:=by
     rw[Paired.length NU];have:=jo (N.af.map cm) x;rw[nw,pr,bN xd []]at this;have this:(N.af.getD x []).length<=_:=this;have:=hz.small.2.1;omega
    have Pw:=N6.same D;refine⟨_,O,n,CN,NL,_,_,O,D _ _ h1,X.aN,X.hj,O,_,O,Oz,_,_,_,O,O,TW.of (D _ _ OH),lw OY,Oy,O,⟨_,TW.of (D _ _ N_)⟩,λNA Od=>?_⟩;refine G_ (eQ H2 t) Od (TW.of (D _ _ N_)) (d1 (small (by omega))) (λ_=>rfl) (λ_=>rfl) (λv hv Nn R Nm q=>?_) ?_
    ·obtain⟨Y,_,ta,rfl,Nw⟩:=kF NU hv;have Oc:=D _ _ Nw;have OD:eQ H2 t (.ref ta)=decide (t<=Y.1):=by simp only[eQ,jH,Oc,aS]
     rw[OD]at q;exact⟨_,O,ta,_,_,_,O,O,pm.of (Nm _ _ Oc),O,_,O,_,_,O,O,_,O,q⟩
    have Nm:Tl H2 (T0 H2 NA (.lst (es.filter (eQ H2 t)))):=Tl.new Od;generalize OL:T0 H2 NA (.lst (es.filter (eQ H2 t)))=Nn at Nm⊢;have OC:Nn NA=some (.lst (es.filter (eQ H2 t))):=by rw[<- OL];exact KE
    refine⟨_,O,s,O,NA,_,O,TW.of OC,λNk NR=>?_⟩;rw[x3 _ Nq.1];have NV:Tl Nn (T0 Nn Nk (.lst ((es.filter (eQ H2 t)).take s.toNat))):=Tl.new NR;generalize OM:T0 Nn Nk (.lst ((es.filter (eQ H2 t)).take s.toNat))=Nl at NV⊢;have NM:Nl Nk=some (.lst ((es.filter (eQ H2 t)).take s.toNat)):=by rw[<- OM];exact KE
    have pl:Paired (λv e=>TupAt Nl v (aS e)) ((es.filter (eQ H2 t)).take s.toNat) ((ib N x t).take s.toNat):=by
     have O_:Paired (λv e=>TupAt H2 v (aS e)) es (N.af.getD x []):=aj (λ_ _ q=>q.same D) NU;have p2:Paired (λv e=>TupAt H2 v (aS e)) (es.filter (eQ H2 t)) (ib N x t):=sD (λv Y ⟨ta,OA,OB⟩=>by subst OA;simp only[eQ,jH,OB,aS]) O_;exact aj (λ_ _ q=>(q.same Nm).same NV) (zq _ p2)
    generalize PD:(es.filter (eQ H2 t)).take s.toNat=vs at NM pl⊢;generalize Nr:(ib N x t).take s.toNat=Np at pl;have ON:∀Y,Y∈Np->Y.2.1<N.runs.length:=λY Oa=>by
     rw[<- Nr]at Oa;have:=nA Oa;unfold ib at this;exact hz.lT x Y (by rw[hn];exact NQ) (fJ.mp this).1
    have Pu:Np.length<=4096:=by rw[<- Nr,aK];omega
    have O4:vs.length=Np.length:=Paired.length pl;have Oe:Tl H2 Nl:=Nm.tr NV;have N9:Nl b=some (.lst []):=Oe _ _ N8;have lo:N.aU.length=N.runs.length:=by rw[Nu.aU,Nu.runs];simp[ln,AT]
    have NN:Tl H1 Nl:=D.tr Oe;have Og:Nk∉[b]:=λz=>by rw[ss.mp z,Nm _ _ N8]at NR;cases NR
    refine⟨Nk,O,⟨_,TW.of NM⟩,?_⟩;refine gv (K:=K) (a:=Nk) (xs:=vs) (λi ZB C=>∃N0 N1 N2 NW NX NY NZ bs,ZB=[some (.ref A.x),some (Sc x),some (Sc e),some (.int t),some (.int s),some (.ref n),some (.ref b),N0,N1,N2,NW,NX,NY,NZ,none]/\C b=some (.lst bs)/\Paired (λv r=>TupAt (hide [b] C) v (r.map XV.int)) bs ((Np.take i).map (fb N))/\Ev [b] Nl C)
     ⟨none,none,none,none,none,none,none,[],O,N9,.nil,Ev.rfl' _ _⟩ (λi ZB C _ ⟨_,_,_,_,_,_,_,_,_,_,_,L⟩=>TW.of (L _ _ NM Og)) ?_ ?_
    ·rintro i v ZB C hi ⟨N0,N1,N2,NW,NX,NY,NZ,bs,rfl,Nv,Ny,L⟩;obtain⟨⟨g,Nj,Ox⟩,NH,ta,rfl,Nw⟩:=dP pl hi;have Py:=(ay.mp NH).1;have up1:∀ {NC:B}{u:HO},H1 NC=some u->C NC=some u:=λq=>L _ _ (NN _ _ q) (by simpa using v0 q NI);have OX:=L _ _ Nw (λz=>by rw[ss.mp z,N9]at Nw;cases Nw);have Ob:Nj<N.runs.length:=ON _ (pi NH);obtain⟨PM,OZ,O9,rfl,OS⟩:=cF OE (bN (show Nj<N.aU.length by omega) (0,0));obtain⟨PN,O0,sa,Pf,⟨Pa,rfl,OV⟩,OW,Px⟩:=cF OG (bN Ob ([],[]));have PH:bs.length=i:=by rw[Paired.length Ny,FS,aK];omega
     refine⟨ta,_,O,pm.of OX,O,_,_,O,_,_,O,_,_,O,O,?_⟩;refine⟨_,O,n,CN,NL,_,_,O,up1 h1,X.aN,X.oK,O,_,O,o,_,_,_,O,O,TW.of (up1 OJ),lw OZ,O9,_,O,pm.of (up1 OS),O,_,_,O,_,_,O,O,?_⟩;refine⟨_,O,n,CN,NL,_,_,O,up1 h1,X.aN,X.iq,O,_,O,r,_,_,_,O,O,TW.of (up1 OF),lw O0,Pa,_,O,pm.of (up1 OV),O,_,_,O,_,_,O,O,?_⟩;have pos:=hz.pos Nj Ob;have OR:((N.runs.getD Nj ([],[])).1.map Sc)[((N.runs.getD Nj ([],[])).1.map Sc).length-1]?=some (Sc (N.stop Nj (N.len Nj-1))):=by
      rw[FS];exact kB (by unfold Nt.len at pos;omega)
     refine⟨_,O,.inl ⟨O,_,TW.of Nv⟩,_,O,_,O,_,O,_,O,1,O,sa,_,_,_,O,O,TW.of (up1 OW),nW OR,by show 4<=Is;decide,λNz NS=>?_⟩;have NK:b≠Nz:=v0 Nv NS;refine⟨b,bs,_,O,O,(Uf NK).trans Nv,small (by omega),?_⟩;have OQ:Tl (hide [b] C) (hide [b] (T0 (T0 C Nz (.tup ((fb N (g,Nj,Ox)).map XV.int))) b (.lst (bs++[XV.ref Nz])))):=oL (by simp) NS;refine⟨_,_,_,_,_,_,_,bs++[XV.ref Nz],O,KE,?_,?_⟩
     ·rw[ck,NH,cz,bA];refine Paired.snoc (aj (λ_ _ q=>q.same OQ) Ny) ⟨Nz,O,wv.mpr ⟨by simpa using Ne.symm NK,?_⟩⟩;rw[Uf (Ne.symm NK),KE];rfl
     ·exact(L.new NS).put (by simp)
    ·rintro ZB C ⟨N0,N1,N2,NW,NX,NY,NZ,bs,rfl,Nv,Ny,L⟩;rw[O4,de]at Ny;refine⟨_,O,_,O,b,s,bs,_,O,Nv,aj (λ_ _ q=>q.same (bW _ _)) Ny,Nq.2,λPK OU=>?_,λN3 p Pc Nx OT=>?_⟩
     ·obtain⟨z,_,rfl⟩:=m0.mp OU;show 4<=9;decide
     have Of:Tl H1 N3:=λNC u q=>Pc _ _ (L _ _ (NN _ _ q) (by simpa using v0 q NI));have Pb:Tl H1 C:=λNC u q=>L _ _ (NN _ _ q) (by simpa using v0 q NI);refine k N3 p ((N7.same Of).more (by omega)) (N5.tr (Of.but []) λb NG=>by simp at NG) ?_ ?_
     ·exact gk N5 (Pb.free Nx) λb NG=>N7.there (by simp only[ss]at NG;rw[NG];simp[PA.own])
     ·rw[OT];have eq:fY s (Np.map (fb N))=bm (EQ J (.board x e t s)).1:=by
       simp only[EQ,hw,cU,aF,d2];rw[ci];unfold fY bm;rw[No (by rw[FS,<-Nr,aK];omega),Ps (by simp only;omega)];rw[<- mM,Nr,FS,FS,<-Nr,aK,Nat.min_comm]
      rw[eq]
theorem ul.there {CS CN:B}{H:Hp}{A:SA}{N:Nt}{S:SS}(h:ul CS CN H A N S) {b:B}(a:b∈A.own):∃o,H b=some o/\∀l,o≠HO.tup l:=by(
simp only[SA.own,s1,hR,gI]at a;rcases a with rfl|rfl|rfl|rfl|rfl|rfl|rfl|rfl
·exact⟨_,h.ob,λ_ z=>by cases z⟩
·exact⟨_,h.arr,λ_ z=>by cases z⟩
·exact⟨_,h.rides,λ_ z=>by cases z⟩
·exact⟨_,h.ab,λ_ z=>by cases z⟩
·exact⟨_,h.ready,λ_ z=>by cases z⟩
·exact⟨_,h.ah,λ_ z=>by cases z⟩
·exact⟨_,h.aa,λ_ z=>by cases z⟩
·obtain⟨es,e,_⟩:=h.ae;exact⟨_,e,λ_ z=>by cases z⟩)
theorem ul.tup {CS CN:B}{H V:Hp}{A:SA}{N:Nt}{S:SS}(h:ul CS CN H A N S) (c:Ev A.own H V) {v:XV}{l:List XV}(t:TupAt H v l):TupAt V v l:=by
 obtain⟨a,e,q⟩:=t;refine⟨a,e,c a _ q λz=>?_⟩;obtain⟨o,b,d⟩:=h.there z;rw[q]at b;cases b;exact d _ rfl
theorem ul.same {CS CN:B}{H V:Hp}{A:SA}{N:Nt}{S:SS}(h:ul CS CN H A N S) (s:Tl H V):ul CS CN V A N S:=by(
have d:Tl (hide A.own H) (hide A.own V):=λb o e=>by
 obtain⟨a,c⟩:=wv.mp e;exact wv.mpr ⟨a,s _ _ c⟩
obtain⟨es,a,c⟩:=h.ae;exact⟨s _ _ h.ob,s _ _ h.arr,s _ _ h.rides,s _ _ h.ab,s _ _ h.ready,s _ _ h.ah,s _ _ h.aa,⟨es,s _ _ a,aj (λ_ _ q=>q.same d) c⟩,h.nd,h.ar.same d⟩)
theorem ul.put {CS CN:B}{H:Hp}{A:SA}{N:Nt}{S:SS}(h:ul CS CN H A N S) {b:B}(p:b∉A.own) {o o':HO}(m:H b=some o) (r:∀l,o≠HO.tup l) (hn:gt CN (hide (b::A.own) H) A.n N):ul CS CN (T0 H b o') A N S:=by(
have ne:∀ {c:B},c∈A.own->c≠b:=λf z=>p (by rw[<- z];exact f);have at_:∀ {c:B}{u:HO},c∈A.own->H c=some u->(T0 H b o') c=some u:=λf e=>by rw[Uf (ne f)];exact e
obtain⟨es,j,k⟩:=h.ae;refine⟨at_ (by simp[SA.own]) h.ob,at_ (by simp[SA.own]) h.arr,at_ (by simp[SA.own]) h.rides,at_ (by simp[SA.own]) h.ab,at_ (by simp[SA.own]) h.ready,at_ (by simp[SA.own]) h.ah,at_ (by simp[SA.own]) h.aa,⟨es,at_ (by simp[SA.own]) j,aj (λv e q=>?_) k⟩,h.nd,hn.same λc u e=>?_⟩
·obtain⟨a,d,g⟩:=q;obtain⟨s,i⟩:=wv.mp g;refine⟨a,d,wv.mpr ⟨s,?_⟩⟩;rw[Uf (λz=>by rw[z,m]at i;cases i;exact r _ rfl)];exact i
·obtain⟨d,g⟩:=wv.mp e;exact wv.mpr ⟨λz=>d (on _ z),by rw[Uf (λz=>d (by rw[z];exact lc ..))];exact g⟩)
def h6:List Int->Option b0
 |[a,b,d,t,m]=>some (.front a b d t m)
 |_=>none
theorem kT:pc ["plan","start","goal","day","minute","most","search","rows","arrival","rides"] ["plan","start","goal","day","minute","most"] (sB tM):=nl rfl rfl rfl (by decide +kernel)
theorem pH (p:Int) (k:Nat) (v:Int) (l:List Int):f3 p k (v::l)=if v<p then [((k:Nat):Int),v]::f3 v (k+1) l else f3 p (k+1) l:=rfl
theorem Iv {f Oc:B}{fd Od:sc}(F:sn K "front" "front" tM f fd) (T:bM K mg CP) (U:ej mg) (X:a' K mg CS CN) (O7:mg "Search"=some (.ref CS)) (TD:Mk K CS Oc) (Oz:Db P w K mg base AC 1 Oc Od ["self","network"] (iz CS CN)) (OD:Binds K Od ["self","network"] [])
  (OJ:Gf P w K mg base 2 "can_ask" ["plan","start","goal","day","minute"] (ht CP CN)) (OM:Gf P w K mg base 1 "is_most" ["most"] jD) (OK:Gm P w K mg base 4 CP "forward" ["self","day"] (fu CP CN gW))
  (OI:Gm P w K mg base 4 CS "begin" ["self","start","minute"] (mI CS CN)) (ON:Gm P w K mg base 4 CS "take_ride" ["self"] (mJ CS CN)) (OL:Gf P w K mg base 1 "counted" ["rows","most"] jC):Db P w K mg base AC 7 f fd ["plan","start","goal","day","minute","most"] (cx CP CN h6 5):=by
 obtain⟨Pc,Pj,Ox,OB,O4,OX⟩:=OJ;obtain⟨Pf,Pm,GM,OF,O6,OZ⟩:=OM;obtain⟨Pd,Pk,Oy,OC,O2⟩:=OK;obtain⟨Pb,Ph,Ow,bB,O1⟩:=OI;obtain⟨Pg,Pn,GT,OH,O3⟩:=ON;obtain⟨Pe,Pl,OA,OE,O5,OY⟩:=OL;refine F.ok kT (λvs H Q E h=>?_) (λPa O_ outer s0 H vs Q E hr h=>?_)
 ·obtain⟨A,Y,m,l,c,rfl,NH,_⟩:=h;simp[NH]
 ·obtain⟨A,Y,m,l,c,rfl,NH,Nv,NR,hT,hm,k⟩:=h;obtain⟨a,b,d,t,D,rfl⟩:∃a b d t D,l=[a,b,d,t,D]:=by match l,NH with|[a,b,d,t,D],_=>exact⟨a,b,d,t,D,O⟩
  cases Nv;refine⟨_,On (kt (PW.pt (eb (bI (cg (ii Ox (hr.mono) rfl O4 OX OB .nil wE (WF (I 0) (WF (I 1) (WF (I 2) (WF (I 3) (WF (I 4) PP)))))))) (gA (bI (cg (ii GM (hr.mono) rfl O6 OZ OF .nil wE (WF (I 5) PP))))))) (FM (tz (f2 (WF (nm T.c2 rfl) PP)))) io)
   (On (tt (i:=6) kT.nd rfl (IN rfl) (hk TD Oz (hr.mono) rfl O7 OD .nil wE (WF (an (I 0) T.cl O2 Oy (hr.mono) OC .nil wE (WF (I 3) PP)) PP)))
   (On (dL (an (I 6) X.aq O1 Ow (hr.mono) bB .nil wE (WF (I 1) (WF (I 4) PP))))
   (On (tt (i:=7) kT.nd rfl (IN rfl) (f2 PP))
   (On (tt (i:=8) kT.nd rfl (IN rfl) (nm U.nv rfl))
   (On (cw bD rfl (mr rfl T.range (WF (kw bu (nm U.m8 rfl) Fa) PP)) (v4 (i:=9) kT.nd rfl (IN rfl))
    (On (kt (he ml (I 9) Fa (lm _)) (FM (dL (kH (I 6) X.aq O3 GT (hr.mono) OH .nil wE))) io)
    (FM (kt (he dO (Ch wT (zn (I 6) rfl) (I 2) (λ_ _=>rfl)) (I 8) (lm _))
     (On (tt (i:=8) kT.nd rfl (IN rfl) (Ch wT (zn (I 6) rfl) (I 2) (λ_ _=>rfl)))
     (FM (dL (cv b8 cV cW cP (I 7) (WF (bP (WF (I 9) (WF (I 8) PP))) PP))))) io))))
   (FM (tz (ii OA (hr.mono) rfl O5 OY OE .nil wE (WF (I 7) (WF (I 5) PP)))))))))),?_⟩
  have N_:(bS Y a b d t&&u8 D 0 4096)=false->∀p,H p=none->Q (.ref p) (T0 H p (.lst [XV.int (-2)])):=λe p NM=>by
   have NY:EQ Y (.front a b d t D)=(bC (-2),Y):=by simp only[EQ,e,aX]
   rw[NY]at k;exact k _ p ((NR.same (Tl.new NM)).more (by omega)) ((Tl.new NM).but _) NM KE
  refine⟨_,O,_,O,_,O,_,O,_,O,A,Y,m,a,b,d,t,O,NR,_,O,?_⟩;rw[jt];cases NO:bS Y a b d t with
  |false=>exact ww (ww ⟨by show 1<=Is;decide,N_ (by rw[NO];rfl)⟩)
  |true=>
   refine v6 ⟨_,O,D,O,_,O,?_⟩;cases NZ:(decide (0<=D)&&decide (D<=4096))with
   |false=>exact ww ⟨by show 1<=Is;decide,N_ (by rw[NO,show u8 D 0 4096=false from NZ];rfl)⟩
   |true=>
    have hw:(bS Y a b d t&&u8 D 0 4096)=true:=by rw[NO,show u8 D 0 4096=true from NZ];rfl
    obtain⟨x,y,e,rfl,rfl,rfl,Oj,Ol,OU,Pq,Pr⟩:=ja NO;refine v6 ⟨_,O,A.x,A.dx,_,O,NR.ob,O,_,O,A,Y,m,e,O,NR,hT,OU,by omega,λH1 v Og hv Oe Po=>?_⟩;obtain⟨n,N,rfl,OT,N1⟩:=hv;have hz:=jk hT e N1;obtain⟨ok,same,hn⟩:=dq hT.bd N1;have ci:=FH hT.bd N1 Oj Ol (t:=t) (by unfold Gc;omega);have N4:x<N.n:=by rw[hn];exact Oj
    refine λsx dx a1 a2 a3=>y2 OT hz a1 a2 a3 λH2 S ex Oh O9 Ob=>⟨O,?_⟩;subst ex;refine⟨_,O,S.x,S.dx,_,O,Oh.ob,O,_,O,_,O,S,N,_,x,t,O,Oh,e8 hz,N4,λNk ND OS=>?_⟩;have Of:pp N (b9 N x t):=((e8 hz).au N4 t t).bx N4 t;have O8:=kc O9 OS Ob;have N7:Tl H1 (hide S.own Nk):=λc u q=>wv.mpr ⟨(λz=>by rw[Ob c z]at q;cases q),O8 _ _ q⟩
    replace ND:ul CS CN Nk S N (b9 N x t):=ND
    generalize b9 N x t=UV at ND Of ci;have N2:=ND.ar;have N8:Tl (hide S.own Nk) Nk:=bW _ _;have Oo:∀c,c∈S.own->(hide S.own Nk) c=none:=λc Nv=>by
     cases q:(hide S.own Nk) c with
     |none=>rfl
     |some u=>exact absurd Nv (wv.mp q).1
    generalize hide S.own Nk=G at N7 N2 N8 Oo;refine⟨g1 _,λb N5=>?_⟩;have Ot:Tl Nk (T0 Nk b (.lst [])):=Tl.new N5;have OG:b∉S.own:=λz=>by obtain⟨o,q,_⟩:=ND.there z;rw[N5]at q;cases q
    have NV:G b=none:=N8.free N5;generalize N3:(s5 9).map (λk=>(aW N UV k).arr.getD y 0)=Nx at ci;refine⟨_,_,O,O,_,O,by decide,by decide,?_⟩;refine kl (lo:=0) (n:=9) (λi ZB Nl=>∃(g:SA) (bs:List XV) (R:List (List Int)) (p:Int) (N9:Option XV),ZB=[some (.ref A.x),some (Sc x),some (Sc y),some (Sc e),some (.int t),some (.int D),some (.ref S.x),some (.ref b),some (.int p),N9]/\g.x=S.x/\g.n=S.n/\ul CS CN Nl g N (aW N UV (i-1))/\Nl b=some (.lst bs)/\b∉g.own/\(∀c,c∈g.own->G c=none)/\Paired (λv r=>TupAt Nl v (r.map XV.int)) bs R/\Tl G Nl/\f3 Gc 0 Nx=R++f3 p i (Nx.drop i)/\R.length<=i/\∀r,r∈R->r.length<=9)
     ⟨S,[],[],Gc,none,O,O,O,ND.same Ot,KE,OG,Oo,.nil,N8.tr Ot,O,t1 _,λr hr=>by simp at hr⟩ ?_ ?_
    ·rintro i ZB Nl hi ⟨g,bs,R,p,N9,rfl,ex,en,NF,NG,NN,NW,NX,NK,eq,O0,NI⟩;have OO:(0:Int)+((i:Nat):Int)=((i:Nat):Int):=by omega
     show bG 9 (XV.int ((0:Int)+((i:Nat):Int))) _ _ _;rw[OO];have Oi:i<9:=hi;have Ou:∀j,pp N (aW N UV j):=λj=>by rw[<- iv];exact fm Of j
     have NU:y<(aW N UV i).arr.length:=by rw[(Ou i).arr,hn];exact Ol
     have NQ:Nx.drop i=(aW N UV i).arr.getD y 0::Nx.drop (i+1):=by
      have NH:i<Nx.length:=by rw[<- N3,FS,fH];exact Oi
      rw[w6 NH]
      congr 1
      have:Nx[i]?=some ((aW N UV i).arr.getD y 0):=by rw[<- N3,pr,f' Oi];rfl
      rw[im NH]at this;exact bT this
     refine⟨_,O,_,_,O,O,_,O,?_⟩;rcases Nat.eq_zero_or_pos i with OV|Pp
     ·have C:ul CS CN Nl g N (aW N UV i):=by rw[OV]at NF ⊢;exact NF
      rw[sw (by omega)];refine v6 ?_;obtain⟨s,L,Nj,Nu,J,Nr,Nw,Nm,Np,OQ,Oa⟩:∃(s:SA) (L:Hp),s.x=S.x/\s.n=S.n/\L b=some (.lst bs)/\b∉s.own/\(∀c,c∈s.own->G c=none)/\Paired (λv r=>TupAt L v (r.map XV.int)) bs R/\Tl G L/\s=g/\L=Nl:=⟨g,Nl,ex,en,NG,NN,NW,NX,NK,O,O⟩;rw[<- OQ,<-Oa]at C;rw[<- Oa];refine⟨_,O,S.x,CS,s.dx,_,_,O,by rw[<- Nj];exact C.ob,X.aq,X.dv,O,_,O,s.a1,_,_,_,O,O,TW.of C.arr,lw (int_at NU),_,O,_,_,O,O,_,O,?_⟩;by_cases c:(aW N UV i).arr.getD y 0<p
      ·rw[s2 c];refine ww ⟨_,O,S.x,CS,s.dx,_,_,O,by rw[<- Nj];exact C.ob,X.aq,X.dv,O,_,O,s.a1,_,_,_,O,O,TW.of C.arr,lw (int_at NU),?_⟩;refine⟨_,O,.inl ⟨O,_,TW.of J⟩,_,O,_,O,by show 2<=Is;decide,λNq Nz=>?_⟩;have Ny:b≠Nq:=v0 J Nz;refine⟨b,bs,_,O,O,(Uf Ny).trans J,small (by rw[Paired.length Nm];omega),?_⟩;have NC:Tl L (T0 L Nq (.tup [Sc i,XV.int ((aW N UV i).arr.getD y 0)])):=Tl.new Nz;refine⟨s,bs++[XV.ref Nq],R++[[(i:Int),(aW N UV i).arr.getD y 0]],_,_,O,Nj,Nu,(C.same NC).put Nr ((Uf Ny).trans J) (λ_ z=>by cases z) ?_,KE,Nr,Nw,?_,λNL u q=>?_,by rw[eq,NQ,pH,No c,dd];rfl,by rw[lv,bz];omega,λr hr=>?_⟩
       ·rw[Nu];refine N2.same λNL u q=>wv.mpr ⟨λz=>?_,NC _ _ (Np _ _ q)⟩;rcases s1.mp z with z|z
        ·rw[z,NV]at q;cases q
        ·rw[Nw NL z]at q;cases q
       ·refine Paired.snoc (aj (λv r ⟨a,N6,Nn⟩=>⟨a,N6,?_⟩) Nm) ⟨Nq,O,by rw[Uf (Ne.symm Ny),KE];rfl⟩;rw[Uf (λz=>by rw[z,J]at Nn;cases Nn),Uf (v0 Nn Nz)];exact Nn
       ·rw[Uf (λz=>by rw[z,NV]at q;cases q)];exact NC _ _ (Np _ _ q)
       ·rcases f1.mp hr with hr|hr
        ·exact NI r hr
        ·rw[ss.mp hr];show 2<=9;decide
      ·rw[sw c];exact v6 ⟨s,bs,R,p,_,O,Nj,Nu,C,J,Nr,Nw,Nm,Np,by rw[eq,NQ,pH,Ps c],by omega,NI⟩
     ·rw[s2 (by omega)];refine ww ⟨_,O,S.x,g.dx,_,O,by rw[<- ex];exact NF.ob,O,g,N,_,by rw[ex];rfl,NF,Ou _,λL NA Om C N0=>?_⟩;have OR:cj N (aW N UV (i-1))=aW N UV i:=by
       obtain⟨j,rfl⟩:∃j,i=j+1:=⟨i-1,by omega⟩;rfl
      rw[OR]at C;have Ov:∀c,c∈({g with a7:=NA}:SA).own->c∈g.own\/c=NA:=λc Nv=>by
       simp only[SA.own,s1,hR,gI]at Nv⊢;rcases Nv with h|h|h|h|h|h|h|h<;>simp[h]
      have J:=N0 _ _ NG NN;have Np:=kc NK N0 NW;have Nm:=aj (λv r q=>NF.tup N0 q) NX;have Nr:b∉({g with a7:=NA}:SA).own:=λz=>by
       rcases Ov _ z with z|z
       ·exact NN z
       ·rw[z,Om]at NG;cases NG
      have Nw:∀c,c∈({g with a7:=NA}:SA).own->G c=none:=λc Nv=>by
       rcases Ov _ Nv with z|z
       ·exact NW c z
       ·rw[z];exact NK.free Om
      have Nj:({g with a7:=NA}:SA).x=S.x:=ex;have Nu:({g with a7:=NA}:SA).n=S.n:=en;generalize ({g with a7:=NA}:SA)=s at C Nr Nw Nj Nu;refine⟨_,O,S.x,CS,s.dx,_,_,O,by rw[<- Nj];exact C.ob,X.aq,X.dv,O,_,O,s.a1,_,_,_,O,O,TW.of C.arr,lw (int_at NU),_,O,_,_,O,O,_,O,?_⟩;by_cases c:(aW N UV i).arr.getD y 0<p
      ·rw[s2 c];refine ww ⟨_,O,S.x,CS,s.dx,_,_,O,by rw[<- Nj];exact C.ob,X.aq,X.dv,O,_,O,s.a1,_,_,_,O,O,TW.of C.arr,lw (int_at NU),?_⟩;refine⟨_,O,.inl ⟨O,_,TW.of J⟩,_,O,_,O,by show 2<=Is;decide,λNq Nz=>?_⟩;have Ny:b≠Nq:=v0 J Nz;refine⟨b,bs,_,O,O,(Uf Ny).trans J,small (by rw[Paired.length Nm];omega),?_⟩;have NC:Tl L (T0 L Nq (.tup [Sc i,XV.int ((aW N UV i).arr.getD y 0)])):=Tl.new Nz;refine⟨s,bs++[XV.ref Nq],R++[[(i:Int),(aW N UV i).arr.getD y 0]],_,_,O,Nj,Nu,(C.same NC).put Nr ((Uf Ny).trans J) (λ_ z=>by cases z) ?_,KE,Nr,Nw,?_,λNL u q=>?_,by rw[eq,NQ,pH,No c,dd];rfl,by rw[lv,bz];omega,λr hr=>?_⟩
       ·rw[Nu];refine N2.same λNL u q=>wv.mpr ⟨λz=>?_,NC _ _ (Np _ _ q)⟩;rcases s1.mp z with z|z
        ·rw[z,NV]at q;cases q
        ·rw[Nw NL z]at q;cases q
       ·refine Paired.snoc (aj (λv r ⟨a,N6,Nn⟩=>⟨a,N6,?_⟩) Nm) ⟨Nq,O,by rw[Uf (Ne.symm Ny),KE];rfl⟩;rw[Uf (λz=>by rw[z,J]at Nn;cases Nn),Uf (v0 Nn Nz)];exact Nn
       ·rw[Uf (λz=>by rw[z,NV]at q;cases q)];exact NC _ _ (Np _ _ q)
       ·rcases f1.mp hr with hr|hr
        ·exact NI r hr
        ·rw[ss.mp hr];show 2<=9;decide
      ·rw[sw c];exact v6 ⟨s,bs,R,p,_,O,Nj,Nu,C,J,Nr,Nw,Nm,Np,by rw[eq,NQ,pH,Ps c],by omega,NI⟩
    ·rintro ZB Nl ⟨g,bs,R,p,N9,rfl,ex,en,NF,NG,NN,NW,NX,NK,eq,O0,NI⟩;have OP:f3 Gc 0 Nx=R:=by
      rw[eq];have:Nx.drop 9=[]:=vg (by rw[<- N3,FS,fH];exact t1 _);rw[this];simp[f3]
     refine⟨_,O,_,O,b,D,bs,R,O,NG,NX,oy NZ,NI,λL Nm Np NM OW=>?_⟩;have Oq:=(N7.tr NK).tr Np;refine k L Nm ((Og.same Oq).more (by omega)) (Oe.tr (Oq.but []) λb NS=>by simp at NS) ?_ ?_
     ·exact gk Oe ((N7.tr NK).free NM) λb NS=>Og.there (by simp only[ss]at NS;rw[NS];simp[PA.own])
     ·rw[OW,zS];have NY:EQ Y (.front x y e t D)=(la D R,Y):=by
       simp only[EQ,hw,cU,aF,d2];rw[ci,OP]
      rw[NY]
abbrev ui:v1:=nb 30
abbrev t4:v1:=nb 31
abbrev tH:v1:=nb 32
def nK (s:Nat):wS:=it (s:Int)
theorem sj {s t:Nat}(h:nK s=nK t):s=t:=by unfold nK at h;injection h with h;omega
structure FD (n a:Nat) (W:List (Nat×Int)) (UF:List (wS×XV)):Prop where
 val:∀s:Nat,∃o,ev (λf=>(s=a/\f=0)\/(s,f)∈W) o/\jp UF (nK s)=o.map XV.int
 keys:∃ks:List Nat,ks.Nodup/\(∀s,s∈ks->s<n)/\UF.map (·.1)=ks.map nK
theorem FD.start {n a:Nat}(h:a<n):FD n a [] [(nK a,XV.int 0)]:=by(
refine⟨λs=>?_,[a],by simp,λs c=>by rw[ss.mp c];exact h,O⟩;by_cases e:s=a
·subst e;exact⟨some 0,⟨.inl ⟨O,O⟩,λy b=>by rcases b with⟨_,rfl⟩|b<;>simp at *⟩,fx rfl⟩
·refine⟨none,λy b=>?_,?_⟩
 ·rcases b with⟨z,_⟩|b
  ·exact e z
  ·simp at b
 ·rw[fw (λz=>e (sj z).symm)];rfl)
theorem JQ {UF:List (wS×XV)}{k:wS}{v:XV}:(ax UF k v).map (·.1)=if(jp UF k).isSome=true then UF.map (·.1)else UF.map (·.1)++[k]:=by(
unfold ax;rw[jI];by_cases c:(jp UF k).isSome=true
·rw[No c,No c,be];refine ei λx _=>?_;show(if x.1=k then(x.1,v)else x).1=x.1;split<;>rfl
·rw[Ps c,Ps c,bA];rfl)
theorem FD.step {n a:Nat}{W:List (Nat×Int)}{UF:List (wS×XV)}(h:FD n a W UF) {g:Nat}{m z:Int}(hg:g<n) (hz:(jp UF (nK g)).getD (XV.int m)=XV.int z):FD n a (W++[(g,m)]) (ax UF (nK g) (XV.int (if z<m then z else m))):=by(
obtain⟨ks,l,p,k⟩:=h.keys;refine⟨λs=>?_,?_⟩
·obtain⟨o,h1,h2⟩:=h.val s;rw[jJ];by_cases e:s=g
 ·subst e;rw[No rfl];rw[h2]at hz;refine⟨some (if z<m then z else m),?_,O⟩;cases o with
  |none=>
   have j:m=z:=by injection hz
   subst j;have:(if m<m then m else m)=m:=by split<;>rfl
   rw[this];refine⟨.inr (by simp),λy b=>?_⟩;rcases b with b|b
   ·exact absurd (.inl b) (h1 y)
   ·rcases f1.mp b with b|b
    ·exact absurd (.inr b) (h1 y)
    ·simp only[ss,nk,true_and]at b;omega
  |some f=>
   have j:f=z:=by injection hz
   subst j;obtain⟨i,t⟩:=h1;constructor
   ·split
    ·rcases i with i|i
     ·exact .inl i
     ·exact .inr (f_ _ i)
    ·exact .inr (by simp)
   ·intro y b;have:y=m\/f<=y:=by
     rcases b with b|b
     ·exact .inr (t y (.inl b))
     ·rcases f1.mp b with b|b
      ·exact .inr (t y (.inr b))
      ·simp only[ss,nk,true_and]at b;exact .inl b
    split<;>omega
 ·rw[Ps (λq=>e (sj q))];refine⟨o,h1.congr λx=>?_,h2⟩;rw[f1,ss,nk];constructor
  ·rintro(q|q)
   ·exact .inl q
   ·exact .inr (.inl q)
  ·rintro(q|q|q)
   ·exact .inl q
   ·exact .inr q
   ·exact absurd q.1 e
·rw[JQ];by_cases c:(jp UF (nK g)).isSome=true
 ·rw[No c];exact⟨ks,l,p,k⟩
 ·rw[Ps c];have hn:jp UF (nK g)=none:=by simpa using c
  have r:=AM hn;rw[k]at r;refine⟨ks++[g],?_,λs d=>?_,by rw[k,bA];rfl⟩
  ·rw[hQ];refine⟨l,by simp,λx u y b=>?_⟩;rw[ss.mp b];intro z;exact r (by rw[<- z];exact lz u)
  ·rcases f1.mp d with d|d
   ·exact p s d
   ·rw[ss.mp d];exact hg)
theorem FD.len {n a:Nat}{W:List (Nat×Int)}{UF:List (wS×XV)}(h:FD n a W UF):UF.length<=n:=by(
obtain⟨ks,c,d,e⟩:=h.keys;have:UF.length=ks.length:=by have:=cB cm e;simpa using this
rw[this];have:=(c.sublist (List.Sublist.refl ks));have b:ks ⊆ s5 n:=λs b=>bJ.mpr (d s b);have:=Di c b;rw[fH]at this;exact this)
def uK (CN:B):Sp:=λvs H Q _=>∃(n:B) (N:Nt) (a:Nat),vs=[.ref n,Sc a]/\gt CN H n N/\cX N/\a<N.n/\
 ∀(V:Hp) (p:B) (UF:List (wS×XV)),Tl H V->H p=none->V p=some (.dK UF)->FD N.n a (N.ft a) UF->Q (.ref p) V
theorem mD:pc ["network","start","on_foot","goal","minutes","number"] ["network","start"] (sB t4):=nl rfl rfl rfl (by decide +kernel)
theorem IL {f:B}{fd:sc}(F:sn K "minutes_on_foot" "minutes_on_foot" t4 f fd) (U:ej mg) (X:a' K mg CS CN):Db P w K mg base AC 1 f fd ["network","start"] (uK CN):=by(
refine F.ok mD (λvs H Q E h=>?_) (λNr Nq outer s0 H vs Q E hr h=>?_)
·obtain⟨n,N,a,rfl,_⟩:=h;rfl
·obtain⟨n,N,a,rfl,Nj,hz,d,k⟩:=h;have hu:=hc hr;refine⟨_,On (tt (i:=2) mD.nd rfl (IN rfl) (Js (JF (I 1) Fa JG) rfl rfl (by simp) (by decide)))
  (On (cw bD rfl (cf (Ch wT (zn (I 0) rfl) (I 1) (λ_ _=>rfl))) (cb rfl (re (v4 (i:=3) mD.nd rfl (IN rfl)) (re (v4 (i:=4) mD.nd rfl (IN rfl)) (re (v4 (i:=5) mD.nd rfl (IN rfl)) cc))))
   (FM (mv hu (I 2) (I 3) (aV (xS rfl) (by rfl) U.min wA (WF (I 4) (WF (sG hu (I 2) (I 3) (I 4) ⟨O,O,O,O⟩) PP))) rfl)))
  (FM (tz (I 2)))),?_⟩
 obtain⟨D,c,r,o,Nu,L,ND,os,ds,fs,h1,h2,Nw,Nx,Ny,Nz,T,Y,NA,Nv⟩:=Nj.ex;refine λp A=>⟨_,O,KE,[(nK a,XV.int 0)],O,(by show 1<=15;decide),?_⟩;rw[gF];have J:kz [] [(nK a,XV.int 0)]=[(nK a,XV.int 0)]:=rfl;rw[J];have sp:∀UF,Tl H (T0 H p (.dK UF)):=λUF=>Tl.new A;have xd:a<N.foot.length:=by rw[hz.foot];exact d
 obtain⟨vd,Nl,es,⟨s,rfl,t⟩,C⟩:=cF Y (bN xd []);refine⟨_,O,n,CN,D,_,_,O,sp _ _ _ h1,X.aN,X.mc,O,_,O,L,_,_,_,O,O,TW.of (sp _ _ _ T),lw Nl,s,O,⟨_,TW.of (sp _ _ _ t)⟩,?_⟩;have Nm:es.length=(N.foot.getD a []).length:=Paired.length C;refine gv (K:=K) (a:=s) (xs:=es) (λi ZB H2=>∃j l m UF,ZB=[some (.ref n),some (Sc a),some (.ref p),j,l,m]/\H2=T0 H p (.dK UF)/\FD N.n a (((N.foot.getD a []).take i).map λw=>(w.1,w.2.1)) UF)
  ⟨none,none,none,_,O,O,FD.start d⟩ (λi ZB H2 _ ⟨_,_,_,_,_,e,_⟩=>by rw[e];exact TW.of (sp _ _ _ t)) ?_ ?_
 ·rintro i v ZB H2 hi ⟨j,l,m,UF,rfl,rfl,b⟩;obtain⟨⟨g,mi,q⟩,u,ta,rfl,Nk⟩:=dP C hi;refine⟨ta,_,O,pm.of (sp _ _ _ Nk),O,_,_,O,_,_,O,_,_,O,O,?_⟩;have hg:g<N.n:=hz.kk a g mi d (by unfold Nt.ft;exact m0.mpr ⟨_,pi u,O⟩);obtain⟨Nn,NC,Np⟩:=b.val g;obtain⟨z,y⟩:∃z,(jp UF (nK g)).getD (XV.int mi)=XV.int z:=by
   rw[Np];cases Nn with
   |none=>exact⟨mi,O⟩
   |some x=>exact⟨x,O⟩
  refine⟨_,O,_,O,p,O,.inl ⟨_,.inl KE⟩,_,O,_,O,_,cC.k (k:=nK g) KE,?_⟩;rw[y];refine⟨_,_,O,_,O,_,O,p,_,O,fL.k (k:=nK g) KE (small (by have:=b.len;have:=hz.small.1;omega)),?_⟩;rw[gF];refine⟨_,_,_,_,O,O,?_⟩;rw[ck,u,cz,bA];exact b.step hg y
 ·rintro ZB H2 ⟨j,l,m,UF,rfl,rfl,b⟩;rw[Nm,de]at b;exact⟨_,O,k _ p UF (sp _) A KE b⟩)
def lS (e:s3):List Int:=[e.1,(e.2.1:Int),(e.2.2:Int)]
def eo:List Int->s3
 |[a,b,c]=>(a,b.toNat,c.toNat)
 |_=>(0,0,0)
theorem EK (e:s3):eo (lS e)=e:=by simp[eo,lS]
theorem EI (e:s3):(lS e).map XV.int=aS e:=rfl
def gY (H:Hp) (t:NP):Prop:=H t.a=some (.tup [.int t.k,.ref t.b])/\H t.b=some (.tup (t.d.map XV.int))/\∃e,t.d=lS e
theorem gY.same {H V:Hp}{t:NP}(s:Tl H V) (h:gY H t):gY V t:=⟨s _ _ h.1,s _ _ h.2.1,h.2.2⟩
def js (t:NP):Int×s3:=(t.k,eo t.d)
def fv (UF:List (wS×XV)) (s:Nat):Int:=match jp UF (nK s)with
 |some (.int f)=>f
 |_=>0
def eO (N:Nt) (UF:List (wS×XV)) (s:Nat) (l:List s3):List (Int×s3):=l.map λe=>(e.1-fv UF s,e)
def b_ (N:Nt) (UF:List (wS×XV)) (ks:List Nat):List (Int×s3):=ks.flatMap λs=>eO N UF s (N.af.getD s [])
theorem Aq (g:Nat->Nat):∀(ks m:List Nat),ks.Nodup->(∀s,s∈ks->s∈m)->(ks.map g).sum<=(m.map g).sum
 |[],_,_,_=>g1 _
 |x::ks,m,h,a=>by
  have c:=List.perm_cons_erase (a x (lc ..));have e:=(c.map g).sum_nat;rw[hS]at h;have:=Aq g ks (m.erase x) h.2 λs b=>(List.mem_erase_of_ne (λz=>h.1 (by rw[<- z];exact b))).mpr (a s (on _ b));rw[e,na,na,dH,dH];omega
theorem HS {n:Nat}{ks:List Nat}(h1:ks.Nodup) (h2:∀s,s∈ks->s<n) (g:Nat->Nat):(ks.map g).sum<=((s5 n).map g).sum:=Aq g ks _ h1 λs a=>bJ.mpr (h2 s a)
theorem yf {N:Nt}(hz:cX N) {UF:List (wS×XV)}{ks:List Nat}(h1:ks.Nodup) (h2:∀s,s∈ks->s<N.n):(b_ N UF ks).length<=300000:=by(
unfold b_;rw[vi];have e:(ks.map λs=>(eO N UF s (N.af.getD s [])).length)=ks.map λs=>(N.af.getD s []).length:=ei λs _=>by unfold eO;rw[FS]
rw[e];have q:=HS h1 h2 λs=>(N.af.getD s []).length;have a:=yu N.af;rw[hz.af]at a;rw[<- a]at q;have:=hz.small.2.1;omega)
def uA (CN:B):Sp:=λvs H Q _=>∃(n d:B) (N:Nt) (a:Nat) (W:List (Nat×Int)) (UF:List (wS×XV)),vs=[.ref n,.ref d]/\gt CN H n N/\cX N/\H d=some (.dK UF)/\FD N.n a W UF/\
 ∀(V:Hp) (p:B) (ts:List NP) (ks:List Nat),Tl H V->H p=none->V p=some (.lst (ts.map λt=>XV.ref t.a))->(∀t,t∈ts->gY V t)->(ts.map js).Perm (b_ N UF ks)->ts.Pairwise (λx y=>x.k<=y.k)->ks.Nodup->(∀s,s∈ks->s<N.n)->UF.map (·.1)=ks.map nK->Q (.ref p) V
theorem pe:pc ["network","on_foot","boardings","stop","departure"] ["network","on_foot"] (sB tH):=nl rfl rfl rfl (by decide +kernel)
theorem FD.u7 {n a:Nat}{W:List (Nat×Int)}{UF:List (wS×XV)}(h:FD n a W UF) {s:Nat}(b:nK s∈UF.map (·.1)):jp UF (nK s)=some (XV.int (fv UF s)):=by(
obtain⟨o,h1,h2⟩:=h.val s;unfold fv;rw[h2];cases o with
|some x=>rfl
|none=>exact absurd b (AM h2))
theorem Io {f:B}{fd:sc}(F:sn K "first_boardings" "first_boardings" tH f fd) (U:ej mg) (X:a' K mg CS CN):Db P w K mg base AC 1 f fd ["network","on_foot"] (uA CN):=by
 refine F.ok pe (λvs H Q E h=>?_) (λOo Om outer s0 H vs Q E hr h=>?_)
 ·obtain⟨n,d,N,a,W,UF,rfl,_⟩:=h;rfl
 ·obtain⟨n,d,N,a,W,UF,rfl,N7,hz,hd,NO,k⟩:=h;have hu:=hc hr;refine⟨_,On (tt (i:=2) pe.nd rfl (IN rfl) (f2 PP))
   (On (sL (cw bD rfl (zx (I 1)) (v4 (i:=3) pe.nd rfl (IN rfl))
    (FM (cw bD rfl (cf (Ch wT (zn (I 0) rfl) (I 3) (λ_ _=>rfl))) (v4 (i:=4) pe.nd rfl (IN rfl))
     (FM (dL (cv b8 cV cW cP (I 2) (WF (bP (WF (kw gy (Ch gw (I 4) Fa (λ_ _=>rfl)) (sF hu (I 1) (I 3) (λ_ _=>rfl))) (WF (I 4) PP))) PP))))))))
   (FM (tz (aV (Ez hr.units) (by rfl) U.sorted CY (WF (I 2) PP))))),?_⟩
  obtain⟨N0,c,r,o,NZ,Ou,OD,os,ds,fs,h1,h2,Ow,Ox,N5,N6,Oy,Oz,OA,Ov⟩:=N7.ex;obtain⟨ks,NR,ND,Nq⟩:=NO.keys;have Oh:UF.length=ks.length:=by have:=cB cm Nq;simpa using this
  refine⟨g1 _,λb NF=>?_⟩;have Nw:d≠b:=v0 hd NF;have N9:(T0 H b (.lst [])) d=some (.dK UF):=(Uf Nw).trans hd;refine⟨d,_,N9,True.intro,λNr=>?_⟩;refine⟨_,O,d,Nr,O,.inl ⟨_,KE,?_⟩⟩;have Oi:∀ {x:B}{u:HO},H x=some u->(∀l,u≠.dK l)->x≠d:=λe m z=>by rw[z,hd]at e;exact m _ (bT e).symm
  have Og:∀i j,(b_ N UF (ks.take i)++eO N UF (ks.getD i 0) ((N.af.getD (ks.getD i 0) []).take j)).length<=300000\/ks.length<=i:=λi j=>by
   by_cases hi:i<ks.length
   ·left;have Oq:=yf hz (UF:=UF) NR ND;have N1:b_ N UF (ks.take (i+1))=b_ N UF (ks.take i)++eO N UF (ks.getD i 0) (N.af.getD (ks.getD i 0) []):=by
     unfold b_;rw[ck,bN hi 0,cz,nC];simp
    have N2:(b_ N UF (ks.take (i+1))).length<=(b_ N UF ks).length:=by
     have:b_ N UF ks=b_ N UF (ks.take (i+1))++b_ N UF (ks.drop (i+1)):=by unfold b_;rw[<- nC,Be]
     rw[this,lv];omega
    rw[N1,lv]at N2;have Ot:(eO N UF (ks.getD i 0) ((N.af.getD (ks.getD i 0) []).take j)).length<=(eO N UF (ks.getD i 0) (N.af.getD (ks.getD i 0) [])).length:=by
     unfold eO;rw[FS,FS,aK];omega
    rw[lv];omega
   ·right;omega
  refine yq (λi ZB H2=>∃NL Y ts,ZB=[some (.ref n),some (.ref d),some (.ref b),NL,Y]/\H2 d=some (.av Nr (.dK UF))/\H2 b=some (.lst (ts.map λt:NP=>XV.ref t.a))/\(∀t,t∈ts->gY H2 t)/\ts.map js=b_ N UF (ks.take i)/\Ev [d] H H2)
   ⟨none,none,[],O,KE,(Uf (Ne.symm Nw)).trans KE,λt g=>by simp at g,O,((Ev.rfl' _ _).new NF).put (by simp)⟩ (λi ZB H2 _ ⟨_,_,_,_,q,_⟩=>q) ?_ ?_
  ·rintro i NS v ZB H2 hi ⟨NL,Y,ts,rfl,Nj,Nx,Nz,Nn,C⟩;obtain⟨s,Nk,N3⟩:∃s,ks[i]?=some s/\NS=nK s:=by
    have:(UF.map (·.1))[i]?=some NS:=by rw[pr,hi];rfl
    rw[Nq,pr]at this;cases q:ks[i]? with
    |none=>rw[q]at this;cases this
    |some st=>rw[q]at this;cases this;exact⟨st,O,O⟩
   subst N3;have OB:=(ay.mp Nk).1;have N4:ks.getD i 0=s:=by rw[nw,Nk];rfl
   have Oa:s<N.n:=ND s (pi Nk);have xd:s<N.af.length:=by rw[hz.af];exact Oa
   obtain⟨vd,Od,es,⟨NN,rfl,NQ⟩,NV⟩:=cF N6 (bN xd []);have Nm:∀ {Nv:Hp},Ev [d] H Nv->∀ {x:B}{u:HO},H x=some u->(∀l,u≠.dK l)->Nv x=some u:=λ{Nv} NY {x u} e m=>NY _ _ e (by simpa using Oi e m);refine⟨_,O,n,CN,N0,_,_,O,Nm C h1 (λ_ z=>by cases z),X.aN,X.hj,O,_,O,NZ,_,_,_,O,O,TW.of (Nm C N5 (λ_ z=>by cases z)),lw Od,NN,O,⟨_,TW.of (Nm C NQ (λ_ z=>by cases z))⟩,?_⟩;have Of:es.length=(N.af.getD s []).length:=Paired.length NV;refine gv (K:=K) (a:=NN) (xs:=es) (λj ZB y=>∃Y ts,ZB=[some (.ref n),some (.ref d),some (.ref b),some (Sc s),Y]/\y d=some (.av Nr (.dK UF))/\y b=some (.lst (ts.map λt:NP=>XV.ref t.a))/\(∀t,t∈ts->gY y t)/\ts.map js=b_ N UF (ks.take i)++eO N UF s ((N.af.getD s []).take j)/\Ev [d] H y)
    ⟨Y,ts,O,Nj,Nx,Nz,by rw[Nn];simp[eO],C⟩ (λj ZB y _ ⟨_,_,_,_,_,_,_,D⟩=>TW.of (Nm D NQ (λ_ z=>by cases z))) ?_ ?_
   ·rintro j v ZB y N_ ⟨Ol,Nu,rfl,J,A,NC,Np,D⟩;obtain⟨e,Oe,ta,rfl,Ob⟩:=dP NV N_;have Ny:=Nm D Ob (λ_ z=>by cases z);have Oc:=NO.u7 (s:=s) (by rw[Nq];exact lz (pi Nk));have OC:Nu.length<=300000:=by
     have:=cB cm Np;rw[FS]at this;rcases Og i j with q|q
     ·rw[N4]at q;omega
     ·omega
    refine⟨_,O,.inl ⟨O,_,TW.of A⟩,_,O,ta,_,_,_,O,O,pm.of Ny,O,_,O,_,O,d,_,O,.inl ⟨UF,nK s,.inr ⟨Nr,J⟩,O,Oc.symm⟩,_,_,O,O,_,O,by show 2<=Is;decide,λNK NU=>?_⟩;have NM:b≠NK:=v0 A NU;have Nl:Tl y (T0 y NK (.tup [XV.int (e.1-fv UF s),XV.ref ta])):=Tl.new NU;refine⟨b,_,_,O,O,(Uf NM).trans A,small (by rw[FS];omega),?_⟩;refine⟨_,Nu++[⟨NK,e.1-fv UF s,ta,lS e⟩],O,?_,?_,λt g=>?_,?_,λx u q N8=>?_⟩
    ·rw[Uf (λz=>by rw[z,A]at J;cases J)];exact Nl _ _ J
    ·rw[KE,bA];rfl
    ·have NG:∀ {x:B}{l:List XV},y x=some (.tup l)->x≠b:=λq z=>by rw[z,A]at q;cases q
     rcases f1.mp g with g|g
     ·obtain⟨L,T,NI⟩:=NC t g;exact⟨by rw[Uf (NG L)];exact Nl _ _ L,by rw[Uf (NG T)];exact Nl _ _ T,NI⟩
     ·rw[ss.mp g];exact⟨by rw[Uf (Ne.symm NM)];exact KE,by rw[Uf (NG Ny)];exact Nl _ _ Ny,e,O⟩
    ·rw[bA,Np,ck,Oe,cz,dd]
     congr 1
     unfold eO;rw[bA];rfl
    ·rw[Uf (v0 q NF)];exact Nl _ _ (D _ _ q N8)
   ·rintro ZB y ⟨Ol,Nu,rfl,J,A,NC,Np,D⟩;refine⟨_,_,Nu,O,J,A,NC,?_,D⟩;rw[Np,Of,de];unfold b_;rw[ck,Nk,cz,nC];simp
  ·rintro ZB H2 ⟨NL,Y,ts,rfl,Nj,Nx,Nz,Nn,C⟩;rw[Oh,de]at Nn;refine⟨Nj,?_⟩;have bd:b≠d:=Ne.symm Nw;have NX:Tl H (T0 H2 d (.dK UF)):=λx u q=>by
    by_cases z:x=d
    ·rw[z]at q ⊢;rw[hd]at q;rw[KE];exact q
    ·rw[Uf z];exact C _ _ q (by simpa using z)
   have NA:∀t,t∈ts->gY (T0 H2 d (.dK UF)) t:=λt g=>by
    obtain⟨L,T,NI⟩:=Nz t g;exact⟨by rw[Uf (λz=>by rw[z,Nj]at L;cases L)];exact L,by rw[Uf (λz=>by rw[z,Nj]at T;cases T)];exact T,NI⟩
   refine⟨_,O,b,ts,O,TW.of ((Uf bd).trans Nx),λt g=>⟨pm.of (NA t g).1,pm.of (NA t g).2.1⟩,λus p NW Oj NH=>?_⟩;refine k _ p us ks (NX.tr (Tl.new NH)) (NX.free NH) KE (λt g=>(NA t (NW.mem_iff.mp g)).same (Tl.new NH)) ?_ Oj NR ND Nq;rw[<- Nn];exact NW.map js
theorem ul.JL {CS CN:B}{H:Hp}{A:SA}{N:Nt}{S:SS}(h:ul CS CN H A N S) {es:List XV}(d:H A.a7=some (.lst es)) {v:XV}{e:s3}(t:TupAt (hide A.own H) v (aS e)):ul CS CN (T0 H A.a7 (.lst (es++[v]))) A N {S with ae:=S.ae++[e]}:=by(
have c:hide A.own (T0 H A.a7 (.lst (es++[v])))=hide A.own H:=fe (by simp[SA.own]);have n:=gz h.nd;obtain⟨b,a,f⟩:=h.ae;have:b=es:=by rw[d]at a;cases a;rfl
subst this;have k:∀(i:Nat) (hi:i<8),i≠7->∀ {o:HO},H (A.own[i]'hi)=some o->(T0 H A.a7 (.lst (b++[v]))) (A.own[i]'hi)=some o:=λi hi ne o q=>(Uf (n i 7 hi (by decide) ne)).trans q;exact⟨k 0 (by decide) (by decide) h.ob,k 1 (by decide) (by decide) h.arr,k 2 (by decide) (by decide) h.rides,k 3 (by decide) (by decide) h.ab,k 4 (by decide) (by decide) h.ready,k 5 (by decide) (by decide) h.ah,k 6 (by decide) (by decide) h.aa,⟨_,KE,by rw[c];exact Paired.snoc f t⟩,h.nd,by rw[c];exact h.ar⟩)
theorem y3 {CS CN:B}{H:Hp}{a:VK}{n:B}{N:Nt}(g:gt CN H n N) (i:cX N) {x dx:B}(nx:H x=none) (l:H dx=none) (ne:dx≠x) (k:∀(V:Hp) (A:SA),A.x=x->A.n=n->ul CS CN V A N (gl N)->Tl H V->(∀b,b∈A.own->H b=none)->a .ak V):
  iz CS CN [.ref x,.ref n] (T0 (T0 H dx (.own x)) x (.ins CS dx [])) a E0:=by(
have s0:Tl H (T0 (T0 H dx (.own x)) x (.ins CS dx [])):=λb o e=>by
 rw[Uf (v0 e nx),Uf (v0 e l)];exact e
have m:Tl H (hide [x] (T0 (T0 H dx (.own x)) x (.ins CS dx []))):=λb o e=>wv.mpr ⟨by simp only[ss];exact v0 e nx,s0 b o e⟩;refine⟨x,dx,n,N,O,KE,g.same m,i,λV A ex en h f hf=>?_⟩;refine k V A ex en h (λb o e=>f b o (s0 b o e) (by simp only[ss];exact v0 e nx)) λb j=>?_;rcases hf b j with rfl|q
·exact nx
·have c:b≠x:=λz=>by rw[z,KE]at q;cases q
 have d:b≠dx:=λz=>by rw[z,Uf ne,KE]at q;cases q
 rwa [Uf c,Uf d]at q)
def Bp (ps:List NP) (r i:Nat):Prop:=∃t,t∈ps/\∃g,eo t.d=(g,r,i)
section
variable {N:Nt}{goes:Nat->Nat->Int}{a:Nat}{UF:List (wS×XV)}{ks:List Nat}{ts:List NP}
theorem AH (b:FD N.n a (N.ft a) UF) (q:∀s,s∈ks->s<N.n) (u:UF.map (·.1)=ks.map nK) (ok:bp N goes) (x:(ts.map js).Perm (b_ N UF ks)) {t:NP}(p:t∈ts):∃r i f,eo t.d=(goes r i,r,i)/\r<N.runs.length/\i+1<N.len r/\t.k=goes r i-f/\((N.stop r i=a/\f=0)\/(N.stop r i,f)∈N.ft a):=by(
have:js t∈b_ N UF ks:=x.mem_iff.mp (lz p);unfold b_ eO at this;obtain⟨s,c,hm⟩:=e3.mp this;obtain⟨⟨g,r,i⟩,m,e⟩:=m0.mp hm;obtain⟨y,z,A,C⟩:=(ok.af s (q s c) g r i).mp m;have hv:=b.u7 (s:=s) (by rw[u];exact lz c);obtain⟨o,h1,h2⟩:=b.val s;rw[hv]at h2;cases o with
|none=>cases h2
|some f=>
 have l:fv UF s=f:=by injection h2 with h2;injection h2
 injection e with h j;subst C;refine⟨r,i,f,j.symm,y,z,by rw[<- l];exact h.symm,?_⟩;rw[A];exact h1.1)
theorem Ei (j:FD N.n a (N.ft a) UF) (y:∀s,s∈ks->s<N.n) (z:UF.map (·.1)=ks.map nK) (ok:bp N goes) (A:(ts.map js).Perm (b_ N UF ks)) {al p:List NP}(e:ts=al++p) {m:Int}(h1:∀t,t∈p->m<=t.k) (h2:∀t,t∈al->t.k<m):Bp p=lD N goes a m:=by(
funext r i;apply propext;constructor
·rintro⟨t,b,g,hg⟩;obtain⟨Nk,Nj,f,d,q,h,L,Q⟩:=AH j y z ok A (t:=t) (by rw[e];exact fE _ b);rw[hg]at d;injection d with Nl u;injection u with u T;subst u T;exact⟨q,h,f,Q,by have:=h1 t b;omega⟩
·rintro⟨d,q,f,h,L⟩;obtain⟨o,C,D⟩:=j.val (N.stop r i);cases o with
 |none=>exact absurd h (C f)
 |some x=>
  have l:nK (N.stop r i)∈UF.map (·.1):=LS D;have c:N.stop r i∈ks:=by
   rw[z]at l;obtain⟨s,c,es⟩:=m0.mp l;rw[<- sj es];exact c
  have hv:=j.u7 l;rw[D]at hv;have H:fv UF (N.stop r i)=x:=by injection hv with hv;injection hv with hv;exact hv.symm
  have hm:(goes r i-x,goes r i,r,i)∈b_ N UF ks:=by
   unfold b_ eO;refine e3.mpr ⟨_,c,m0.mpr ⟨(goes r i,r,i),(ok.af _ (y _ c) _ _ _).mpr ⟨d,q,O,O⟩,?_⟩⟩;rw[H]
  obtain⟨t,b,J⟩:=m0.mp (A.mem_iff.mpr hm);injection J with U E;have Y:=C.2 f h;rw[e]at b;rcases f1.mp b with b|b
  ·have:=h2 t b;omega
  ·exact⟨t,b,_,E⟩)
theorem zB {UV:Nat->Nat->Prop}(ok:bp N goes) {S:SS}(h:eK N goes UV S):∀k,eK N goes UV (aI N S k)
 |0=>h
 |k+1=>(zB ok h k).ride ok
theorem zP {S:SS}(h:pp N S):∀k,(aI N S k).ae.length+(aI N S k).ah.sum<=S.ae.length+S.ah.sum
 |0=>t1 _
 |k+1=>by
  have h1:=(u0 (fm h k)).2;have h2:=zP h k;show(cj N (aI N S k)).ae.length+(cj N (aI N S k)).ah.sum<=_;omega
end
def rowsOf (v:Int) (xs:List Int):List (List Int):=(s5 (xs.length-1)).filterMap λj=>if xs.getD (j+1) 0<xs.getD j 0 then some [v-(j:Int),xs.getD (j+1) 0]else none
theorem jl {l:List Int}{x:Int}{j:Nat}:(l++[x]).getD j 0=if j<l.length then l.getD j 0 else if j=l.length then x else 0:=by(
rw[nw,List.getElem?_append];by_cases c:j<l.length
·rw[No c,No c,nw]
·rw[Ps c,Ps c];by_cases c2:j=l.length
 ·rw[No c2,c2];simp
 ·rw[Ps c2,hP (by simp;omega)];rfl)
theorem Km {v:Int}{xs:List Int}{x:Int}(h:0<xs.length):rowsOf v (xs++[x])=rowsOf v xs++(if x<xs.getD (xs.length-1) 0 then [[v-((xs.length-1:Nat):Int),x]]else []):=by(
unfold rowsOf;rw[lv,bz,wh];obtain⟨n,hn⟩:∃n,xs.length=n+1:=⟨xs.length-1,by omega⟩;rw[hn,wh,vq,List.filterMap_append]
congr 1
·refine kh λj d=>?_;rw[bJ]at d;have a:(xs++[x]).getD (j+1) 0=xs.getD (j+1) 0:=by rw[jl,No (by omega)]
 have b:(xs++[x]).getD j 0=xs.getD j 0:=by rw[jl,No (by omega)]
 rw[a,b]
·simp only[gP,List.filterMap_nil];have a:(xs++[x]).getD (n+1) 0=x:=by rw[jl,Ps (by omega),No (by omega)]
 have b:(xs++[x]).getD n 0=xs.getD n 0:=by rw[jl,No (by omega)]
 rw[a,b];by_cases c:x<xs.getD n 0
 ·rw[No c,No c]
 ·rw[Ps c,Ps c])
theorem Kl {u v:Int}{xs:List Int}(d:(xs.length:Int)=v-u+2) (e:u<=v):(rowsOf v xs).reverse=(s5 (v-u+1).toNat).filterMap λ(i:Nat)=>if xs.getD (v+1-(u+(i:Int))).toNat 0<xs.getD (v+1-(u+(i:Int)+1)).toNat 0 then some [u+(i:Int),xs.getD (v+1-(u+(i:Int))).toNat 0]else none:=by(
unfold rowsOf;rw[Fs];have en:xs.length-1=(v-u+1).toNat:=by omega
rw[en];refine kh λi hi=>?_;rw[bJ]at hi;have a:(v-u+1).toNat-1-i+1=(v+1-(u+(i:Int))).toNat:=by omega
have b:(v-u+1).toNat-1-i=(v+1-(u+(i:Int)+1)).toNat:=by omega
have c:v-(((v-u+1).toNat-1-i:Nat):Int)=u+(i:Int):=by omega
rw[a,c];rw[b])
def uQ (CN:B):Sp:=λvs H Q _=>∃(n:B) (N:Nt) (goes:Nat->Nat->Int) (a b:Nat) (u v:Int),vs=[.ref n,Sc a,Sc b,.int u,.int v]/\gt CN H n N/\cX N/\bp N goes/\a<N.n/\b<N.n/\0<=u/\u<=v/\v<2880/\
 ∀(V:Hp) (p:B) (c:List XV) (L:List (List Int)) (E:Int->Int),Tl H V->H p=none->V p=some (.lst c)->Paired (λv r=>TupAt V v (r.map XV.int)) c L->(∀m,u<=m->m<=v+1->mo (λx=>∃n w,NJ N goes a m n w b x) (E m))->
  L=((s5 (v-u+1).toNat).filterMap λ(i:Nat)=>if E (u+(i:Int))<E (u+(i:Int)+1)then some [u+(i:Int),E (u+(i:Int))]else none)->Q (.ref p) V
theorem hq:pc ["network","start","goal","first","last","on_foot","boardings","search","found","arrival_after","minute","arrival"] ["network","start","goal","first","last"] (sB ui):=nl rfl rfl rfl (by decide +kernel)
theorem K8 {X G:Prop}(h:X->G) (x:X):G:=h x
theorem zp {a b:Type}{R:a->b->Prop}:∀ {xs:List a}{ys:List b},Paired R xs ys->Paired R xs.reverse ys.reverse
 |_,_,.nil=>.nil
 |_,_,.cons r t=>by rw[p3,p3];exact Paired.snoc (zp t) r
theorem Ag {a:Type}{l:List a}(h:l≠[]):∃m x,l=m++[x]:=⟨l.dropLast,l.getLast h,(List.dropLast_concat_getLast h).symm⟩
structure Wd (CS CN:B) (N:Nt) (G:Hp) (sx nn bl fl:B) (H:Hp) (S:SA) (st:SS) (al:List NP) (fs:List XV):Prop where
 ex:S.x=sx
 en:S.n=nn
 at_:ul CS CN H S N st
 ok:pp N st
 bO:H bl=some (.lst (al.map λt=>XV.ref t.a))
 eR:H fl=some (.lst fs)
 fh:bl∉S.own
 fi:fl∉S.own
 own:∀c,c∈S.own->G c=none
 same:Tl G H
 dj:st.ae.length+st.ah.sum+al.length<=600000
section
variable {CS CN:B}{N:Nt}{G:Hp}{sx nn bl fl:B}{H:Hp}{S:SA}{st:SS}{al:List NP}{fs:List XV}
theorem Wd.push {t:NP}(h:Wd CS CN N G sx nn bl fl H S st (al++[t]) fs) (p:gt CN G nn N) (k:G bl=none) (ne:fl≠bl) (tk:gY G t) (hr:(eo t.d).2.1<N.runs.length) {es:List XV}(m:H S.a7=some (.lst es)):
  Wd CS CN N G sx nn bl fl (T0 (T0 H bl (.lst (al.map λt=>XV.ref t.a))) S.a7 (.lst (es++[XV.ref t.b]))) S {st with ae:=st.ae++[eo t.d]} al fs:=by(
have a7:S.a7∈S.own:=by simp[SA.own]
have i:bl≠S.a7:=λz=>h.fh (by rw[z];exact a7);have hn:gt CN (hide (bl::S.own) H) S.n N:=by
 rw[h.en];refine p.same λc u q=>wv.mpr ⟨λz=>?_,h.same _ _ q⟩;rcases s1.mp z with z|z
 ·rw[z,k]at q;cases q
 ·rw[h.own c z]at q;cases q
have r:=h.at_.put (o':=.lst (al.map λt=>XV.ref t.a)) h.fh h.bO (λ_ z=>by cases z) hn;obtain⟨e,j⟩:=tk.2.2;have tb:G t.b=some (.tup (aS e)):=by rw[<- EI,<-j];exact tk.2.1
have o:eo t.d=e:=by rw[j,EK]
have g:∀ {c:B}{u:HO},G c=some u->c≠bl/\c∉S.own:=λ{c u} q=>⟨(λz=>by rw[z,k]at q;cases q),(λz=>by rw[h.own c z]at q;cases q)⟩;have s:=r.JL ((Uf (Ne.symm i)).trans m) (v:=XV.ref t.b) (e:=eo t.d) ⟨t.b,O,by rw[o];exact wv.mpr ⟨(g tb).2,(Uf (g tb).1).trans (h.same _ _ tb)⟩⟩;have hf:=h.dj;refine⟨h.ex,h.en,s,{h.ok with ic:=λl f=>?_,dj:=?_},(Uf i).trans KE,?_,h.fh,h.fi,h.own,λc u q=>?_,?_⟩
·rcases f1.mp f with f|f
 ·exact h.ok.ic l f
 ·rw[ss.mp f];exact hr
·show(st.ae++[eo t.d]).length+st.ah.sum<=1000000;rw[lv,bz];rw[lv,bz]at hf;omega
·rw[Uf (λz=>h.fi (by rw[z];exact a7)),Uf ne];exact h.eR
·rw[Uf (λz=>(g q).2 (by rw[z];exact a7)),Uf (g q).1];exact h.same _ _ q
·show(st.ae++[eo t.d]).length+st.ah.sum+al.length<=600000;rw[lv,bz];rw[lv,bz]at hf;omega)
theorem Wd.lists (h:Wd CS CN N G sx nn bl fl H S st al fs) {x y:HO}{v:XV}{l:List XV}(t:TupAt H v l):TupAt (T0 (T0 H bl x) S.a7 y) v l:=by
 obtain⟨a,e,q⟩:=t;obtain⟨es,b,_⟩:=h.at_.ae;refine⟨a,e,?_⟩;rw[Uf (λz=>by rw[z,b]at q;cases q),Uf (λz=>by rw[z,h.bO]at q;cases q)];exact q
theorem Wd.found (h:Wd CS CN N G sx nn bl fl H S st al fs) (b:gt CN G nn N) (nf:G fl=none) (ne:fl≠bl) {p:B}(d:H p=none) {l:List XV}:Wd CS CN N G sx nn bl fl (T0 (T0 H p (.tup l)) fl (.lst (fs++[XV.ref p]))) S st al (fs++[XV.ref p]):=by(
have a:Tl H (T0 H p (.tup l)):=Tl.new d;have hn:gt CN (hide (fl::S.own) (T0 H p (.tup l))) S.n N:=by
 rw[h.en];refine b.same λc u q=>wv.mpr ⟨λz=>?_,a _ _ (h.same _ _ q)⟩;rcases s1.mp z with z|z
 ·rw[z,nf]at q;cases q
 ·rw[h.own c z]at q;cases q
refine⟨h.ex,h.en,(h.at_.same a).put h.fi (a _ _ h.eR) (λ_ z=>by cases z) hn,h.ok,by rw[Uf (Ne.symm ne)];exact a _ _ h.bO,KE,h.fh,h.fi,h.own,λc u q=>?_,h.dj⟩;rw[Uf (λz=>by rw[z,nf]at q;cases q)];exact a _ _ (h.same _ _ q))
end
theorem I2 {f Of:B}{fd Og:sc}(F:sn K "worthwhile" "worthwhile" ui f fd) (U:ej mg) (X:a' K mg CS CN) (Pm:mg "Search"=some (.ref CS)) (TD:Mk K CS Of) (OH:Db P w K mg base AC 1 Of Og ["self","network"] (iz CS CN)) (ON:Binds K Og ["self","network"] [])
  (OU:Gf P w K mg base 1 "minutes_on_foot" ["network","start"] (uK CN)) (OS:Gf P w K mg base 1 "first_boardings" ["network","on_foot"] (uA CN)) (OT:Gm P w K mg base 5 CS "ride_to_the_end" ["self"] (pF CS CN)):Db P w K mg base AC 6 f fd ["network","start","goal","first","last"] (uQ CN):=by
 obtain⟨PF,PK,OI,OO,Pn,Pf⟩:=OU;obtain⟨PB,PH,OG,bB,Pl,Pe⟩:=OS;obtain⟨PD,PJ,GE,OM,Pk⟩:=OT;refine F.ok hq (λvs H Q E h=>?_) (λPw Pu outer s0 H vs Q E hr h=>?_)
 ·obtain⟨n,N,goes,a,b,u,v,rfl,_⟩:=h;rfl
 ·obtain⟨n,N,goes,a,b,u,v,rfl,Oi,hz,ok,Om,Oo,PU,Pc,hv,k⟩:=h;have hu:=hc hr;refine⟨_,On (tt (i:=5) hq.nd rfl (IN rfl) (ii OI (hr.mono) rfl Pn Pf OO .nil wE (WF (I 0) (WF (I 1) PP))))
   (On (tt (i:=6) hq.nd rfl (IN rfl) (ii OG (hr.mono) rfl Pl Pe bB .nil wE (WF (I 0) (WF (I 5) PP))))
   (On (tt (i:=7) hq.nd rfl (IN rfl) (hk TD OH (hr.mono) rfl Pm ON .nil wE (WF (I 0) PP)))
   (On (tt (i:=8) hq.nd rfl (IN rfl) (f2 PP))
   (On (tt (i:=9) hq.nd rfl (IN rfl) (nm U.nv rfl))
   (On (cw bD rfl (JB rfl X.range (WF (kw bu (I 4) Fa) (WF (kw gy (I 3) Fa) (WF (et ey Fa) PP)))) (v4 (i:=10) hq.nd rfl (IN rfl))
    (On (kK bD (PW.pt (mx (he ml (aV bV (by rfl) X.len bR (WF (I 6) PP)) Fa (lm _)) (my (he kC (Ch gw (Ch wT (I 6) (et ey Fa) (λ_ _=>rfl)) Fa (λ_ _=>rfl)) (I 10) (lm _)))))
     (FM (dL (cv b8 cV cW cP (zn (I 7) rfl) (WF (Ch gw (kG b8 MM MN Hv (I 6)) Fa (λ_ _=>rfl)) PP)))))
    (On (dL (kH (I 7) X.aq Pk GE hr OM .nil wE))
    (On (tt (i:=11) hq.nd rfl (IN rfl) (aV (xS rfl) (by rfl) U.min wA (WF (Ch wT (zn (I 7) rfl) (I 2) (λ_ _=>rfl)) (WF (kw bu (I 10) (sG hu (I 5) (I 2) (nm U.nv rfl) ⟨O,O,O,O⟩)) PP))))
    (On (kt (PW.pt (mx (he b' (I 10) (I 4) (lm _)) (my (he dO (I 11) (I 9) (lm _)))))
     (FM (dL (cv b8 cV cW cP (I 8) (WF (bP (WF (I 10) (WF (I 11) PP))) PP)))) io)
    (FM (tt (i:=9) hq.nd rfl (IN rfl) (I 11))))))))
   (On (dL (kG b8 MF MG Hw (I 8)))
   (FM (tz (I 8))))))))),?_⟩
  refine⟨_,O,_,O,n,N,a,O,Oi,hz,Om,λH1 dp UF N5 PY Ot NA=>?_⟩;have NL:=Oi.same N5;refine⟨_,O,_,O,n,dp,N,a,N.ft a,UF,O,NL,hz,Ot,NA,λH2 bl ts ks OC fh bO Pb N2 OE Pd NU Ov=>?_⟩;have O3:=NL.same OC;refine⟨_,O,λsx dx a1 a2 a3=>y3 O3 hz a1 a2 a3 λNx S ex en Oj OD Oe=>⟨O,?_⟩⟩;subst ex;have PX:ts.length<=300000:=by
   have:=(N2.length_eq).trans rfl;rw[FS]at this;have:=yf hz (UF:=UF) Pd NU;omega
  have Nw:Tl H1 (hide [bl] H2):=λc o q=>wv.mpr ⟨by simpa using v0 q fh,OC _ _ q⟩;have N7:Tl (hide [bl] H2) H2:=bW _ _;have N_:∀t,t∈ts->gY (hide [bl] H2) t:=λt A=>by
   obtain⟨T,Nm,N3⟩:=Pb t A;refine⟨wv.mpr ⟨λz=>?_,T⟩,wv.mpr ⟨λz=>?_,Nm⟩,N3⟩
   ·rw[ss.mp z,bO]at T;cases T
   ·rw[ss.mp z,bO]at Nm;cases Nm
  have Ox:∀c,c∈S.own->(hide [bl] H2) c=none:=λc Nq=>N7.free (Oe c Nq);have Oc:(hide [bl] H2) bl=none:=by
   cases q:(hide [bl] H2) bl with
   |none=>rfl
   |some o=>exact absurd (ss.mpr rfl) (wv.mp q).1
  have N8:Tl (hide [bl] H2) Nx:=N7.tr OD;have Oq:=OD _ _ bO;have OP:bl∉S.own:=λz=>by rw[Oe _ z]at bO;cases bO
  have NQ:gt CN (hide [bl] H2) S.n N:=by rw[en];exact NL.same Nw
  have NO:(hide [bl] H2) dp=some (.dK UF):=Nw _ _ Ot;generalize hide [bl] H2=G at Nw N7 N_ Ox Oc N8 NQ NO;refine⟨g1 _,λfl fi=>?_⟩;have N6:Tl Nx (T0 Nx fl (.lst [])):=Tl.new fi;have O1:fl∉S.own:=λz=>by obtain⟨o,q,_⟩:=Oj.there z;rw[fi]at q;cases q
  have NK:G fl=none:=N8.free fi;have Oh:fl≠bl:=λz=>by rw[z,Oq]at fi;cases fi
  have O4:=Oj.same N6;have OQ:=e8 hz;have OJ:Wd CS CN N G S.x S.n bl fl (T0 Nx fl (.lst [])) S (gl N) ts []:=⟨O,O,O4,OQ,N6 _ _ Oq,KE,OP,O1,Ox,N8.tr N6,by
   have Np:(gl N).ae=[]:=rfl;have Py:(gl N).ah.sum<=300000:=hz.small.2.1;rw[Np,j1];omega⟩
  refine⟨_,O,_,_,O,O,_,O,_,_,O,O,1,O,v+1,u-1,-1,_,O,nP.neg (by omega) (by omega) (by omega) (by omega),?_⟩;have Pq:∀t,t∈ts->(eo t.d).2.1<N.runs.length/\(eo t.d).2.2+1<N.len (eo t.d).2.1:=λt A=>by
   obtain⟨r,i,f,T,Nm,N3,_⟩:=AH NA NU Ov ok N2 A;rw[T];exact⟨Nm,N3⟩
  refine FC (lo:=v+1) (c:= -1) (λi ZB Nr=>∃(L:SA) (st:SS) (al y:List NP) (xs:List Int) (fs:List XV) (Oa NG:Option XV),ZB=[some (.ref n),some (Sc a),some (Sc b),some (.int u),some (.int v),some (.ref dp),some (.ref bl),some (.ref S.x),some (.ref fl),some (.int (if i=0 then Gc else xs.getD (i-1) 0)),Oa,NG]/\xs.length=i/\ts=al++y/\(∀t,t∈y->v+2-(i:Int)<=t.k)/\Wd CS CN N G S.x S.n bl fl Nr L st al fs/\eK N goes (Bp y) st/\Paired (λv r=>TupAt Nr v (r.map XV.int)) fs (rowsOf v xs)/\∀j,j<i->mo (λx=>∃n w,NJ N goes a (v+1-(j:Int)) n w b x) (xs.getD j 0))
   ⟨S,gl N,ts,[],[],[],none,none,O,O,by rw[e4],λt A=>by simp at A,OJ,?_,.nil,λj PN=>by omega⟩ ?_ ?_
  ·have:Bp []=λ_ _=>False:=funext λr=>funext λi=>propext ⟨λ⟨t,A,_⟩=>by simp at A,λz=>z.elim⟩;rw[this];exact Ed ok
  ·rintro i ZB Nr hi ⟨L,st,al,y,xs,fs,Oa,NG,rfl,Nu,C,Nk,Y,N1,Nv,NW⟩;have O_:v+1+((i:Nat):Int)* -1=v+1-(i:Int):=by omega
   show bG 10 (XV.int (v+1+((i:Nat):Int)* -1)) _ _ _;rw[O_];generalize hm:v+1-(i:Int)=mi;generalize NM:rowsOf v xs=R at Nv;generalize O5:(if i=0 then Gc else xs.getD (i-1) 0)=NH;have PM:(i:Int)<v-u+2:=by omega
   refine⟨λm ZB Ny=>∃(st:SS) (al y:List NP),ZB=[some (.ref n),some (Sc a),some (Sc b),some (.int u),some (.int v),some (.ref dp),some (.ref bl),some (.ref S.x),some (.ref fl),some (.int NH),some (.int mi),NG]/\m=al.length/\ts=al++y/\(∀t,t∈y->mi<=t.k)/\Wd CS CN N G S.x S.n bl fl Ny L st al fs/\eK N goes (Bp y) st/\Paired (λv r=>TupAt Ny v (r.map XV.int)) fs R,
    ⟨_,st,al,y,rfl,rfl,C,λt A=>by have:=Nk t A;omega,Y,N1,Nv⟩,?_⟩
   clear Y N1 Nv C Nk st al y;rintro m ZB Ny ⟨st,al,y,rfl,rfl,C,Nk,s,Oy,OB⟩;have NZ:∀t,t∈al->Ny t.a=some (.tup [.int t.k,.ref t.b]):=λt A=>s.same _ _ (N_ t (by rw[C];exact f_ _ A)).1;refine⟨_,O,bl,_,O,.inl (TW.of s.bO),_,_,O,O,_,O,?_⟩;by_cases Nq:∀t,t∈al->t.k<mi
   ·apply K8
    ·intro Ol;by_cases e:al=[]
     ·rw[sw (by rw[e];decide)];exact v6 (v6 Ol)
     ·obtain⟨J,t,rfl⟩:=Ag e;rw[s2 (by rw[FS,lv,bz];omega)];have NC:(((J++[t]).map λt=>XV.ref t.a))[((J++[t]).map λt=>XV.ref t.a).length-1]?=some (XV.ref t.a):=by simp
      refine ww ⟨_,O,1,O,bl,_,_,_,O,O,TW.of s.bO,nW NC,t.a,_,_,_,O,O,pm.of (NZ t (by simp)),O,_,O,_,_,O,O,_,O,?_⟩;rw[sw (by have:=Nq t (by simp);omega)];exact v6 Ol
    ·have OV:Bp y=lD N goes a mi:=Ei NA NU Ov ok N2 C Nk Nq;refine⟨_,O,S.x,L.dx,_,O,by rw[<- s.ex];exact s.at_.ob,O,L,N,st,by rw[s.ex];rfl,s.at_,s.ok,λOb Nn j O0 OY N0 NN O7 Nz=>?_⟩;have D:Wd CS CN N G S.x S.n bl fl Ob Nn (aI N st j) al fs:=by
      refine⟨O0.trans s.ex,OY.trans s.en,NN,fm s.ok j,Nz _ _ s.bO s.fh,Nz _ _ s.eR s.fi,λz=>?_,λz=>?_,λc O8=>?_,λc o q=>Nz _ _ (s.same _ _ q) (λz=>by rw[s.own c z]at q;cases q),by have:=zP s.ok j;have:=s.dj;omega⟩
      ·rcases N0 _ z with z|z
       ·exact s.fh z
       ·rw[s.bO]at z;cases z
      ·rcases N0 _ z with z|z
       ·exact s.fi z
       ·rw[s.eR]at z;cases z
      ·rcases N0 c O8 with z|z
       ·exact s.own c z
       ·exact s.same.free z
     have NF:Paired (λv r=>TupAt Ob v (r.map XV.int)) fs R:=aj (λ_ _ q=>s.at_.tup Nz q) OB;have ND:=zB ok Oy j;have Oz:=ND;rw[OV]at Oz;have OK:=Oz.fin ok (λr i j h1 h2 PL=>by omega) O7 Oo;obtain⟨o,O2,Pr⟩:=NA.val b;have OA:=JH ok Om (t:=mi) (by omega) (by unfold Gc;omega) O2 OK;have Pg:b<(aI N st j).arr.length:=by rw[(fm s.ok j).arr];exact Oo
     refine⟨_,O,S.x,CS,Nn.dx,_,_,O,by rw[<- D.ex];exact NN.ob,X.aq,X.dv,O,_,O,Nn.a1,_,_,_,O,O,TW.of NN.arr,lw (int_at Pg),_,O,_,O,dp,O,.inl ⟨_,.inl (D.same _ _ NO)⟩,_,O,_,cC.k (k:=nK b) (D.same _ _ NO),?_⟩;have OZ:(jp UF (nK b)).getD (XV.int 1000000)=XV.int (o.getD Gc):=by rw[Pr];cases o<;>rfl
     rw[OZ];refine⟨_,_,O,O,_,_,O,?_⟩;have OW:(if mi+o.getD Gc<(aI N st j).arr.getD b 0 then mi+o.getD Gc else(aI N st j).arr.getD b 0)=arrOf ((aI N st j).arr.getD b 0) mi o:=by
      unfold arrOf;split<;>omega
     show bG 11 (XV.int (if mi+o.getD Gc<(aI N st j).arr.getD b 0 then mi+o.getD Gc else(aI N st j).arr.getD b 0)) _ _ _;rw[OW];generalize arrOf ((aI N st j).arr.getD b 0) mi o=x at OA;refine⟨_,O,_,O,_,_,O,O,_,O,?_⟩;have NI:(if i+1=0 then Gc else(xs++[x]).getD (i+1-1) 0)=x:=by
      rw[Ps (by omega),jl,Ps (by omega),No (by omega)]
     have NX:∀Nl,Nl<i+1->mo (λx=>∃n w,NJ N goes a (v+1-(Nl:Int)) n w b x) ((xs++[x]).getD Nl 0):=λNl PQ=>by
      by_cases c:Nl<i
      ·rw[jl,No (by omega)];exact NW Nl c
      ·have:Nl=i:=by omega
       subst this;rw[jl,Ps (by omega),No (by omega),hm];exact OA
     have NR:∀t,t∈y->v+2-((i+1:Nat):Int)<=t.k:=λt A=>by have:=Nk t A;omega
     have NV:(xs++[x]).length=i+1:=by rw[lv,Nu];rfl
     by_cases O9:i=0
     ·rw[sw (by omega)];have Nj:rowsOf v (xs++[x])=R:=by
       have:xs=[]:=A'.mp (by omega);rw[<- NM,this];rfl
      refine v6 (v6 ⟨_,O,Nn,_,al,y,xs++[x],fs,_,_,by rw[NI];rfl,NV,C,NR,D,ND,by rw[Nj];exact NF,NX⟩)
     ·rw[s2 (by omega)];refine ww ⟨_,O,_,O,_,_,O,O,_,O,?_⟩;have O6:NH=xs.getD (xs.length-1) 0:=by rw[<- O5,Ps O9,Nu]
      have Nj:=Km (v:=v) (x:=x) (xs:=xs) (by omega);rw[NM,<-O6,Nu]at Nj;have PV:R.length<=5000:=by
       rw[<- NM];unfold rowsOf;refine dg (A9 ..) ?_;rw[fH];omega
      by_cases c:x<NH
      ·rw[s2 c];rw[No c]at Nj;refine ww ⟨_,O,.inl ⟨O,_,TW.of D.eR⟩,_,O,_,O,by show 2<=Is;decide,λp NY=>?_⟩;have fp:=v0 D.eR NY;refine⟨fl,fs,_,O,O,(Uf fp).trans D.eR,small (by rw[Paired.length NF];omega),?_⟩;refine⟨_,O,Nn,_,al,y,xs++[x],fs++[XV.ref p],_,_,by rw[NI];rfl,NV,C,NR,D.found NQ NK Oh NY,ND,?_,NX⟩;rw[Nj];refine Paired.snoc (aj (λw r ⟨OR,e,q⟩=>⟨OR,e,?_⟩) NF) ⟨p,O,?_⟩
       ·rw[Uf (Ne.symm fp),KE,show v-((i-1:Nat):Int)=mi by omega];rfl
       ·rw[Uf (λz=>by rw[z,D.eR]at q;cases q),Uf (v0 q NY)];exact q
      ·rw[sw c];rw[Ps c,e4]at Nj;exact v6 ⟨_,O,Nn,_,al,y,xs++[x],fs,_,_,by rw[NI];rfl,NV,C,NR,D,ND,by rw[Nj];exact NF,NX⟩
   ·have ne:al≠[]:=λz=>Nq (by rw[z];intro t A;simp at A);obtain⟨J,t,rfl⟩:=Ag ne;have OF:t∈ts:=by rw[C];simp
    have Ou:mi<=t.k:=by
     rw[C,dd]at OE;have Pp:=(vh.mp OE).2.2;apply Dj;intro PR;refine Nq λt0 Pa=>?_;rcases f1.mp Pa with h0|h0
     ·have:=Pp t0 h0 t (by simp);omega
     ·rw[ss.mp h0];omega
    rw[s2 (by rw[FS,lv,bz];omega)];have NC:(((J++[t]).map λt=>XV.ref t.a))[((J++[t]).map λt=>XV.ref t.a).length-1]?=some (XV.ref t.a):=by simp
    refine ww ⟨_,O,1,O,bl,_,_,_,O,O,TW.of s.bO,nW NC,t.a,_,_,_,O,O,pm.of (NZ t (by simp)),O,_,O,_,_,O,O,_,O,?_⟩;rw[s2 Ou];obtain⟨es,Np,_⟩:=s.at_.ae;have Px:es.length=st.ae.length:=by obtain⟨Pz,Od,p⟩:=s.at_.ae;rw[Np]at Od;cases Od;exact Paired.length p
    have OL:L.a7≠bl:=λz=>s.fh (by rw[<- z];simp[SA.own]);have OX:((J++[t]).map λt=>XV.ref t.a).dropLast=J.map λt=>XV.ref t.a:=by simp
    have N9:=NZ t (by simp);refine ww ⟨λPt V=>∃Pj,Pj<(J++[t]).length/\_,λPt V q=>q,?_⟩;have Ow:=s.at_.ob;rw[s.ex]at Ow;refine⟨_,O,S.x,CS,L.dx,_,_,O,Ow,X.aq,X.kP,O,.inl ⟨O,_,TW.of Np⟩,_,O,.inl ⟨O,_,TW.of s.bO⟩,bl,_,_,O,O,s.bO,NC,t.a,_,_,_,O,O,pm.of ((Uf (λz=>by rw[z,s.bO]at N9;cases N9)).trans N9),O,L.a7,es,_,O,O,(Uf OL).trans Np,small (by have:=s.dj;omega),?_⟩;rw[OX];obtain⟨T,Nm⟩:=Pq t OF;refine⟨J.length,by rw[lv,bz];omega,_,J,t::y,O,O,by rw[C,dd];rfl,λt' NS=>?_,s.push NQ Oc Oh (N_ t OF) T Np,?_,aj (λ_ _ q=>s.lists q) OB⟩
    ·rcases s1.mp NS with rfl|NS
     ·exact Ou
     ·exact Nk t' NS
    ·refine Oy.push (λr i ⟨t',h1,h2⟩=>⟨t',on _ h1,h2⟩) (λr i ⟨t',h1,g,h2⟩=>?_) ⟨t,lc ..,_,O⟩ T Nm;rcases s1.mp h1 with rfl|h1
     ·right;rw[h2];exact⟨O,O⟩
     ·exact .inl ⟨t',h1,g,h2⟩
  ·rintro ZB Nr ⟨L,st,al,y,xs,fs,Oa,NG,rfl,Nu,C,Nk,Y,N1,Nv,NW⟩;have Ph:(xs.length:Int)=v-u+2:=by rw[Nu];omega
   refine⟨_,O,.inl ⟨O,_,TW.of Y.eR⟩,fl,fs,O,O,Y.eR,?_⟩;have Po:∀ {c:B}{o:HO},Nr c=some o->(∀l,o≠.lst l)->c≠fl:=λq m z=>by rw[z,Y.eR]at q;exact m _ (bT q).symm
   refine⟨_,O,k _ fl fs.reverse (rowsOf v xs).reverse (λm=>xs.getD (v+1-m).toNat 0) (λc o q=>?_) ?_ KE ?_ (λm h1 h2=>?_) (Kl Ph Pc)⟩
   ·have N4:=Nw _ _ (N5 _ _ q);rw[Uf (λz=>by rw[z,NK]at N4;cases N4)];exact Y.same _ _ N4
   ·exact N5.free (Nw.free NK)
   ·refine zp (aj (λw r ⟨c,e,q⟩=>⟨c,e,?_⟩) Nv);rw[Uf (Po q (λ_ z=>by cases z))];exact q
   ·have:=NW (v+1-m).toNat (by omega);rw[show v+1-(((v+1-m).toNat:Nat):Int)=m by omega]at this;exact this
def h9:List Int->Option b0
 |[a,b,d,u,v,m]=>some (.profile a b d u v m)
 |_=>none
theorem KW:pc ["plan","start","goal","day","first","last","most"] ["plan","start","goal","day","first","last","most"] (sB t6):=nl rfl rfl rfl (by decide +kernel)
theorem IP {f:B}{fd:sc}(F:sn K "profile" "profile" t6 f fd) (T:bM K mg CP)
  (NL:Gf P w K mg base 2 "can_ask" ["plan","start","goal","day","minute"] (ht CP CN)) (NN:Gf P w K mg base 1 "is_minute" ["minute"] pC) (NQ:Gf P w K mg base 1 "is_most" ["most"] jD) (NM:Gm P w K mg base 4 CP "forward" ["self","day"] (fu CP CN gW))
  (NR:Gf P w K mg base 6 "worthwhile" ["network","start","goal","first","last"] (uQ CN)) (NO:Gf P w K mg base 1 "counted" ["rows","most"] jC):Db P w K mg base AC 7 f fd ["plan","start","goal","day","first","last","most"] (cx CP CN h9 6):=by(
obtain⟨Oj,Ou,Nw,ND,N7,N1⟩:=NL;obtain⟨Om,Ow,Ny,NG,N8,N2⟩:=NN;obtain⟨Oq,Oy,GM,NI,N_,N4⟩:=NQ;obtain⟨Ol,Ov,Nx,NF,N6⟩:=NM;obtain⟨Ot,Oz,NA,NK,Oa,N5⟩:=NR;obtain⟨Oo,Ox,Nz,NH,N9,N3⟩:=NO;refine F.ok KW (λvs H Q E h=>?_) (λOi Og outer s0 H vs Q E hr h=>?_)
·obtain⟨A,j,m,l,c,rfl,Nk,_⟩:=h;simp[Nk]
·obtain⟨A,j,m,l,c,rfl,Nk,NV,t,hT,hm,k⟩:=h;obtain⟨a,b,d,u,v,g,rfl⟩:∃a b d u v g,l=[a,b,d,u,v,g]:=by match l,Nk with|[a,b,d,u,v,g],_=>exact⟨a,b,d,u,v,g,O⟩
 cases NV;refine⟨_,On (kt (PW.pt (eb (bI (cg (ii Nw (hr.mono) rfl N7 N1 ND .nil wE (WF (I 0) (WF (I 1) (WF (I 2) (WF (I 3) (WF (I 4) PP)))))))) (eb (bI (cg (ii Ny (hr.mono) rfl N8 N2 NG .nil wE (WF (I 5) PP)))) (eb (he dO (I 5) (I 4) (lm _)) (gA (bI (cg (ii GM (hr.mono) rfl N_ N4 NI .nil wE (WF (I 6) PP))))))))) (FM (tz (f2 (WF (nm T.c2 rfl) PP)))) io)
  (FM (tz (ii Nz (hr.mono) rfl N9 N3 NH .nil wE (WF (ii NA hr rfl Oa N5 NK .nil wE (WF (an (I 0) T.cl N6 Nx (hr.mono) NF .nil wE (WF (I 3) PP)) (WF (I 1) (WF (I 2) (WF (I 4) (WF (I 5) PP)))))) (WF (I 6) PP))))),?_⟩
 have o:(bS j a b d u&&(u8 v u 2879&&u8 g 0 4096))=false->∀p,H p=none->Q (.ref p) (T0 H p (.lst [XV.int (-2)])):=λe p C=>by
  have D:EQ j (.profile a b d u v g)=(bC (-2),j):=by simp only[EQ,e,aX]
  rw[D]at k;exact k _ p ((t.same (Tl.new C)).more (by omega)) ((Tl.new C).but _) C KE
 refine⟨_,O,_,O,_,O,_,O,_,O,A,j,m,a,b,d,u,O,t,_,O,?_⟩;rw[jt];cases U:bS j a b d u with
 |false=>exact ww (ww ⟨by show 1<=Is;decide,o (by rw[U];rfl)⟩)
 |true=>
  obtain⟨x,y,e,rfl,rfl,rfl,Nq,Nr,NW,NZ,OB⟩:=ja U;refine v6 ⟨_,O,v,O,_,O,?_⟩;by_cases s:0<=v/\v<2880
  case neg=>
   rw[show(decide (0<=v)&&decide (v<2880))=false by rw[<- wo,ga,f4,f4];exact s];refine ww (ww ⟨by show 1<=Is;decide,o ?_⟩);have:u8 v u 2879=false:=by
    unfold u8;rw[<- wo,ga,f4,f4];omega
   rw[this];simp
  case pos=>
   rw[s2 s.1,s2 s.2];refine v6 ⟨_,O,_,O,_,_,O,O,_,O,?_⟩;by_cases Nl:v<u
   ·rw[s2 Nl];refine ww (ww ⟨by show 1<=Is;decide,o ?_⟩);have:u8 v u 2879=false:=by
     unfold u8;rw[<- wo,ga,f4,f4];omega
    rw[this];simp
   ·rw[sw Nl];have Of:u8 v u 2879=true:=by
     unfold u8;rw[ga,f4,f4];omega
    refine v6 ⟨_,O,g,O,_,O,?_⟩;cases Y:(decide (0<=g)&&decide (g<=4096))with
    |false=>exact ww ⟨by show 1<=Is;decide,o (by rw[show u8 g 0 4096=false from Y];simp)⟩
    |true=>
     have hw:(bS j x y e u&&(u8 v u 2879&&u8 g 0 4096))=true:=by rw[U,Of,show u8 g 0 4096=true from Y];rfl
     refine v6 ⟨_,O,A.x,A.dx,_,O,t.ob,O,_,O,A,j,m,e,O,t,hT,NW,by omega,λH1 OD Nn N0 Nm OA=>?_⟩;obtain⟨n,N,rfl,NU,Nj⟩:=N0;have hz:=jk hT e Nj;obtain⟨ok,same,hn⟩:=dq hT.bd Nj;refine⟨_,O,_,O,_,O,_,O,n,N,_,x,y,u,v,O,NU,hz,ok,by rw[hn];exact Nq,by rw[hn];exact Nr,NZ,by omega,s.2,λH2 p Od L Oh Nv C NX Oc NS J=>?_⟩;have ci:=JI hT.bd Nj Nq Nr (u:=u) (v:=v) (by unfold Gc;omega) NS;have OC:L.length<=2880:=by
      rw[J];refine dg (A9 ..) ?_;rw[fH];omega
     refine⟨_,O,p,g,Od,L,O,NX,Oc,oy Y,λr Np=>?_,λNC q Oe Ob NY=>?_⟩
     ·rw[J]at Np;obtain⟨i,_,hi⟩:=nE.mp Np;split at hi
      ·cases hi;show 2<=9;decide
      ·cases hi
     have Nu:=Nv.tr Oe;refine k NC q ((Nn.same Nu).more (by omega)) (Nm.tr (Nu.but []) λb z=>by simp at z) ?_ ?_
     ·exact gk Nm (Nv.free Ob) λb z=>Nn.there (by simp only[ss]at z;rw[z];simp[PA.own])
     ·rw[NY,zS];have D:EQ j (.profile x y e u v g)=(la g L,j):=by
       simp only[EQ,hw,cU,aF,d2];rw[J,<-ci];rfl
      rw[D])
abbrev tU:v1:=ba (nb 24) 0
abbrev tq:v1:=ba (nb 24) 1
abbrev t2:v1:=ba (nb 24) 2
abbrev tV:v1:=ba (nb 24) 3
abbrev tN:v1:=ba (nb 25) 0
abbrev uh:v1:=ba (nb 25) 1
abbrev tw:v1:=ba (nb 25) 2
abbrev tD:v1:=ba (nb 25) 3
abbrev tI:v1:=nb 26
abbrev tK:v1:=nb 27
abbrev tJ:v1:=nb 28
structure e7 (K:xz) (CL CG:B):Prop where
 fR:cp K CL
 ar:ao K CL "network"
 ab:ao K CL "ridden"
 ready:ao K CL "ready"
 first:ao K CL "first_calls"
 ek:cp K CG
 goal:ao K CG "goal"
 arr:ao K CG "arrival"
 fV:ao K CG "limits"
def lf (n c1 c2 c3:B):List (Str×XV):=[("network",.ref n),("ridden",.ref c1),("ready",.ref c2),("first_calls",.ref c3)]
def gf (b:Nat) (a:Int) (c:B):List (Str×XV):=[("goal",Sc b),("arrival",.int a),("limits",.ref c)]
def gX (CL:B) (H:Hp) (v:XV) (n:B) (S:SS):Prop:=∃x dx c1 c2 c3,v=.ref x/\H x=some (.ins CL dx (lf n c1 c2 c3))/\H c1=some (.lst (S.ab.map XV.int))/\H c2=some (.lst (S.ready.map XV.int))/\H c3=some (.lst (S.aa.map Sc))
theorem gX.same {CL:B}{H V:Hp}{v:XV}{n:B}{S:SS}(s:Tl H V) (h:gX CL H v n S):gX CL V v n S:=let ⟨x,dx,c1,c2,c3,e,a,b,c,d⟩:=h;⟨x,dx,c1,c2,c3,e,s _ _ a,s _ _ b,s _ _ c,s _ _ d⟩
structure gg (CL CG CN:B) (H:Hp) (g:B) (b:Nat) (a:Int) (TD:Nt) (S:Nat->SS) (r:Nat):Prop where
 ex:∃f d e c,H g=some (.ins CG f (gf b a d))/\H d=some (.lst c)/\c.length=r+1/\(∀k,k<=r->∃v,c[k]?=some v/\gX CL H v e (S k))/\gt CN H e TD
theorem gg.same {CL CG CN:B}{H V:Hp}{g:B}{b:Nat}{a:Int}{TD:Nt}{S:Nat->SS}{r:Nat}(s:Tl H V) (h:gg CL CG CN H g b a TD S r):gg CL CG CN V g b a TD S r:=by
 obtain⟨c,d,m,l,h1,h2,e,f,i⟩:=h.ex;exact⟨c,d,m,l,s _ _ h1,s _ _ h2,e,λk j=>let ⟨v,n,o⟩:=f k j;⟨v,n,o.same s⟩,i.same s⟩
def uw (CL:B):Sp:=λvs H Q _=>∃(v:XV) (n:B) (S:SS) (s:Nat) (t:Int),vs=[v,Sc s,.int t]/\gX CL H v n S/\s<S.ab.length/\Q (.bl (decide (t<= -(S.ab.getD s 0)))) H
def uJ (CL:B):Sp:=λvs H Q _=>∃(v:XV) (n:B) (S:SS) (s:Nat) (t:Int),vs=[v,Sc s,.int t]/\gX CL H v n S/\s<S.ready.length/\Q (.bl (decide (t<= -(S.ready.getD s 0)))) H
def uH (CL CN:B):Sp:=λvs H Q _=>∃(v:XV) (n:B) (TD:Nt) (S:SS) (r:Nat),vs=[v,Sc r]/\gX CL H v n S/\gt CN H n TD/\r<TD.runs.length/\S.aa.length=TD.runs.length/\Q (.int ((TD.len r:Int)-1-((S.aa.getD r 0:Nat):Int))) H
theorem KH:pc ["self","stop","minute"] ["self","stop","minute"] (sB tq):=nl rfl rfl rfl (by decide +kernel)
theorem KS:pc ["self","stop","minute"] ["self","stop","minute"] (sB t2):=nl rfl rfl rfl (by decide +kernel)
theorem uo:pc ["self","run","stops","comes"] ["self","run"] (sB tV):=nl rfl rfl rfl (by decide +kernel)
theorem Ie {f:B}{fd:sc}(F:sn K "can_board_at" "Limits.can_board_at" tq f fd) (L:e7 K CL CG):Db P w K mg base AC 1 f fd ["self","stop","minute"] (uw CL):=by(
refine F.ok KH (λvs H Q E h=>?_) (λc b outer s0 H vs Q E hr h=>?_)
·obtain⟨v,n,S,s,t,rfl,_⟩:=h;rfl
·obtain⟨v,n,S,s,t,rfl,⟨x,dx,c1,c2,c3,rfl,h1,h2,d,e⟩,a,k⟩:=h;exact⟨_,FM (tz (oY b' (I 2) (et ey (Ch wT (zn (I 0) rfl) (I 1) (λ_ _=>rfl))) (lm _))),_,O,_,O,x,CL,dx,_,_,O,h1,L.fR,L.ab,O,_,O,c1,_,_,_,O,O,TW.of h2,lw (int_at a),_,O,_,_,O,O,k⟩)
theorem IK {f:B}{fd:sc}(F:sn K "can_get_off_at" "Limits.can_get_off_at" t2 f fd) (L:e7 K CL CG):Db P w K mg base AC 1 f fd ["self","stop","minute"] (uJ CL):=by(
refine F.ok KS (λvs H Q E h=>?_) (λd c outer s0 H vs Q E hr h=>?_)
·obtain⟨v,n,S,s,t,rfl,_⟩:=h;rfl
·obtain⟨v,n,S,s,t,rfl,⟨x,dx,c1,c2,c3,rfl,h1,h2,a,e⟩,b,k⟩:=h;exact⟨_,FM (tz (oY b' (I 2) (et ey (Ch wT (zn (I 0) rfl) (I 1) (λ_ _=>rfl))) (lm _))),_,O,_,O,x,CL,dx,_,_,O,h1,L.fR,L.ready,O,_,O,c2,_,_,_,O,O,TW.of a,lw (int_at b),_,O,_,_,O,O,k⟩)
theorem IF {f:B}{fd:sc}(F:sn K "last_call_off" "Limits.last_call_off" tV f fd) (L:e7 K CL CG) (X:a' K mg CS CN):Db P w K mg base AC 1 f fd ["self","run"] (uH CL CN):=by(
refine F.ok uo (λvs H Q E h=>?_) (λu t outer s0 H vs Q E hr h=>?_)
·obtain⟨v,n,TD,S,r,rfl,_⟩:=h;rfl
·obtain⟨v,n,TD,S,r,rfl,⟨x,dx,c1,c2,c3,rfl,h1,h2,U,g⟩,j,a,hf,k⟩:=h;obtain⟨b,c,q,o,z,A,Nj,os,ds,fs,d,D,g3,g4,g5,g6,J,N,T,C⟩:=j.ex;obtain⟨Nk,p,sa,y,⟨s,rfl,l⟩,m,Y⟩:=cF g4 (bN a ([],[]));refine⟨_,On (du (Ch wT (zn (zn (I 0) rfl) rfl) (I 1) (λ_ _=>rfl)) (cb rfl (re (v4 (i:=2) uo.nd rfl (IN rfl)) (re (v4 (i:=3) uo.nd rfl (IN rfl)) cc))))
  (FM (tz (kw gy (kw gy (aV bV (by rfl) X.len bR (WF (I 2) PP)) Fa) (Ch wT (zn (I 0) rfl) (I 1) (λ_ _=>rfl))))),?_⟩
 refine⟨_,O,x,CL,dx,_,_,O,h1,L.fR,L.ar,O,n,CN,b,_,_,O,d,X.aN,X.iq,O,_,O,q,_,_,_,O,O,TW.of g3,lw p,s,_,O,pm.of l,O,_,_,O,_,_,O,O,?_⟩;refine⟨_,O,sa,_,O,.inl (TW.of m),_,_,O,O,_,O,x,CL,dx,_,_,O,h1,L.fR,L.first,O,_,O,c3,_,_,_,O,O,TW.of g,lw (kB (by rw[hf];exact a)),_,_,O,O,?_⟩;have e:(((TD.runs.getD r ([],[])).1.map Sc).length:Int)=(TD.len r:Int):=by rw[FS];rfl
 show Q (.int ((((TD.runs.getD r ([],[])).1.map Sc).length:Int)-1-((S.aa.getD r 0:Nat):Int))) H;rw[e];exact k)
def uP (CL CG CN:B):Sp:=λvs H Q _=>∃(g:B) (b:Nat) (a:Int) (TD:Nt) (S:Nat->SS) (r s left:Nat) (t:Int),vs=[.ref g,Sc s,.int t,Sc left]/\gg CL CG CN H g b a TD S r/\left<=r/\s<(S left).ab.length/\Q (.bl (e' (S left) b a s t)) H
def ux (CL CG CN:B):Sp:=λvs H Q _=>∃(g:B) (b:Nat) (a:Int) (TD:Nt) (S:Nat->SS) (r run call left:Nat),vs=[.ref g,Sc run,Sc call,Sc left]/\gg CL CG CN H g b a TD S r/\left<=r/\run<TD.runs.length/\(S left).aa.length=TD.runs.length/\Q (.bl (decide ((call:Int)<(TD.len run:Int)-1-(((S left).aa.getD run 0:Nat):Int)))) H
def uy (CL CG CN:B):Sp:=λvs H Q _=>∃(g:B) (b:Nat) (a:Int) (TD:Nt) (S:Nat->SS) (r s left:Nat) (t:Int),vs=[.ref g,Sc s,.int t,Sc left]/\gg CL CG CN H g b a TD S r/\left<=r/\s<(S left).ready.length/\Q (.bl (decide (t<= -((S left).ready.getD s 0)))) H
theorem KZ:pc ["self","stop","minute","left"] ["self","stop","minute","left"] (sB uh):=nl rfl rfl rfl (by decide +kernel)
theorem KJ:pc ["self","run","call","left"] ["self","run","call","left"] (sB tw):=nl rfl rfl rfl (by decide +kernel)
theorem KL:pc ["self","stop","minute","left"] ["self","stop","minute","left"] (sB tD):=nl rfl rfl rfl (by decide +kernel)
theorem I1 {f:B}{fd:sc}(F:sn K "can_walk_to" "Guide.can_walk_to" uh f fd) (L:e7 K CL CG) (u:Gm P w K mg base 1 CL "can_board_at" ["self","stop","minute"] (uw CL)):Db P w K mg base AC 2 f fd ["self","stop","minute","left"] (uP CL CG CN):=by(
obtain⟨T,U,p,bB,D⟩:=u;refine F.ok KZ (λvs H Q E h=>?_) (λN J outer s0 H vs Q E hr h=>?_)
·obtain⟨g,b,a,TD,S,r,s,left,t,rfl,_⟩:=h;rfl
·obtain⟨g,b,a,TD,S,r,s,left,t,rfl,A,C,m,k⟩:=h;obtain⟨d,l,n,Nk,h1,h2,Y,y,Nj⟩:=A.ex;obtain⟨v,hv,j⟩:=y left C;obtain⟨x,dx,c1,c2,c3,e,o,Nl,Nm,Nn⟩:=id j;refine⟨_,On (kt (PW.pt (mx (he cQ (I 1) (zn (I 0) rfl) (lm _)) (my (he b' (I 2) (zn (I 0) rfl) (lm _))))) (FM (tz mn)) io)
  (FM (tz (an (Ch wT (zn (I 0) rfl) (I 3) (λ_ _=>rfl)) L.fR D p hr bB .nil wE (WF (I 1) (WF (I 2) PP))))),?_⟩
 unfold e' at k;have dS:∀i:Bool,i=false->(Q (.bl (i||decide (t<= -((S left).ab.getD s 0)))) H)->Q (.bl (decide (t<= -((S left).ab.getD s 0)))) H:=λi e q=>by rw[e]at q;exact q
 refine⟨_,O,_,O,g,CG,d,_,_,O,h1,L.ek,L.goal,O,O,_,O,?_⟩;by_cases c:s=b
 ·rw[s2 (by rw[c])];refine ww ⟨_,O,_,O,g,CG,d,_,_,O,h1,L.ek,L.arr,O,_,_,O,O,_,O,?_⟩;by_cases c2:t<=a
  ·rw[s2 c2];rw[s2 c,s2 c2]at k;exact ww k
  ·rw[sw c2];refine v6 ⟨_,O,g,CG,d,_,_,O,h1,L.ek,L.fV,O,_,O,l,_,_,_,O,O,TW.of h2,lw hv,x,dx,_,e,o,O,_,O,_,O,v,n,S left,s,t,by rw[e];rfl,j,m,dS _ (by rw[sw c2,m9]) k⟩
 ·rw[sw (λz=>c (by unfold Sc at z;injection z with z;omega))];refine v6 (v6 ⟨_,O,g,CG,d,_,_,O,h1,L.ek,L.fV,O,_,O,l,_,_,_,O,O,TW.of h2,lw hv,x,dx,_,e,o,O,_,O,_,O,v,n,S left,s,t,by rw[e];rfl,j,m,dS _ (by rw[sw c,wq]) k⟩))
theorem Ii {f:B}{fd:sc}(F:sn K "can_board" "Guide.can_board" tw f fd) (L:e7 K CL CG) (i:Gm P w K mg base 1 CL "last_call_off" ["self","run"] (uH CL CN)):Db P w K mg base AC 2 f fd ["self","run","call","left"] (ux CL CG CN):=by(
obtain⟨A,C,d,bB,s⟩:=i;refine F.ok KJ (λvs H Q E h=>?_) (λz y outer s0 H vs Q E hr h=>?_)
·obtain⟨g,b,a,TD,S,r,run,call,left,rfl,_⟩:=h;rfl
·obtain⟨g,b,a,TD,S,r,run,call,left,rfl,o,p,q,hf,k⟩:=h;obtain⟨j,l,t,J,h1,h2,D,m,n⟩:=o.ex;obtain⟨v,hv,c⟩:=m left p;obtain⟨x,dx,c1,c2,c3,e,u,N,T,U⟩:=id c;refine⟨_,FM (tz (oY dO (I 2) (an (Ch wT (zn (I 0) rfl) (I 3) (λ_ _=>rfl)) L.fR s d hr bB .nil wE (WF (I 1) PP)) (lm _))),?_⟩;exact⟨_,O,_,O,g,CG,j,_,_,O,h1,L.ek,L.fV,O,_,O,l,_,_,_,O,O,TW.of h2,lw hv,x,dx,_,e,u,O,_,O,v,t,TD,S left,run,by rw[e];rfl,c,n,q,hf,_,_,O,O,k⟩)
theorem Ij {f:B}{fd:sc}(F:sn K "can_get_off" "Guide.can_get_off" tD f fd) (L:e7 K CL CG) (i:Gm P w K mg base 1 CL "can_get_off_at" ["self","stop","minute"] (uJ CL)):Db P w K mg base AC 2 f fd ["self","stop","minute","left"] (uy CL CG CN):=by(
obtain⟨C,D,d,bB,q⟩:=i;refine F.ok KL (λvs H Q E h=>?_) (λA z outer s0 H vs Q E hr h=>?_)
·obtain⟨g,b,a,TD,S,r,s,left,t,rfl,_⟩:=h;rfl
·obtain⟨g,b,a,TD,S,r,s,left,t,rfl,n,o,p,k⟩:=h;obtain⟨j,l,u,T,h1,h2,J,m,N⟩:=n.ex;obtain⟨v,hv,c⟩:=m left o;obtain⟨x,dx,c1,c2,c3,e,y,U,Y,Nj⟩:=id c;refine⟨_,FM (tz (an (Ch wT (zn (I 0) rfl) (I 3) (λ_ _=>rfl)) L.fR q d hr bB .nil wE (WF (I 1) (WF (I 2) PP)))),?_⟩;exact⟨_,O,g,CG,j,_,_,O,h1,L.ek,L.fV,O,_,O,l,_,_,_,O,O,TW.of h2,lw hv,x,dx,_,e,y,O,_,O,_,O,v,u,S left,s,t,by rw[e];rfl,c,p,k⟩)
def uG (CL CS CN:B):Sp:=λvs H Q _=>∃(x dx:B) (A:SA) (N:Nt) (S:SS),vs=[.ref x,.ref A.x]/\H x=some (.ins CL dx [])/\ul CS CN H A N S/\x∉A.own/\
 ∀V:Hp,(∀l:List B,(∀c,c∈l->c≠x/\H c≠none)->gX CL (hide l V) (.ref x) A.n S)->Ev [x] H V->Q .ak V
theorem KR:pc ["self","search"] ["self","search"] (sB tU):=nl rfl rfl rfl (by decide +kernel)
theorem r1 {l:List B}{H:Hp}{c:B}(a:c∈l):hide l H c=none:=by(
cases q:hide l H c with
|none=>rfl
|some o=>exact absurd a (wv.mp q).1)
theorem ul.rr {CS CN:B}{H V:Hp}{A:SA}{N:Nt}{S:SS}{g:B}(h:ul CS CN H A N S) (b:Ev [g] H V) (k:g∉A.own) (hg:∀l,H g≠some (.tup l)) (hn:gt CN (hide A.own V) A.n N):ul CS CN V A N S:=by
 have at_:∀ {c:B}{u:HO},c∈A.own->H c=some u->V c=some u:=λj e=>b _ _ e λz=>k (by rw[<- ss.mp z];exact j);obtain⟨es,f,i⟩:=h.ae;refine⟨at_ (by simp[SA.own]) h.ob,at_ (by simp[SA.own]) h.arr,at_ (by simp[SA.own]) h.rides,at_ (by simp[SA.own]) h.ab,at_ (by simp[SA.own]) h.ready,at_ (by simp[SA.own]) h.ah,at_ (by simp[SA.own]) h.aa,⟨es,at_ (by simp[SA.own]) f,aj (λv e ⟨a,m,o⟩=>?_) i⟩,h.nd,hn⟩;obtain⟨p,d⟩:=wv.mp o;exact⟨a,m,wv.mpr ⟨p,b _ _ d λz=>hg _ (by rw[<- ss.mp z];exact d)⟩⟩
theorem gt.r3 {CN:B}{G H:Hp}{n:B}{N:Nt}{l:List B}(h:gt CN G n N) (s:Tl G H) (a:∀c,c∈l->G c=none):gt CN (hide l H) n N:=h.same λc u q=>wv.mpr ⟨(λz=>by rw[a c z]at q;cases q),s _ _ q⟩
theorem z6 {G H:Hp}{l:List B}(s:Tl G H) (a:∀c,c∈l->G c=none):Tl G (hide l H):=λc u q=>wv.mpr ⟨(λz=>by rw[a c z]at q;cases q),s _ _ q⟩
theorem IE {f:B}{fd:sc}(F:sn K "__init__" "Limits.__init__" tU f fd) (L:e7 K CL CG) (X:a' K mg CS CN) (U:ej mg):Db P w K mg base AC 1 f fd ["self","search"] (uG CL CS CN):=by(
refine F.ok KR (λvs H Q E h=>?_) (λNx Nv outer s0 H vs Q E hr h=>?_)
·obtain⟨x,dx,A,N,S,rfl,_⟩:=h;rfl
·obtain⟨x,dx,A,N,S,rfl,Np,a,nx,k⟩:=h;refine⟨_,On (bf (I 0) (zn (I 1) rfl) rfl)
  (On (bf (I 0) (oW n0 (by rfl) U.list qN (WF (zn (I 1) rfl) PP)) rfl)
  (On (bf (I 0) (oW n0 (by rfl) U.list qN (WF (zn (I 1) rfl) PP)) rfl)
  (FM (bf (I 0) (oW n0 (by rfl) U.list qN (WF (zn (I 1) rfl) PP)) rfl)))),?_⟩
 have no:∀ {c:B},c∈A.own->c∉[x]:=λy z=>nx (by rw[<- ss.mp z];exact y);refine⟨_,O,A.x,CS,A.dx,_,_,O,a.ob,X.aq,X.kR,O,_,O,x,CL,dx,_,O,Np,L.fR,L.ar,by decide,?_⟩;have g:Ev [x] H (T0 H x (.ins CL dx (rc "network" (XV.ref A.n) []))):=(Ev.rfl' _ _).put (by simp);have x0:(T0 H x (.ins CL dx (rc "network" (XV.ref A.n) []))) x=some (.ins CL dx (rc "network" (XV.ref A.n) [])):=KE;generalize T0 H x (.ins CL dx (rc "network" (XV.ref A.n) []))=Nw at g x0⊢;refine⟨_,O,A.x,CS,A.dx,_,_,O,g _ _ a.ob (no (by simp[SA.own])),X.aq,X.o_,O,A.a3,_,O,.inl (TW.of (g _ _ a.ab (no (by simp[SA.own])))),λc1 n1=>?_⟩;refine gr rfl x0 n1 L.fR L.ab (by show 1<1000;decide) λH1 Y m q=>?_;have i:=g.tr Y λb d=>.inl d;refine⟨_,O,A.x,CS,A.dx,_,_,O,i _ _ a.ob (no (by simp[SA.own])),X.aq,X.o9,O,A.a4,_,O,.inl (TW.of (i _ _ a.ready (no (by simp[SA.own])))),λc2 n2=>?_⟩;refine gr rfl q n2 L.fR L.ready (by show 2<1000;decide) λH2 s C r=>?_;have j:=i.tr s λb d=>.inl d;refine⟨_,O,A.x,CS,A.dx,_,_,O,j _ _ a.ob (no (by simp[SA.own])),X.aq,X.o7,O,A.a6,_,O,.inl (TW.of (j _ _ a.aa (no (by simp[SA.own])))),λc3 n3=>?_⟩;refine gr rfl r n3 L.fR L.first (by show 3<1000;decide) λT t Nj Nu=>?_
 have J:=j.tr t λb d=>.inl d;have p:∀ {c:B}{l:List XV}{e:Hp}{fs:List (Str×XV)},e c=some (.lst l)->e x=some (.ins CL dx fs)->c∉[x]:=λD Nr z=>by rw[ss.mp z,Nr]at D;cases D
 have u:∀ {c:B}{e:Hp},Ev [x] H e->e c=none->e x≠none->H c=none:=λd y Nq=>gk d y λb Nn=>by rw[ss.mp Nn];exact Nq
 have Nk:=u g n1 (by rw[x0];simp);have Nl:=u i n2 (by rw[q];simp);have Nm:=u j n3 (by rw[r];simp);refine k T (λl o=>⟨x,dx,c1,c2,c3,O,wv.mpr ⟨λz=>(o _ z).1 rfl,Nu⟩,wv.mpr ⟨λz=>(o _ z).2 Nk,t _ _ (s _ _ m (p m q)) (p (s _ _ m (p m q)) r)⟩,wv.mpr ⟨λz=>(o _ z).2 Nl,t _ _ C (p C r)⟩,wv.mpr ⟨λz=>(o _ z).2 Nm,Nj⟩⟩) J)
def uE (CL CG CN:B):Sp:=λvs H Q _=>∃(g d c:B) (b:Nat) (a:Int) (r:Nat) (TD:Nt),vs=[.ref g,.ref c,Sc b,.int a,Sc r]/\H g=some (.ins CG d [])/\gt CN (hide [g] H) c TD/\cX TD/\b<TD.n/\r<=400000/\
 ∀V:Hp,gg CL CG CN V g b a TD (aW TD (b9 TD b (-a))) r->Ev [g] H V->Q .ak V
theorem um:pc ["self","mirrored","goal","arrival","rides","search","ride"] ["self","mirrored","goal","arrival","rides"] (sB tN):=nl rfl rfl rfl (by decide +kernel)
theorem Iw {f Oh Oi:B}{fd Oj Ol:sc}(F:sn K "__init__" "Guide.__init__" tN f fd) (L:e7 K CL CG) (X:a' K mg CS CN) (O2:mg "Search"=some (.ref CS)) (OI:Mk K CS Oh) (OH:Db P w K mg base AC 1 Oh Oj ["self","network"] (iz CS CN)) (OM:Binds K Oj ["self","network"] [])
  (Ox:mg "Limits"=some (.ref CL)) (Ob:Mk K CL Oi) (N_:Db P w K mg base AC 1 Oi Ol ["self","search"] (uG CL CS CN)) (Oe:Binds K Ol ["self","search"] [])
  (OO:Gm P w K mg base 4 CS "begin" ["self","start","minute"] (mI CS CN)) (OP:Gm P w K mg base 4 CS "take_ride" ["self"] (mJ CS CN)):Db P w K mg base AC 5 f fd ["self","mirrored","goal","arrival","rides"] (uE CL CG CN):=by
 obtain⟨Pa,Pc,OG,bB,O0⟩:=OO;obtain⟨Pb,Pd,GT,ON,O1⟩:=OP;refine F.ok um (λvs H Q E h=>?_) (λO_ O9 outer s0 H vs Q E hr h=>?_)
 ·obtain⟨g,y,Nl,b,a,r,TD,rfl,_⟩:=h;rfl
 ·obtain⟨g,y,Nl,b,a,r,TD,rfl,hg,Nk,hz,N2,Pf,k⟩:=h;refine⟨_,On (tt (i:=5) um.nd rfl (IN rfl) (hk OI OH (hr.mono) rfl O2 OM .nil wE (WF (I 1) PP)))
   (On (dL (an (I 5) X.aq O0 OG hr bB .nil wE (WF (I 2) (WF (et ey (I 3)) PP))))
   (On (bf (I 0) (I 2) rfl)
   (On (bf (I 0) (I 3) rfl)
   (On (bf (I 0) (f2 (WF (hk Ob N_ (hr.mono) rfl Ox Oe .nil wE (WF (I 5) PP)) PP)) rfl)
   (FM (cw bD rfl (mr rfl X.range (WF (I 4) PP)) (v4 (i:=6) um.nd rfl (IN rfl))
    (On (dL (kH (I 5) X.aq O1 GT hr ON .nil wE))
    (FM (dL (cv b8 cV cW cP (zn (I 0) rfl) (WF (hk Ob N_ (hr.mono) rfl Ox Oe .nil wE (WF (I 5) PP)) PP))))))))))),?_⟩
  have NM:Tl (hide [g] H) H:=bW _ _;have NW:(hide [g] H) g=none:=r1 (by simp);have OC:∀ {V:Hp},Tl (hide [g] H) V->Ev [g] H V:=λs c u q m=>s c u (wv.mpr ⟨m,q⟩);generalize hide [g] H=G at Nk NM NW OC;refine⟨_,O,λsx dx a1 a2 a3=>y3 (Nk.same NM) hz a1 a2 a3 λH1 S ex en Ot O4 NV=>⟨O,?_⟩⟩;subst ex;have NX:g∉S.own:=λz=>by rw[NV _ z]at hg;cases hg
  refine⟨_,O,S.x,S.dx,_,O,Ot.ob,O,_,O,_,O,a,O,S,TD,_,b,-a,O,Ot,e8 hz,N2,λH2 NK OV=>?_⟩;have Oq:pp TD (b9 TD b (-a)):=((e8 hz).au N2 (-a) (-a)).bx N2 (-a)
  replace NK:ul CS CN H2 S TD (b9 TD b (-a)):=NK
  generalize b9 TD b (-a)=UV at NK Oq k;have O8:∀j,pp TD (aW TD UV j):=λj=>by rw[<- iv];exact fm Oq j
  have OA:=kc O4 OV NV;have O7:Tl G H2:=NM.tr OA;have N7:∀c,c∈S.own->G c=none:=λc m=>NM.free (NV c m);have Ou:=OA _ _ hg;have Oo:∀ {Nn:Hp}{o:HO},Nn g=some o->(∃C d fs,o=.ins C d fs)->∀l,Nn g≠some (.tup l):=λq ⟨_,_,_,e⟩ l z=>by rw[q,e]at z;cases z
  have Ov:∀ {Nn Oa:Hp},Tl G Nn->Ev [g] Nn Oa->Tl G Oa:=λs OK c u q=>OK _ _ (s _ _ q) λz=>by rw[ss.mp z,NW]at q;cases q
  refine⟨_,O,_,O,g,CG,y,_,O,Ou,L.ek,L.goal,by decide,?_⟩;have Od:Ev [g] H2 (T0 H2 g (.ins CG y (rc "goal" (Sc b) []))):=(Ev.rfl' _ _).put (by simp);have g3:(T0 H2 g (.ins CG y (rc "goal" (Sc b) []))) g=some (.ins CG y (rc "goal" (Sc b) [])):=KE;generalize T0 H2 g (.ins CG y (rc "goal" (Sc b) []))=NO at Od g3⊢;refine⟨_,O,_,O,g,CG,y,_,O,g3,L.ek,L.arr,by show 1<1000;decide,?_⟩;have NS:Ev [g] H2 (T0 NO g (.ins CG y (rc "arrival" (XV.int a) (rc "goal" (Sc b) [])))):=Od.put (by simp);have g4:(T0 NO g (.ins CG y (rc "arrival" (XV.int a) (rc "goal" (Sc b) [])))) g=some (.ins CG y (rc "arrival" (XV.int a) (rc "goal" (Sc b) []))):=KE;generalize T0 NO g (.ins CG y (rc "arrival" (XV.int a) (rc "goal" (Sc b) [])))=ND at NS g4⊢;have OD:=Ov O7 NS;have Np:ul CS CN ND S TD UV:=NK.rr NS NX (Oo Ou ⟨_,_,_,O⟩) (by rw[en];exact Nk.r3 OD N7);refine⟨_,O,λx dx nx N5 ne=>?_⟩;have sx:Tl ND (T0 (T0 ND dx (.own x)) x (.ins CL dx [])):=(Tl.new N5).tr (Tl.new (by rw[Uf (Ne.symm ne)];exact nx));refine⟨x,dx,S,TD,UV,O,KE,Np.same sx,(λz=>by obtain⟨o,q,_⟩:=Np.there z;rw[nx]at q;cases q),λNQ N4 OW=>⟨O,by show 1<=Is;decide,λp Nx=>?_⟩⟩;have Nz:Tl ND NQ:=λc u q=>OW _ _ (sx _ _ q) λz=>by rw[ss.mp z,nx]at q;cases q
  refine gr rfl (Nz _ _ g4) Nx L.ek L.fV (by show 2<1000;decide) λNR NU OQ g6=>?_;have OU:p∉S.own:=λz=>by obtain⟨o,q,_⟩:=Np.there z;rw[Nz _ _ q]at Nx;cases Nx
  have OE:Tl G NQ:=OD.tr Nz;have OF:=Ov OE NU;have OY:ul CS CN NR S TD UV:=(Np.same Nz).rr NU NX (Oo (Nz _ _ g4) ⟨_,_,_,O⟩) (by rw[en];exact Nk.r3 OF N7);have OT:G p=none:=OE.free Nx;have OJ:∀c,c∈p::g::S.own->G c=none:=λc m=>by
   rcases s1.mp m with z|z
   ·rw[z];exact OT
   ·rcases s1.mp z with z|z
    ·rw[z];exact NW
    ·exact N7 c z
  have OZ:=N4 (g::S.own) λc m=>by
   rcases s1.mp m with z|z
   ·rw[z];exact⟨v0 g4 nx,by rw[sx _ _ g4];simp⟩
   ·obtain⟨o,q,_⟩:=Np.there z;exact⟨v0 q nx,by rw[sx _ _ q];simp⟩
  have O5:Tl (hide (g::S.own) NQ) (hide (p::g::S.own) NR):=λc u q=>by
   obtain⟨T,N⟩:=wv.mp q;refine wv.mpr ⟨λz=>?_,NU _ _ N λz=>T (by rw[ss.mp z];simp)⟩;rcases s1.mp z with z|z
   ·rw[z,Nx]at N;cases N
   ·exact T z
  refine⟨_,O,_,O,by omega,by omega,?_⟩;have Og:((r:Nat):Int).toNat=r:=by omega
  refine kl (λi ZB U=>∃(t:SA) (A:List XV) (D:Hp) (N9:Option XV),ZB=[some (.ref g),some (.ref Nl),some (Sc b),some (.int a),some (Sc r),some (.ref S.x),N9]/\t.x=S.x/\t.n=Nl/\ul CS CN U t TD (aW TD UV i)/\U g=some (.ins CG y (gf b a p))/\U p=some (.lst A)/\A.length=i+1/\Tl G D/\Tl D U/\(∀c,c∈p::g::t.own->D c=none)/\(∀k,k<=i->∃v,A[k]?=some v/\gX CL D v Nl (aW TD UV k))/\g∉t.own/\p∉t.own)
   ⟨S,[XV.ref x],hide (p::g::S.own) NR,none,O,O,en,OY,g6,OQ,O,z6 OF OJ,bW _ _,λc m=>r1 m,λk NL=>⟨XV.ref x,by rw[wm.mp NL];rfl,by rw[wm.mp NL,<-en];exact OZ.same O5⟩,NX,OU⟩ ?_ ?_
  ·rintro i ZB U hi ⟨t,A,D,N9,rfl,ex,Of,N1,Nq,Nu,Nw,NC,Nm,NG,fV,NY,NZ⟩;have hi:i<r:=m7 hi Og;have Oy:=N1.ob;rw[ex]at Oy;refine⟨_,O,S.x,t.dx,_,O,Oy,O,t,TD,_,by rw[ex];rfl,N1,O8 i,λNF Ny N6 Nj N0=>?_⟩;have OR:cj TD (aW TD UV i)=aW TD UV (i+1):=rfl;rw[OR]at Nj;have NN:∀c,c∈({t with a7:=Ny}:SA).own->c∈t.own\/c=Ny:=λc m=>by
    simp only[SA.own,s1,hR,gI]at m⊢;rcases m with h|h|h|h|h|h|h|h<;>simp[h]
   have NI:({t with a7:=Ny}:SA).x=S.x:=ex;have NH:({t with a7:=Ny}:SA).n=Nl:=Of;generalize ({t with a7:=Ny}:SA)=J at Nj NN NI NH;have Oz:∀c,c∈t.own->D c=none:=λc m=>NG c (on _ (on _ m));have O6:=kc Nm N0 Oz;have Nr:=N0 _ _ Nq NY;have Nv:=N0 _ _ Nu NZ;have OS:g∉J.own:=λz=>by
    rcases NN _ z with z|z
    ·exact NY z
    ·rw[z,N6]at Nq;cases Nq
   have Om:p∉J.own:=λz=>by
    rcases NN _ z with z|z
    ·exact NZ z
    ·rw[z,N6]at Nu;cases Nu
   have Oc:∀c,c∈p::g::J.own->D c=none:=λc m=>by
    rcases s1.mp m with z|z
    ·exact NG c (by rw[z];simp)
    ·rcases s1.mp z with z|z
     ·exact NG c (by rw[z];simp)
     ·rcases NN _ z with z|z
      ·exact Oz c z
      ·rw[z];exact Nm.free N6
   have O3:=Nj.ob;rw[NI]at O3;refine⟨_,O,g,CG,y,_,_,O,Nr,L.ek,L.fV,O,.inl ⟨O,_,TW.of Nv⟩,_,O,λx dx nx N5 ne=>?_⟩;have sx:Tl NF (T0 (T0 NF dx (.own x)) x (.ins CL dx [])):=(Tl.new N5).tr (Tl.new (by rw[Uf (Ne.symm ne)];exact nx));refine⟨x,dx,J,TD,_,by rw[NI];rfl,KE,Nj.same sx,(λz=>by obtain⟨o,q,_⟩:=Nj.there z;rw[nx]at q;cases q),λY N4 OX=>⟨O,?_⟩⟩;have NA:Tl NF Y:=λc u q=>OX _ _ (sx _ _ q) λz=>by rw[ss.mp z,nx]at q;cases q
   refine⟨p,A,_,O,O,NA _ _ Nv,small (by omega),?_⟩;have Ow:=N4 (p::g::J.own) λc m=>by
    have:∃o,NF c=some o:=by
     rcases s1.mp m with z|z
     ·exact⟨_,by rw[z];exact Nv⟩
     ·rcases s1.mp z with z|z
      ·exact⟨_,by rw[z];exact Nr⟩
      ·obtain⟨o,q,_⟩:=Nj.there z;exact⟨o,q⟩
    obtain⟨o,q⟩:=this;exact⟨v0 q nx,by rw[sx _ _ q];simp⟩
   have OL:Ev [p] Y (T0 Y p (.lst (A++[XV.ref x]))):=(Ev.rfl' _ _).put (by simp);have N8:Tl D (hide (p::g::J.own) Y):=z6 (O6.tr NA) Oc;have OB:Tl (hide (p::g::J.own) Y) (T0 Y p (.lst (A++[XV.ref x]))):=λc u q=>by
    obtain⟨T,N⟩:=wv.mp q;rw[Uf (λz=>T (by rw[z];simp))];exact N
   refine⟨J,A++[XV.ref x],hide (p::g::J.own) Y,_,O,NI,NH,(Nj.same NA).rr OL Om (λl z=>by rw[NA _ _ Nv]at z;cases z) ?_,?_,KE,by rw[lv,Nw];rfl,NC.tr N8,OB,λc m=>r1 m,λN3 Pe=>?_,OS,Om⟩
   ·rw[NH];exact(Nk.same NC).r3 (N8.tr OB) λc m=>Oc c (on _ (on _ m))
   ·rw[Uf (λz=>by rw[z,Nv]at Nr;cases Nr)];exact NA _ _ Nr
   ·by_cases c:N3<=i
    ·obtain⟨v,T,N⟩:=fV N3 c;exact⟨v,by rw[nu (by omega)];exact T,N.same N8⟩
    ·have:N3=i+1:=by omega
     subst this;refine⟨XV.ref x,by rw[nt (by omega),Nw];simp,?_⟩;rw[NH]at Ow;exact Ow
  ·rintro ZB U ⟨t,A,D,N9,rfl,ex,Of,N1,Nq,Nu,Nw,NC,Nm,NG,fV,NY,NZ⟩;rw[Og]at Nw fV;refine k U ⟨y,p,Nl,A,Nq,Nu,Nw,λk NL=>?_,Nk.same (NC.tr Nm)⟩ (OC (NC.tr Nm));obtain⟨v,T,N⟩:=fV k NL;exact⟨v,T,N.same Nm⟩
def uD (CL CG CN:B):Sp:=λvs H Q _=>∃(n g:B) (N:Nt) (b:Nat) (a:Int) (TD:Nt) (S:Nat->SS) (r s left:Nat) (t:Int),vs=[.ref n,.ref g,Sc s,.int t,Sc left]/\gt CN H n N/\cX N/\gg CL CG CN H g b a TD S r/\left<=r/\s<N.n/\(S left).ab.length=N.n/\
 (∀(c d:List (Nat×Int×Nat)) (g' q:Nat) (m:Int) (V:Hp) (p:B),N.foot.getD s []=c++(g',m,q)::d->(∀f,f∈c->e' (S left) b a f.1 (t+f.2.1)=false)->e' (S left) b a g' (t+m)=true->Tl H V->V p=some (.tup [.int (-1),Sc q,Sc s,Sc g',.int (t+m)])->Q (.ref p) V)/\
 ((∀f,f∈N.foot.getD s []->e' (S left) b a f.1 (t+f.2.1)=false)->Q .ak H)
theorem ph:pc ["network","guide","stop","minute","left","goal","minutes","number"] ["network","guide","stop","minute","left"] (sB tK):=nl rfl rfl rfl (by decide +kernel)
theorem Ir {f:B}{fd:sc}(F:sn K "first_walk" "first_walk" tK f fd) (L:e7 K CL CG) (X:a' K mg CS CN) (U:ej mg) (T:Gm P w K mg base 2 CG "can_walk_to" ["self","stop","minute","left"] (uP CL CG CN)):Db P w K mg base AC 3 f fd ["network","guide","stop","minute","left"] (uD CL CG CN):=by(
obtain⟨NI,NK,D,J,NC⟩:=T;refine F.ok ph (λvs H Q E h=>?_) (λNG NF outer s0 H vs Q E hr h=>?_)
·obtain⟨n,g,N,b,a,TD,S,r,s,left,t,rfl,_⟩:=h;rfl
·obtain⟨n,g,N,b,a,TD,S,r,s,left,t,rfl,Np,hz,y,Nu,A,Nv,Ny,Nz⟩:=h;refine⟨_,On (cw bD rfl (cf (Ch wT (zn (I 0) rfl) (I 2) (λ_ _=>rfl))) (cb rfl (re (v4 (i:=5) ph.nd rfl (IN rfl)) (re (v4 (i:=6) ph.nd rfl (IN rfl)) (re (v4 (i:=7) ph.nd rfl (IN rfl)) cc))))
   (FM (kt (cg (an (I 1) L.ek NC D hr J .nil wE (WF (I 5) (WF (kw bu (I 3) (I 6)) (WF (I 4) PP))))) (FM (tz (bP (WF (nm U.wk rfl) (WF (I 7) (WF (I 2) (WF (I 5) (WF (kw bu (I 3) (I 6)) PP)))))))) io)))
  (FM (tz sH)),?_⟩
 obtain⟨Nj,c,NX,o,NH,Nk,NY,os,ds,fs,h1,h2,NO,NQ,NR,NS,Nm,Nn,NU,NN⟩:=Np.ex;obtain⟨Y,NM,NW,NV,Nl,NL,g3,g4,g5⟩:=y.ex;have xd:s<N.foot.length:=by rw[hz.foot];exact A
 obtain⟨vd,Nx,es,⟨x,rfl,z⟩,C⟩:=cF Nn (bN xd []);have NA:es.length=(N.foot.getD s []).length:=Paired.length C;refine⟨_,O,n,CN,Nj,_,_,O,h1,X.aN,X.mc,O,_,O,Nk,_,_,_,O,O,TW.of Nm,lw Nx,x,O,⟨_,TW.of z⟩,?_⟩;refine gv (K:=K) (a:=x) (xs:=es) (λi ZB H2=>∃k l m,ZB=[some (.ref n),some (.ref g),some (Sc s),some (.int t),some (Sc left),k,l,m]/\H2=H/\∀f,f∈(N.foot.getD s []).take i->e' (S left) b a f.1 (t+f.2.1)=false)
  ⟨none,none,none,O,O,λf hf=>by simp at hf⟩ (λi ZB H2 _ ⟨_,_,_,_,e,_⟩=>by rw[e];exact TW.of z) ?_ ?_
 ·rintro i v ZB H2 hi ⟨k,l,m,rfl,rfl,d⟩;obtain⟨⟨g',mi,q⟩,j,ta,rfl,Nw⟩:=dP C hi;have Nr:=(ay.mp j);have Nq:g'<N.n:=hz.kk s g' mi A (by unfold Nt.ft;exact m0.mpr ⟨_,pi j,O⟩);refine⟨ta,_,O,pm.of Nw,O,_,_,O,_,_,O,_,_,O,O,?_⟩;refine⟨_,O,g,Y,_,O,Nl,O,_,O,_,O,_,O,_,_,O,O,_,O,g,b,a,TD,S,r,g',left,t+mi,O,y,Nu,by rw[Nv];exact Nq,_,O,?_⟩;cases u:e' (S left) b a g' (t+mi)with
  |true=>
   refine ww ⟨_,O,_,O,_,O,_,O,_,O,_,_,O,O,by show 5<=Is;decide,λp ND=>?_⟩;refine Ny _ ((N.foot.getD s []).drop (i+1)) g' q mi _ p ?_ d u (Tl.new ND) KE;rw[<- Nr.2,List.getElem_cons_drop,Be]
  |false=>
   refine v6 ⟨_,_,_,O,O,λf hf=>?_⟩;rw[ck,j,cz]at hf;rcases f1.mp hf with hf|hf
   ·exact d f hf
   ·rw[ss.mp hf];exact u
 ·rintro ZB H2 ⟨k,l,m,rfl,rfl,d⟩;rw[NA,de]at d;exact Nz d)
def uC (CL CG CN:B):Sp:=λvs H Q _=>∃(n g:B) (N:Nt) (b:Nat) (a:Int) (TD:Nt) (S:Nat->SS) (r s left:Nat) (t:Int),vs=[.ref n,.ref g,Sc s,.int t,Sc left]/\gt CN H n N/\cX N/\gg CL CG CN H g b a TD S r/\left+1<=r/\s<N.n/\(S left).ready.length=N.n/\
 (S (left+1)).aa.length=TD.runs.length/\TD.runs.length=N.runs.length/\N.aU.length=N.runs.length/\(∀x,x<N.runs.length->TD.len x=N.len x/\(S (left+1)).aa.getD x 0<N.len x)/\(∃e,e∈N.af.getD s []/\a0 N (S (left+1)) t e=true)/\
 (∀e,e∈N.af.getD s []->a0 N (S (left+1)) t e=true->∃j,e.2.2<j/\j<N.len e.2.1/\eN N (S left) e.2.1 j=true)/\
 ∀(e:s3) (j:Nat) (V:Hp) (p q:B),e∈N.af.getD s []->a0 N (S (left+1)) t e=true->(∀c,c∈N.af.getD s []->a0 N (S (left+1)) t c=true->e.2.1<c.2.1\/(e.2.1=c.2.1/\e.2.2<=c.2.2))->e.2.2<j->j<N.len e.2.1->eN N (S left) e.2.1 j=true->(∀d,e.2.2<d->d<j->eN N (S left) e.2.1 d=false)->
  Tl H V->V p=some (.tup [Sc (N.aU.getD e.2.1 (0,0)).1,.int (N.aU.getD e.2.1 (0,0)).2,Sc e.2.2,Sc j,.int (N.comes e.2.1 j)])->V q=some (.tup [.ref p,Sc (N.stop e.2.1 j)])->Q (.ref q) V
theorem eW:pc ["network","guide","stop","ready","left","boardings","goes","run","call","on","trip","begins","stops","comes","off"] ["network","guide","stop","ready","left"] (sB tJ):=nl rfl rfl rfl (by decide +kernel)
theorem Hb {a b c d:Int}(h:HT.lexLt [a,b] [c,d]=false):c<a\/(c=a/\d<=b):=by(
rw[HT.kx,HT.kx,HT.yV]at h;by_cases e:a=c
·rw[No e]at h;by_cases f:b=d
 ·right;omega
 ·rw[Ps f,vn]at h;right;omega
·rw[Ps e,vn]at h;left;omega)
theorem Iq {f:B}{fd:sc}(F:sn K "first_ride" "first_ride" tJ f fd) (NF:e7 K CL CG) (X:a' K mg CS CN) (U:ej mg) (N1:Gm P w K mg base 2 CG "can_board" ["self","run","call","left"] (ux CL CG CN)) (N2:Gm P w K mg base 2 CG "can_get_off" ["self","stop","minute","left"] (uy CL CG CN)):Db P w K mg base AC 3 f fd ["network","guide","stop","ready","left"] (uC CL CG CN):=by
 obtain⟨ON,OP,NY,bB,OF⟩:=N1;obtain⟨OO,OQ,NZ,N0,OG⟩:=N2;refine F.ok eW (λvs H Q E h=>?_) (λOM OL outer s0 H vs Q E hr h=>?_)
 ·obtain⟨n,g,N,b,a,TD,S,r,s,left,t,rfl,_⟩:=h;rfl
 ·obtain⟨n,g,N,b,a,TD,S,r,s,left,t,rfl,Oe,hz,Nv,Oj,Ny,Ou,eR,OZ,O0,Ol,hex,Oq,k⟩:=h;have hu:=hc hr;refine⟨_,On (tt (i:=5) eW.nd rfl (IN rfl) (f2 PP))
   (On (cw bD rfl (cf (Ch wT (zn (I 0) rfl) (I 2) (λ_ _=>rfl))) (cb rfl (re (v4 (i:=6) eW.nd rfl (IN rfl)) (re (v4 (i:=7) eW.nd rfl (IN rfl)) (re (v4 (i:=8) eW.nd rfl (IN rfl)) cc))))
    (FM (kt (PW.pt (mx (he kC (I 6) (I 3) (lm _)) (my (cg (an (I 1) NF.ek OF NY hr bB .nil wE (WF (I 7) (WF (I 8) (WF (kw bu (I 4) Fa) PP)))))))) (FM (dL (cv b8 cV cW cP (I 5) (WF (bP (WF (I 7) (WF (I 8) PP))) PP)))) io)))
   (On (du (aV (Ey rfl hu) (by rfl) U.min wA (WF (I 5) PP)) (cb rfl (re (v4 (i:=7) eW.nd rfl (IN rfl)) (re (v4 (i:=9) eW.nd rfl (IN rfl)) cc))))
   (On (du (Ch wT (zn (I 0) rfl) (I 7) (λ_ _=>rfl)) (cb rfl (re (v4 (i:=10) eW.nd rfl (IN rfl)) (re (v4 (i:=11) eW.nd rfl (IN rfl)) cc))))
   (On (du (Ch wT (zn (I 0) rfl) (I 7) (λ_ _=>rfl)) (cb rfl (re (v4 (i:=12) eW.nd rfl (IN rfl)) (re (v4 (i:=13) eW.nd rfl (IN rfl)) cc))))
   (On (tt (i:=14) eW.nd rfl (IN rfl) (kw bu (I 9) Fa))
   (On (kK bD (bI (cg (an (I 1) NF.ek OG NZ hr N0 .nil wE (WF (Ch wT (I 12) (I 14) (λ_ _=>rfl)) (WF (Ch wT (I 13) (I 14) (λ_ _=>rfl)) (WF (I 4) PP)))))) (FM (sJ (i:=14) eW.nd rfl (IN rfl) Fa Ga)))
   (FM (tz (bP (WF (bP (WF (I 10) (WF (I 11) (WF (I 9) (WF (I 14) (WF (Ch wT (I 13) (I 14) (λ_ _=>rfl)) PP)))))) (WF (Ch wT (I 12) (I 14) (λ_ _=>rfl)) PP))))))))))),?_⟩
  obtain⟨Nu,c,OI,o,N4,OR,O6,os,ds,fs,h1,h2,N_,Oa,Ob,Oc,OU,OV,Od,N9⟩:=Oe.ex;obtain⟨NK,OT,O5,O4,NL,OS,g3,g4,g5⟩:=Nv.ex;have xd:s<N.af.length:=by rw[hz.af];exact Ny
  obtain⟨vd,Ox,es,⟨NI,rfl,NO⟩,NX⟩:=cF Oc (bN xd []);have OE:es.length=(N.af.getD s []).length:=Paired.length NX;have O3:(N.af.getD s []).length<=300000:=by
   have:=jo (N.af.map cm) s;rw[nw,pr,bN xd []]at this;have this:(N.af.getD s []).length<=_:=this;have:=hz.small.2.1;omega
  refine⟨g1 _,λbl fh=>?_⟩;have Nq:Tl H (T0 H bl (.lst [])):=Tl.new fh;refine⟨_,O,n,CN,Nu,_,_,O,Nq _ _ h1,X.aN,X.hj,O,_,O,N4,_,_,_,O,O,TW.of (Nq _ _ Ob),lw Ox,NI,O,⟨_,TW.of (Nq _ _ NO)⟩,?_⟩;refine gv (K:=K) (a:=NI) (xs:=es) (λi ZB H2=>∃(T Nl Y:Option XV) (as:List B),ZB=[some (.ref n),some (.ref g),some (Sc s),some (.int t),some (Sc left),some (.ref bl),T,Nl,Y,none,none,none,none,none,none]/\H2 bl=some (.lst (as.map XV.ref))/\Paired (λJ ns=>H2 J=some (.tup (ns.map XV.int))) as ((((N.af.getD s []).take i).filter (a0 N (S (left+1)) t)).map λe=>[(e.2.1:Int),(e.2.2:Int)])/\Tl H H2)
   ⟨none,none,none,[],O,KE,.nil,Nq⟩ (λi ZB H2 _ ⟨_,_,_,_,_,_,_,l⟩=>TW.of (l _ _ NO)) ?_ ?_
  ·rintro i v ZB H2 hi ⟨T,Nl,Y,as,rfl,bO,D,l⟩;obtain⟨⟨go,d,x⟩,Nz,ta,rfl,Ow⟩:=dP NX hi;have OW:=(ay.mp Nz).1;have L:d<N.runs.length:=hz.lT s _ Ny (pi Nz);have N5:((N.af.getD s []).take (i+1)).filter (a0 N (S (left+1)) t)=((N.af.getD s []).take i).filter (a0 N (S (left+1)) t)++(if a0 N (S (left+1)) t (go,d,x)=true then [(go,d,x)]else []):=by
    rw[ck,Nz,cz,jY]
    congr 1
    by_cases q:a0 N (S (left+1)) t (go,d,x)=true<;>simp[q]
   rw[N5];have NV:as.length<=300000:=by
    rw[Paired.length D,FS];refine dg (ly ..) ?_;rw[aK];omega
   have same:a0 N (S (left+1)) t (go,d,x)=false->∃(T Nl Y:Option XV) (as:List B),[some (XV.ref n),some (.ref g),some (Sc s),some (.int t),some (Sc left),some (.ref bl),some (.int go),some (Sc d),some (Sc x),none,none,none,none,none,none]=[some (XV.ref n),some (.ref g),some (Sc s),some (.int t),some (Sc left),some (.ref bl),T,Nl,Y,none,none,none,none,none,none]/\H2 bl=some (.lst (as.map XV.ref))/\Paired (λJ ns=>H2 J=some (.tup (ns.map XV.int))) as ((((N.af.getD s []).take i).filter (a0 N (S (left+1)) t)++(if a0 N (S (left+1)) t (go,d,x)=true then [(go,d,x)]else [])).map λe=>[(e.2.1:Int),(e.2.2:Int)])/\Tl H H2:=λq=>by
    refine⟨_,_,_,as,O,bO,?_,l⟩;rw[Ps (by rw[q];simp),e4];exact D
   refine⟨ta,_,O,pm.of (l _ _ Ow),O,_,_,O,_,_,O,_,_,O,O,?_⟩;refine⟨_,O,_,O,_,_,O,O,_,O,?_⟩;by_cases c1:t<=go
   ·rw[s2 c1];have OY:((left:Nat):Int)+1=((left+1:Nat):Int):=by omega
    refine ww ⟨_,O,g,NK,_,O,l _ _ NL,O,_,O,_,O,_,O,_,_,O,O,?_⟩;refine⟨g,b,a,TD,S,r,d,x,left+1,O,Nv.same l,Oj,by omega,eR,_,O,?_⟩;obtain⟨OC,O2⟩:=Ol d L;rw[OC];by_cases c2:x<N.len d-1-(S (left+1)).aa.getD d 0
    ·have N3:a0 N (S (left+1)) t (go,d,x)=true:=by unfold a0;rw[s2 c1,s2 c2];rfl
     rw[s2 (by omega)];refine ww ⟨_,O,.inl ⟨O,_,TW.of bO⟩,_,O,_,O,by show 2<=Is;decide,λp Nk=>?_⟩;have NG:bl≠p:=v0 bO Nk;refine⟨bl,_,_,O,O,(Uf NG).trans bO,small (by rw[FS];omega),?_⟩;refine⟨_,_,_,as++[p],O,by rw[KE,bA];rfl,?_,λNH u q=>?_⟩
     ·rw[No N3,bA];refine Paired.snoc (aj (λJ ns q=>?_) D) (by rw[Uf (Ne.symm NG),KE];rfl);rw[Uf (λz=>by rw[z,bO]at q;cases q),Uf (v0 q Nk)];exact q
     ·rw[Uf (v0 q fh)];exact Tl.new Nk _ _ (l _ _ q)
    ·rw[sw (by omega)];refine v6 (same ?_);unfold a0;rw[sw c2,m9]
   ·rw[sw c1];refine v6 (v6 (same ?_));unfold a0;rw[sw c1,wq]
  ·rintro ZB H2 ⟨T,Nl,Y,as,rfl,bO,D,l⟩;rw[OE,de]at D;have NV:as.length=((N.af.getD s []).filter (a0 N (S (left+1)) t)).length:=by rw[Paired.length D,FS]
   refine⟨_,O,bl,as,_,O,TW.of bO,D,?_,λi J m Of hm Om=>?_⟩
   ·obtain⟨e,Nw,Oh⟩:=hex;rw[NV];exact List.length_pos_of_mem (fJ.mpr ⟨Nw,Oh⟩)
   obtain⟨e,Nw,N6⟩:∃e,((N.af.getD s []).filter (a0 N (S (left+1)) t))[i]?=some e/\m=[(e.2.1:Int),(e.2.2:Int)]:=by
    rw[pr]at hm;cases q:((N.af.getD s []).filter (a0 N (S (left+1)) t))[i]? with
    |none=>rw[q]at hm;cases hm
    |some e=>rw[q]at hm;cases hm;exact⟨e,O,O⟩
   subst N6;obtain⟨Nx,NQ⟩:=fJ.mp (pi Nw);have Og:H2 J=some (.tup [Sc e.2.1,Sc e.2.2]):=by
    obtain⟨ns,Np,NC⟩:=dP D Of;rw[hm]at Np;cases Np;exact NC
   have N7:∀y,y∈N.af.getD s []->a0 N (S (left+1)) t y=true->e.2.1<y.2.1\/(e.2.1=y.2.1/\e.2.2<=y.2.2):=λy Np NC=>by
    have:=Hb (Om [(y.2.1:Int),(y.2.2:Int)] (m0.mpr ⟨y,fJ.mpr ⟨Np,NC⟩,O⟩));omega
   obtain⟨go,d,A⟩:=e;have L:d<N.runs.length:=hz.lT s _ Ny Nx;obtain⟨O7,Oy,OH,rfl,Oo⟩:=cF N9 (bN (show d<N.aU.length by omega) (0,0));obtain⟨O8,Oz,sa,Nr,⟨OJ,rfl,Ov⟩,NS,NN⟩:=cF Oa (bN L ([],[]));refine⟨J,_,O,pm.of Og,O,_,_,O,_,_,O,O,?_⟩;refine⟨_,O,n,CN,Nu,_,_,O,l _ _ h1,X.aN,X.oK,O,_,O,o,_,_,_,O,O,TW.of (l _ _ Od),lw Oy,OH,_,O,pm.of (l _ _ Oo),O,_,_,O,_,_,O,O,?_⟩;refine⟨_,O,n,CN,Nu,_,_,O,l _ _ h1,X.aN,X.iq,O,_,O,OI,_,_,_,O,O,TW.of (l _ _ N_),lw Oz,OJ,_,O,pm.of (l _ _ Ov),O,_,_,O,_,_,O,O,?_⟩;refine⟨_,O,_,_,O,O,?_⟩;obtain⟨Nj,OA,OB,NA⟩:=Oq _ Nx NQ;have OD:=hz.comes d L;have Ot:XV.int ((A:Int)+1)=Sc (A+1):=by unfold Sc;congr 1
   show bG 14 (XV.int ((A:Int)+1)) _ _ _;rw[Ot];refine⟨λNn ZB ND=>∃(j:Nat),ZB=[some (.ref n),some (.ref g),some (Sc s),some (.int t),some (Sc left),some (.ref bl),T,some (Sc d),Y,some (Sc A),some (Sc (N.aU.getD d (0,0)).1),some (.int (N.aU.getD d (0,0)).2),some (.ref sa),some (.ref Nr),some (Sc j)]/\ND=H2/\Nn=Nj-j/\A<j/\j<=Nj/\∀C,A<C->C<j->eN N (S left) d C=false,⟨_,A+1,rfl,rfl,rfl,by omega,OA,λC h1 h2=>by omega⟩,?_⟩;rintro Nn ZB ND ⟨j,rfl,rfl,rfl,Oi,OX,NR⟩;have Nm:j<N.len d:=by simp only at OB;omega
   have NU:((N.runs.getD d ([],[])).1.map Sc)[j]?=some (Sc (N.stop d j)):=kB Nm;have NM:((N.runs.getD d ([],[])).2.map XV.int)[j]?=some (XV.int (N.comes d j)):=int_at (by rw[OD];exact Nm);refine⟨_,O,g,NK,_,O,l _ _ NL,O,_,O,_,O,sa,_,_,_,O,O,TW.of (l _ _ NS),lw NU,_,O,_,O,Nr,_,_,_,O,O,TW.of (l _ _ NN),lw NM,_,O,g,b,a,TD,S,r,N.stop d j,left,N.comes d j,O,Nv.same l,by omega,by rw[Ou];exact hz.ew d j L Nm,_,O,?_⟩;have N8:decide (N.comes d j<= -((S left).ready.getD (N.stop d j) 0))=eN N (S left) d j:=rfl;rw[N8];cases co:eN N (S left) d j with
   |false=>
    refine ww ⟨λOK V=>∃Nn,Nn<Nj-j/\_,λOK V q=>q,?_⟩;have O1:j≠Nj:=λz=>by rw[z]at co;simp only at NA;rw[co]at NA;cases NA
    refine⟨_,O,_,_,O,O,Nj-(j+1),by omega,j+1,?_,O,O,by omega,by omega,λC h1 h2=>?_⟩
    ·have:XV.int ((j:Int)+1)=Sc (j+1):=by unfold Sc;congr 1
     show List.set _ 14 (some (XV.int ((j:Int)+1)))=_;rw[this];rfl
    ·by_cases NH:C<j
     ·exact NR C h1 NH
     ·rw[show C=j by omega];exact co
   |true=>
    refine v6 ?_;refine⟨_,O,_,O,_,O,_,O,_,O,_,O,Nr,_,_,_,O,O,TW.of (l _ _ NN),lw NM,by show 5<=Is;decide,λp Nk=>?_⟩;have sp:=Tl.new (o:=HO.tup [Sc (N.aU.getD d (0,0)).1,.int (N.aU.getD d (0,0)).2,Sc A,Sc j,.int (N.comes d j)]) Nk;refine⟨_,O,_,O,sa,_,_,_,O,O,TW.of (sp _ _ (l _ _ NS)),lw NU,by show 2<=Is;decide,λq NW=>?_⟩;exact k (go,d,A) j _ p q Nx NQ N7 Oi Nm co NR ((l.tr sp).tr (Tl.new NW)) (Tl.new NW _ _ KE) KE
abbrev xb (T:Go) (d:Nat) (N:Nt):Prop:=sK (up T) (AT T d) (ln T d) (ol T) N
abbrev Du (T:Go) (d:Nat) (N:Nt):Prop:=sK (up T) ((AT T d).map ut) (ln T d) ((ol T).map br) N
def dN (x:jS) (left:Nat):Nat:=2*left+(if x.way=2 then 0 else 1)
def uB (CL CG CN:B):Sp:=λvs H Q _=>∃(n g:B) (N TD:Nt) (T:Go) (M b:Nat) (a:Int) (S:Nat->SS) (r s:Nat) (t:Int),vs=[.ref n,.ref g,Sc s,.int t,Sc r]/\gt CN H n N/\gg CL CG CN H g b a TD S r/\eI T/\xb T M N/\Du T M TD/\(∀k,SInv TD (ge ((AT T M).map ut)) b (-a) k (S k))/\(∀k,pp TD (S k))/\s<T.stops.length/\0<=t/\j6 T M b a r ⟨s,t,0⟩/\e6 T M b a r ⟨s,t,0⟩ [] ⟨s,t,0⟩ r/\r<=400000/\
 ∀(V:Hp) (p:B) (c:List XV) (pre:List m5) (x:jS) (left:Nat),Tl H V->H p=none->V p=some (.lst c)->Paired (λv r=>TupAt V v (r.map XV.int)) c (d8 T M ⟨s,t,0⟩ pre)->e6 T M b a r ⟨s,t,0⟩ pre x left->x.halt=b->x.time<=a->Q (.ref p) V
theorem dz:pc ["network","guide","start","minute","rides","legs","stop","there","ready","left","after_walk","leg"] ["network","guide","start","minute","rides"] (sB tI):=nl rfl rfl rfl (by decide +kernel)
theorem K9 {A X G:Prop}(h:(A->X)->G) (x:A->X):G:=h x
theorem Eu {T:Go}(hT:ce T) {M:Nat}{N:Nt}(c:xb T M N) {r j:Nat}(hr:r<N.runs.length) (a:j<N.len r): -1440<=N.comes r j:=by
 have b:=hr;rw[o6 c]at b;obtain⟨h,d,i,e⟩:=ou c b;rw[d]at a;rw[(e j a).1];have mi:((v2 T M)[r].1,(v2 T M)[r].2.1,(v2 T M)[r].2.2)∈v2 T M:=eH b;obtain⟨f,g,k⟩:=c'.mp mi;exact(k1 hT (pi f) M g a).1
theorem Ip {f:B}{fd:sc}(F:sn K "first_journey" "first_journey" tI f fd) (NR:e7 K CL CG) (X:a' K mg CS CN) (N8:Gf P w K mg base 3 "first_walk" ["network","guide","stop","minute","left"] (uD CL CG CN)) (N7:Gf P w K mg base 3 "first_ride" ["network","guide","stop","ready","left"] (uC CL CG CN)):Db P w K mg base AC 4 f fd ["network","guide","start","minute","rides"] (uB CL CG CN):=by
 obtain⟨O1,O3,N4,N6,OG,OC⟩:=N8;obtain⟨O0,O2,N3,N5,OF,OB⟩:=N7;refine F.ok dz (λvs H Q E h=>?_) (λOY OU outer s0 H vs Q E hr h=>?_)
 ·obtain⟨n,g,N,TD,T,M,b,a,S,r,s,t,rfl,_⟩:=h;rfl
 ·obtain⟨n,g,N,TD,T,M,b,a,S,r,s,t,rfl,NL,NV,hT,o,Y,Nl,NC,Oy,Pf,N0,Ou,Pe,k⟩:=h;refine⟨_,On (tt (i:=5) dz.nd rfl (IN rfl) (f2 PP))
   (On (tt (i:=6) dz.nd rfl (IN rfl) (I 2))
   (On (tt (i:=7) dz.nd rfl (IN rfl) (I 3))
   (On (tt (i:=8) dz.nd rfl (IN rfl) (I 3))
   (On (tt (i:=9) dz.nd rfl (IN rfl) (I 4))
   (On (tt (i:=10) dz.nd rfl (IN rfl) mn)
   (On (kK bD (he I_ (I 6) (zn (I 1) rfl) (lm _))
    (On (tt (i:=11) dz.nd rfl (IN rfl) sH)
    (On (kt (bI (cg (I 10))) (FM (tt (i:=11) dz.nd rfl (IN rfl) (ii N4 hr rfl OG OC N6 .nil wE (WF (I 0) (WF (I 1) (WF (I 6) (WF (I 7) (WF (I 9) PP)))))))) io)
    (On (tt (i:=10) dz.nd rfl (IN rfl) (oY I' (I 11) sH (lm _)))
    (On (kt (cg (I 10))
     (On (tt (i:=6) dz.nd rfl (IN rfl) (Ch gw (I 11) Fa (λ_ _=>rfl))) (FM (tt (i:=8) dz.nd rfl (IN rfl) (Ch gw (I 11) Fa (λ_ _=>rfl)))))
     (On (sJ (i:=9) dz.nd rfl (IN rfl) Fa yB)
     (On (du (ii N3 hr rfl OF OB N5 .nil wE (WF (I 0) (WF (I 1) (WF (I 6) (WF (I 8) (WF (I 9) PP)))))) (cb rfl (re (v4 (i:=11) dz.nd rfl (IN rfl)) (re (v4 (i:=6) dz.nd rfl (IN rfl)) cc))))
     (FM (tt (i:=8) dz.nd rfl (IN rfl) (kw bu (Ch gw (I 11) Fa (λ_ _=>rfl)) (Ch wT (zn (I 0) rfl) (I 6) (λ_ _=>rfl))))))))
    (On (tt (i:=7) dz.nd rfl (IN rfl) (Ch gw (I 11) Fa (λ_ _=>rfl)))
    (FM (dL (cv b8 cV cW cP (I 5) (WF (I 11) PP))))))))))
   (FM (tz (I 5))))))))),?_⟩
  obtain⟨N_,c,Pm,Pl,OZ,O4,Nz,os,ds,fs,h1,h2,O8,O9,O_,Pa,Pb,Pc,Pd,O7⟩:=NL.ex;obtain⟨N9,O6,Pk,Pj,Oh,O5,g3,g4,g5⟩:=NV.ex;have hz:=jk hT M o;obtain⟨ok,_,hn⟩:=dq hT.bd o;obtain⟨_,_,NZ⟩:=jd hT.bd Y;have Ow:TD.runs.length=N.runs.length:=by rw[o.eU,Y.eU,FS]
  have Ot:N.aU.length=N.runs.length:=by rw[o.aU,o.runs];simp[ln,AT]
  refine⟨g1 _,λNn ND=>?_⟩;refine⟨_,O,_,O,_,O,_,O,?_⟩;refine⟨λm ZB H2=>∃(pre:List m5) (x:jS) (left:Nat) (Nz:List XV) (N2:Option XV),ZB=[some (.ref n),some (.ref g),some (Sc s),some (.int t),some (Sc r),some (.ref Nn),some (Sc x.halt),some (.int x.time),some (.int (x.time+chg T x)),some (Sc left),some (.bl (decide (x.way=2))),N2]/\m=dN x left/\e6 T M b a r ⟨s,t,0⟩ pre x left/\x.halt<T.stops.length/\ -1000000<x.time/\pre.length+dN x left<=2*r+1/\H2 Nn=some (.lst Nz)/\Paired (λv r=>TupAt H2 v (r.map XV.int)) Nz (d8 T M ⟨s,t,0⟩ pre)/\Tl H H2,
   ⟨_,[],⟨s,t,0⟩,r,[],none,by simp[chg,L2.start],O,Ou,Oy,by show -1000000<t;omega,by simp[dN],KE,.nil,Tl.new ND⟩,?_⟩
  rintro m ZB H2 ⟨pre,x,left,Nv,N2,rfl,rfl,J,L,Pg,Ol,Nw,NG,Nj⟩;have NW:=NV.same Nj;have NY:left<=r:=by have:=J.rides;omega
  refine⟨_,O,_,O,g,CG,N9,_,_,O,Nj _ _ Oh,NR.ek,NR.goal,O,O,_,O,?_⟩;by_cases Nq:x.halt=b
  ·rw[show(!decide (Sc x.halt=Sc b))=false by rw[Nq];simp];refine v6 ⟨_,O,?_⟩;have Oz:x.time<=a:=by
    obtain⟨D,OX,Pn,Og,Nr,_⟩:=J.fin;have:=kj hT.bd.right D Og;exact wz this Nr
   exact k H2 Nn Nv pre x left Nj ND Nw NG J Nq Oz
  ·rw[show(!decide (Sc x.halt=Sc b))=true by
    rw[sw (λz=>Nq (by unfold Sc at z;injection z with z;omega))];rfl]
   refine ww ⟨λOT V=>∃D,D<dN x left/\_,λOT V q=>q,?_⟩;refine⟨_,O,_,O,?_⟩;have NF:∀ {NQ:Hp}{Nz:List XV}{U:B}{l:List XV},NQ Nn=some (.lst Nz)->NQ U=some (.tup l)->U≠Nn:=λNy Np z=>by rw[z,Ny]at Np;cases Np
   have Ph:Nv.length=pre.length:=by rw[Paired.length NG,(oA pre J.at_).2]
   apply K9 (A:=∀q NM,we T M x (.walk q)=some NM->¬Fin T M b a left NM)
   ·intro NX;by_cases Nu:x.way=2
    ·rw[s2 Nu];refine v6 ⟨_,O,O,_,O,_,O,?_⟩;refine v6 (NX λq NM hg=>?_);obtain⟨_,_,_,z,_⟩:=aH.mp hg;exact absurd Nu z
    ·rw[sw Nu];refine ww ⟨_,O,_,O,_,O,_,O,_,O,n,g,N,b,a,TD,S,r,x.halt,left,x.time,O,NL.same Nj,hz,NW,NY,by rw[hn];exact L,by rw[(NC left).ab,NZ,hn],λOV OW g' q D NO p Nr NH NI Nk C=>?_,λOo=>?_⟩
     ·obtain⟨OO,OP,OQ,Po,OR,OS⟩:=LZ hT.bd o Y (Nl left) L (by unfold Gc;omega) Nu Nr NH NI;have Nm:=Nk _ _ Nw;refine⟨_,O,O,_,O,_,O,?_⟩;refine ww ⟨_,O,p,_,_,_,O,O,pm.of C,O,_,O,p,_,_,_,O,O,pm.of C,O,_,O,p,_,_,_,O,O,pm.of C,O,?_⟩;refine⟨_,O,.inl ⟨O,_,TW.of Nm⟩,_,O,Nn,Nv,_,O,O,Nm,small (by omega),?_⟩;have NK:x.time+D=x.time+D+chg T ⟨g',x.time+D,2⟩:=by simp[chg]
      have st:=J.step N0 (λz=>Nq z.1) OO (by simp[eg,bY]) OR OS;refine⟨dN ⟨g',x.time+D,2⟩ left,by simp[dN,Nu],pre++[.walk q],⟨g',x.time+D,2⟩,left,Nv++[XV.ref p],_,by rw[<- NK];rfl,O,st,OQ,by show -1000000<x.time+D;omega,?_,KE,?_,λU u Nx=>?_⟩
      ·rw[lv,bz];simp only[dN,Nu,aF,aX]at Ol⊢;omega
      ·rw[r_ pre _ J.at_,OP];refine Paired.snoc (aj (λv r ⟨U,NN,NA⟩=>⟨U,NN,?_⟩) NG) ⟨p,O,?_⟩
       ·rw[Uf (NF Nm C)];exact C
       ·rw[Uf (NF Nw NA)];exact Nk _ _ NA
      ·rw[Uf (v0 Nx ND)];exact Nk _ _ (Nj _ _ Nx)
     ·refine⟨_,O,O,_,O,_,O,?_⟩;exact v6 (NX (LY hT.bd o Y (Nl left) L (by unfold Gc;omega) Oo))
   ·intro hw;obtain⟨d,rfl,Oa,Oj,Oi⟩:=Kf hT.bd o Y Nl L J.fin Nq hw;refine⟨_,O,_,_,O,O,?_⟩;have NU:XV.int (((d+1:Nat):Int)-1)=Sc d:=by unfold Sc;congr 1;omega
    have Om:∀y,y<N.runs.length->TD.len y=N.len y/\(S (d+1)).aa.getD y 0<N.len y:=λy OA=>by
     obtain⟨Ny,Np,_⟩:=xw hT.bd o Y OA;exact⟨Np,by rw[<- Np];exact(NC (d+1)).dm y Ny⟩
    have Oq:∀e,e∈N.af.getD x.halt []->a0 N (S (d+1)) (x.time+chg T x) e=true->∃j,e.2.2<j/\j<N.len e.2.1/\eN N (S d) e.2.1 j=true:=λe Ny Np=>(H4 hT.bd o Y (Nl (d+1)) (Nl d) L Ny Np).2;refine⟨_,O,_,O,_,O,_,O,_,O,n,g,N,b,a,TD,S,r,x.halt,d,x.time+chg T x,by rw[<- NU];rfl,NL.same Nj,hz,NW,NY,by rw[hn];exact L,by rw[(NC d).ready,NZ,hn],(NC (d+1)).aa,Ow,Ot,Om,⟨Oa,Oj,Oi⟩,Oq,λe j NO p q Nr NH NI Oc NS Od Oe Nk C Ov=>?_⟩;obtain⟨ON,OD,OH,OI,OJ,OK,OL,OM⟩:=Ke hT.bd o Y (Nl (d+1)) (Nl d) L Nr NH NI Oc NS Od Oe hw;have Nm:=Nk _ _ Nw;have Ox:e.2.1<N.runs.length:=hz.lT x.halt _ (by rw[hn];exact L) Nr;have N1:Tl H NO:=Nj.tr Nk;have OE:N.stop e.2.1 j<N.chg.length:=by
     have:N.chg.length=T.stops.length:=by rw[o.chg];simp[up]
     omega
    refine⟨q,_,O,pm.of Ov,O,_,_,O,_,_,O,O,?_⟩;refine⟨_,O,p,_,_,_,O,O,pm.of C,O,_,O,n,CN,N_,_,_,O,N1 _ _ h1,X.aN,X.oJ,O,_,O,c,_,_,_,O,O,TW.of (N1 _ _ h2),lw (int_at OE),_,_,O,O,?_⟩;refine⟨_,O,p,_,_,_,O,O,pm.of C,O,?_⟩;refine⟨_,O,.inl ⟨O,_,TW.of Nm⟩,_,O,Nn,Nv,_,O,O,Nm,small (by omega),?_⟩;have NK:N.comes e.2.1 j+N.chg.getD (N.stop e.2.1 j) 0=N.comes e.2.1 j+chg T ⟨N.stop e.2.1 j,N.comes e.2.1 j,1⟩:=by
     rw[o.chg,xX];simp[chg]
    have st:=J.step N0 (λz=>Nq z.1) OI (by simp[eg,bY];omega) OL OM;refine⟨dN ⟨N.stop e.2.1 j,N.comes e.2.1 j,1⟩ d,?_,pre++[.ride ON OD e.2.2 j],⟨N.stop e.2.1 j,N.comes e.2.1 j,1⟩,d,Nv++[XV.ref p],_,by rw[<- NU,<-NK];rfl,O,st,OK,?_,?_,KE,?_,λU u Nx=>?_⟩
    ·have Of:dN ⟨N.stop e.2.1 j,N.comes e.2.1 j,1⟩ d=2*d+1:=by simp[dN]
     have Ob:2*(d+1)<=dN x (d+1):=by unfold dN;omega
     omega
    ·have:=Eu hT.bd o Ox NS;show -1000000<N.comes e.2.1 j;omega
    ·rw[lv,bz];have Of:dN ⟨N.stop e.2.1 j,N.comes e.2.1 j,1⟩ d=2*d+1:=by simp[dN]
     have Ob:2*(d+1)<=dN x (d+1):=by unfold dN;omega
     omega
    ·rw[r_ pre _ J.at_,OJ];refine Paired.snoc (aj (λv r ⟨U,NN,NA⟩=>⟨U,NN,?_⟩) NG) ⟨p,O,?_⟩
     ·rw[Uf (NF Nm C),C,OH];rfl
     ·rw[Uf (NF Nw NA)];exact Nk _ _ NA
    ·rw[Uf (v0 Nx ND)];exact Nk _ _ (Nj _ _ Nx)
theorem zV (T:Go) (M:Nat) (a_:List (Nat×Int×cr)):∀(n:Nat) (q:e0),(d0 T M a_ n q).length<=n+1
 |0,q=>by simp[d0]
 |n+1,q=>by
  unfold d0;split
  ·simp
  ·have:=zV T M a_ n (m6 T M a_ q);rw[bh];omega
theorem Kg {T:Go}(hT:eI T) {M a b:Nat}{t x:Int}{r:Nat}(h:iQ T M a b t=some (x,r)):r<=400000:=by(
have hm:aD T M<=300001:=by
 have:=o5 hT M;unfold AT at this;rw[be]at this;unfold aD;have e:((v2 T M).map ((λx:bn=>x.1.length)∘λy=>aJ M y.2.1 y.2.2))=(v2 T M).map λx=>x.2.2.calls.length:=ei λy _=>by simp[aJ]
 rw[e]at this;omega
have d:(az T M a t (aD T M)).length<=aD T M+1:=by
 unfold az;rw[FS];exact zV ..
unfold iQ at h;simp only[Option.bind_eq_some_iff,Cw]at h;obtain⟨z,_,f,h2,c⟩:=h;injection c with _ c;subst c;unfold f9 at h2;have:=(Dt.mp h2).1;omega)
theorem HX (T:Go) (M:Nat) (x:jS) (c:m5):(bK T M x c).length<=9:=by(
unfold bK;split
·split<;>simp
·split<;>simp)
theorem yR {T:Go}{M:Nat}:∀(l:List m5) (x:jS) (r:List Int),r∈d8 T M x l->r.length<=9
 |[],x,r,h=>by simp[d8]at h
 |c::l,x,r,h=>by
  unfold d8 at h;rcases s1.mp h with rfl|h
  ·exact HX T M x c
  ·cases q:we T M x c with
   |none=>rw[q]at h;simp at h
   |some y=>rw[q]at h;exact yR l y r h
def h7:List Int->Option b0
 |[a,b,d,t,m]=>some (.journey a b d t m)
 |_=>none
theorem mC:pc ["plan","start","goal","day","minute","most","network","search","rides","guide"] ["plan","start","goal","day","minute","most"] (sB tT):=nl rfl rfl rfl (by decide +kernel)
theorem ID {f NK:B}{fd NL:sc}(F:sn K "journey" "journey" tT f fd) (T:bM K mg CP) (U:ej mg) (X:a' K mg CS CN) (OZ:mg "Guide"=some (.ref CG)) (Oa:Mk K CG NK) (N6:Db P w K mg base AC 5 NK NL ["self","mirrored","goal","arrival","rides"] (uE CL CG CN)) (Od:Binds K NL ["self","mirrored","goal","arrival","rides"] [])
  (Ol:Gf P w K mg base 2 "can_ask" ["plan","start","goal","day","minute"] (ht CP CN)) (Ot:Gf P w K mg base 1 "is_most" ["most"] jD) (Om:Gm P w K mg base 4 CP "forward" ["self","day"] (fu CP CN gW)) (Oj:Gm P w K mg base 5 CP "mirrored" ["self","day"] (fu CP CN lG))
  (Ou:Gf P w K mg base 6 "searched" ["network","start","minute"] (kW CS CN)) (Oo:Gf P w K mg base 4 "first_journey" ["network","guide","start","minute","rides"] (uB CL CG CN)) (Oq:Gf P w K mg base 1 "counted" ["rows","most"] jC):Db P w K mg base AC 7 f fd ["plan","start","goal","day","minute","most"] (cx CP CN h7 5):=by
 obtain⟨Pn,Pw,N4,Ob,OY,OQ⟩:=Ol;obtain⟨Pr,PB,GM,Og,O2,OT⟩:=Ot;obtain⟨Po,Px,N5,Oc,OX⟩:=Om;obtain⟨Pm,Pu,N3,bB,OW⟩:=Oj;obtain⟨Pt,PD,N8,Oh,O3,OU⟩:=Ou;obtain⟨Pp,Py,GJ,Oe,O0,OR⟩:=Oo;obtain⟨Pq,Pz,N7,Of,O1,OS⟩:=Oq;refine F.ok mC (λvs H Q E h=>?_) (λPk Pg outer s0 H vs Q E hr h=>?_)
 ·obtain⟨A,o,m,l,c,rfl,NC,_⟩:=h;simp[NC]
 ·obtain⟨A,o,m,l,c,rfl,NC,OF,Nn,hT,hm,k⟩:=h;obtain⟨a,b,d,t,g,rfl⟩:∃a b d t g,l=[a,b,d,t,g]:=by match l,NC with|[a,b,d,t,g],_=>exact⟨a,b,d,t,g,O⟩
  cases OF;refine⟨_,On (kt (PW.pt (eb (bI (cg (ii N4 (hr.mono) rfl OY OQ Ob .nil wE (WF (I 0) (WF (I 1) (WF (I 2) (WF (I 3) (WF (I 4) PP)))))))) (gA (bI (cg (ii GM (hr.mono) rfl O2 OT Og .nil wE (WF (I 5) PP))))))) (FM (tz (f2 (WF (nm T.c2 rfl) PP)))) io)
   (On (tt (i:=6) mC.nd rfl (IN rfl) (an (I 0) T.cl OX N5 (hr.mono) Oc .nil wE (WF (I 3) PP)))
   (On (tt (i:=7) mC.nd rfl (IN rfl) (ii N8 hr rfl O3 OU Oh .nil wE (WF (I 6) (WF (I 1) (WF (I 4) PP)))))
   (On (kt (he cQ (Ch wT (zn (I 7) rfl) (I 2) (λ_ _=>rfl)) (nm U.nv rfl) (lm _)) (FM (tz (f2 (WF (nm U.c1 rfl) PP)))) io)
   (On (tt (i:=8) mC.nd rfl (IN rfl) (Ch wT (zn (I 7) rfl) (I 2) (λ_ _=>rfl)))
   (On (tt (i:=9) mC.nd rfl (IN rfl) (hk Oa N6 hr rfl OZ Od .nil wE (WF (an (I 0) T.cl OW N3 (hr.mono) bB .nil wE (WF (I 3) PP)) (WF (I 2) (WF (Ch wT (zn (I 7) rfl) (I 2) (λ_ _=>rfl)) (WF (I 8) PP))))))
   (FM (tz (ii N7 (hr.mono) rfl O1 OS Of .nil wE (WF (ii GJ (hr.mono) rfl O0 OR Oe .nil wE (WF (I 6) (WF (I 9) (WF (I 1) (WF (I 4) (WF (I 8) PP)))))) (WF (I 5) PP)))))))))),?_⟩
  have NH:(bS o a b d t&&u8 g 0 4096)=false->∀p,H p=none->Q (.ref p) (T0 H p (.lst [XV.int (-2)])):=λe p D=>by
   have Nw:EQ o (.journey a b d t g)=(bC (-2),o):=by simp only[EQ,e,aX]
   rw[Nw]at k;exact k _ p ((Nn.same (Tl.new D)).more (by omega)) ((Tl.new D).but _) D KE
  refine⟨_,O,_,O,_,O,_,O,_,O,A,o,m,a,b,d,t,O,Nn,_,O,?_⟩;rw[jt];cases Nl:bS o a b d t with
  |false=>exact ww (ww ⟨by show 1<=Is;decide,NH (by rw[Nl];rfl)⟩)
  |true=>
   refine v6 ⟨_,O,g,O,_,O,?_⟩;cases Nx:(decide (0<=g)&&decide (g<=4096))with
   |false=>exact ww ⟨by show 1<=Is;decide,NH (by rw[Nl,show u8 g 0 4096=false from Nx];rfl)⟩
   |true=>
    have hw:(bS o a b d t&&u8 g 0 4096)=true:=by rw[Nl,show u8 g 0 4096=true from Nx];rfl
    obtain⟨x,y,e,rfl,rfl,rfl,L,C,NQ,OK,PJ⟩:=ja Nl;refine v6 ⟨_,O,A.x,A.dx,_,O,Nn.ob,O,_,O,A,o,m,e,O,Nn,hT,NQ,by omega,λH1 v OC hv Ow PF=>?_⟩;obtain⟨n,N,rfl,NN,Nk⟩:=hv;have hz:=jk hT e Nk;obtain⟨ok,same,hn⟩:=dq hT.bd Nk;refine⟨_,O,_,O,_,O,n,N,x,t,O,NN,hz,by rw[hn];exact L,λH2 S j J s NF=>?_⟩;have Np:=OC.same NF;have Ny:Ev [A.n] H H2:=Ow.tr (NF.but []) λb s=>by simp at s
    have Nr:=jz ok (kb ok (s0:=x) (t0:=t) (by rw[hn];exact L) (by unfold Gc;omega)) j;rw[<- iv]at Nr;have Nu:=fm (((e8 hz).au (stop:=x) (by rw[hn];exact L) t t).bx (by rw[hn];exact L) t) j;generalize OE:aI N (b9 N x t) j=SS at J s Nr;have Nu:pp N SS:=by rw[<- OE];exact Nu
    obtain⟨O8,N0⟩:=yd hT.bd Nk L C Nr s (by unfold Gc;omega);have NU:y<SS.arr.length:=by rw[Nu.arr,hn];exact C
    have OM:y<SS.rides.length:=by rw[Nu.rides,hn];exact C
    have NW:A.n∈A.own:=by simp[PA.own]
    refine⟨_,O,S.x,CS,S.dx,_,_,O,J.ob,X.aq,X.dv,O,_,O,S.a1,_,_,_,O,O,TW.of J.arr,lw (int_at NU),O,_,O,?_⟩;by_cases c:SS.arr.getD y 0=Gc
    ·rw[s2 (by rw[c];rfl)];have Nw:EQ o (.journey x y e t g)=(bC (-1),o):=by simp only[EQ,hw,cU,aF,d2,O8 c]
     rw[Nw]at k;refine ww ⟨by show 1<=Is;decide,λp D=>?_⟩;exact k _ p ((Np.same (Tl.new D)).more (by omega)) (Ny.new D) (gk Ny D λb s=>Np.there (by rw[ss.mp s];exact NW)) KE
    ·rw[sw (by intro z;injection z with z;exact c z)];obtain⟨NY,NZ,_⟩:=Jb hT.bd Nk L C Nr s (by unfold Gc;omega) c;have NS:=Kg hT (N0 c);have OG:=N0 c;refine v6 ⟨_,O,S.x,CS,S.dx,_,_,O,J.ob,X.aq,X.mz,O,_,O,S.a2,_,_,_,O,O,TW.of J.rides,lw (kB OM),?_⟩;refine⟨_,O,A.x,A.dx,_,O,Np.ob,O,_,O,A,o,m+1,e,O,Np,hT,NQ,by omega,λNj PL NO OL Ox Nz=>?_⟩;obtain⟨O4,TD,rfl,OA,NA⟩:=OL;have OB:gt CN Nj n N:=(NN.same NF).jq Nz;have NV:=xM hT e NA;obtain⟨NX,PK,Nq⟩:=jd hT.bd NA;have NM:Ev [A.n] H Nj:=Ny.tr Ox λb s=>.inl s;refine⟨_,O,_,O,S.x,CS,S.dx,_,_,O,Nz _ _ J.ob (λ_ z=>by cases z),X.aq,X.dv,O,_,O,S.a1,_,_,_,O,O,TW.of (Nz _ _ J.arr (λ_ z=>by cases z)),lw (int_at NU),_,O,λNm Nv ND O5 neg=>?_⟩;have sx:Tl Nj (T0 (T0 Nj Nv (.own Nm)) Nm (.ins CG Nv [])):=(Tl.new O5).tr (Tl.new (by rw[Uf (Ne.symm neg)];exact ND));refine⟨Nm,Nv,O4,y,SS.arr.getD y 0,SS.rides.getD y 0,TD,O,KE,OA.same λOi u q=>wv.mpr ⟨by simpa using v0 q ND,sx _ _ q⟩,NV,by rw[Nq];exact C,NS,λN9 Oz Oy=>⟨O,?_⟩⟩;have NG:Tl Nj N9:=λOi u q=>Oy _ _ (sx _ _ q) (by simpa using v0 q ND);have OP:∀Y,SInv TD (ge ((AT o e).map ut)) y (-(SS.arr.getD y 0)) Y (aW TD (b9 TD y (-(SS.arr.getD y 0))) Y):=by
      have PH: -1440<=SS.arr.getD y 0:=by
       obtain⟨OV,Pj,PM,Ov,Pl,_⟩:=NZ.fin;have:=kj hT.bd.right OV Ov;simp only at this;omega
      exact jz NX (kb NX (by rw[Nq];exact C) (by unfold Gc;omega))
     have Pa:∀Y,pp TD (aW TD (b9 TD y (-(SS.arr.getD y 0))) Y):=λY=>by
      rw[<- iv];exact fm (((e8 NV).au (by rw[Nq];exact C) _ _).bx (by rw[Nq];exact C) _) Y
     refine⟨_,O,_,O,_,O,_,O,_,O,n,Nm,N,TD,o,e,y,SS.arr.getD y 0,_,SS.rides.getD y 0,x,t,O,OB.same NG,Oz,hT,Nk,NA,OP,Pa,L,OK,NY,NZ,NS,λPh p O9 pre z left N2 D OH O7 NR ON OO=>?_⟩;obtain⟨l',Pb,Pc,Pd⟩:=Gn hT.bd.right NY NR ON OO;obtain⟨Pe,Pf⟩:=oA pre NR.at_;refine⟨_,O,p,g,O9,_,O,OH,O7,oy Nx,λr OJ=>yR _ _ r OJ,λN_ q O_ O6 OI=>?_⟩;have N1:=(NG.tr N2).tr O_;have OD:=NO.same N1;refine k N_ q (OD.more (by omega)) (NM.tr (N1.but []) λb s=>by simp at s) ?_ ?_
     ·exact gk NM ((NG.tr N2).free O6) λb s=>NO.there (by rw[ss.mp s];exact NW)
     ·rw[OI];have eq:fY g (d8 o e ⟨x,t,0⟩ pre)=bm (EQ o (.journey x y e t g)).1:=by
       simp only[EQ,hw,cU,aF,d2,OG,Pb];unfold fY;rw[Pf,Pe,Pd,Pc];by_cases NI:g<(pre.length:Int)
       ·rw[No NI,Ps (by omega)];rfl
       ·rw[Ps NI,No (by omega)];unfold bm;rw[Ps (by simp only;omega)]
      rw[eq]
abbrev iy:v1:=nb 61
abbrev tj:v1:=nb 62
abbrev ti:v1:=nb 63
structure nS (mg:Str->Option Wp):Prop where
 n1:aY mg "STOP" 1
 n2:aY mg "TRIP" 2
 n3:aY mg "WALK" 3
 n4:aY mg "LATE" 4
 n5:aY mg "EARLIEST" 5
 n6:aY mg "LATEST" 6
 n7:aY mg "FRONT" 7
 n8:aY mg "PROFILE" 8
 n9:aY mg "REACH" 9
 Hx:aY mg "JOURNEY" 10
def i' (p:Int) (l:List Int):Option b0:=if p=5 then h5 l else if p=6 then h8 l else if p=7 then h6 l else if p=8 then h9 l else if p=9 then h_ l else if p=10 then h7 l else h4 l
def rh (p:Int):Nat:=if p=5 then 4 else if p=6 then 4 else if p=7 then 5 else if p=8 then 6 else if p=9 then 4 else if p=10 then 5 else 4
def uv (CP CN:B):Sp:=λvs H Q _=>∃(A:PA) (T:Go) (m:Nat) (p:Int) (ns:B) (l:List Int) (c:b0),vs=[.ref A.x,.int p,.ref ns]/\H ns=some (.lst (l.map XV.int))/\l.length=rh p/\i' p l=some c/\em CP CN H A T m/\eI T/\m+2<=1000/\
 ∀(V:Hp) (a:B),em CP CN V A T (m+2)->Ev [A.n] H V->H a=none->V a=some (.lst ((bm (EQ T c).1).map XV.int))->Q (.ref a) V
theorem KD:pc ["plan","number","numbers"] ["plan","number","numbers"] (sB ti):=nl rfl rfl rfl (by decide +kernel)
theorem Ib {f:B}{fd:sc}(F:sn K "answer_asked" "answer_asked" ti f fd) (XV:nS mg)
  (Nz:Gf P w K mg base 7 "earliest" ["plan","start","goal","day","minute"] (cx CP CN h5 4)) (NA:Gf P w K mg base 7 "latest" ["plan","start","goal","day","minute"] (cx CP CN h8 4)) (NC:Gf P w K mg base 7 "front" ["plan","start","goal","day","minute","most"] (cx CP CN h6 5))
  (c8:Gf P w K mg base 7 "profile" ["plan","start","goal","day","first","last","most"] (cx CP CN h9 6)) (ND:Gf P w K mg base 7 "reach" ["plan","start","day","minute","most"] (cx CP CN h_ 4)) (Nx:Gf P w K mg base 7 "journey" ["plan","start","goal","day","minute","most"] (cx CP CN h7 5))
  (Ny:Gf P w K mg base 7 "board" ["plan","stop","day","minute","most"] (cx CP CN h4 4)):Db P w K mg base AC 8 f fd ["plan","number","numbers"] (uv CP CN):=by
 obtain⟨N5,NY,Y,Nq,g5,NN⟩:=Nz;obtain⟨N6,NZ,Nj,Nr,g6,NO⟩:=NA;obtain⟨N7,N0,Nk,Nu,NH,NQ⟩:=NC;obtain⟨N8,N1,Nl,Nv,NI,NR⟩:=c8;obtain⟨N9,N2,Nm,Nw,NK,NS⟩:=ND;obtain⟨N3,NW,T,Nn,NF,NL⟩:=Nx;obtain⟨N4,NX,U,Np,NG,NM⟩:=Ny;refine F.ok KD (λvs H Q E h=>?_) (λNV NU outer s0 H vs Q E hr h=>?_)
 ·obtain⟨A,n,m,p,ns,l,c,rfl,_⟩:=h;rfl
 ·obtain⟨A,n,m,p,ns,l,c,rfl,g,i,j,o,hT,hm,k⟩:=h;refine⟨_,On (kt (he cQ (I 1) (nm XV.n5 rfl) (lm _)) (FM (tz (ii Y hr rfl g5 NN Nq .nil wE (WF (I 0) (WF (Ch wT (I 2) Fa (λ_ _=>rfl)) (WF (Ch wT (I 2) Fa (λ_ _=>rfl)) (WF (Ch wT (I 2) Fa (λ_ _=>rfl)) (WF (Ch wT (I 2) Fa (λ_ _=>rfl)) PP)))))))) io)
   (On (kt (he cQ (I 1) (nm XV.n6 rfl) (lm _)) (FM (tz (ii Nj hr rfl g6 NO Nr .nil wE (WF (I 0) (WF (Ch wT (I 2) Fa (λ_ _=>rfl)) (WF (Ch wT (I 2) Fa (λ_ _=>rfl)) (WF (Ch wT (I 2) Fa (λ_ _=>rfl)) (WF (Ch wT (I 2) Fa (λ_ _=>rfl)) PP)))))))) io)
   (On (kt (he cQ (I 1) (nm XV.n7 rfl) (lm _)) (FM (tz (ii Nk hr rfl NH NQ Nu .nil wE (WF (I 0) (WF (Ch wT (I 2) Fa (λ_ _=>rfl)) (WF (Ch wT (I 2) Fa (λ_ _=>rfl)) (WF (Ch wT (I 2) Fa (λ_ _=>rfl)) (WF (Ch wT (I 2) Fa (λ_ _=>rfl)) (WF (Ch wT (I 2) Fa (λ_ _=>rfl)) PP))))))))) io)
   (On (kt (he cQ (I 1) (nm XV.n8 rfl) (lm _)) (FM (tz (ii Nl hr rfl NI NR Nv .nil wE (WF (I 0) (WF (Ch wT (I 2) Fa (λ_ _=>rfl)) (WF (Ch wT (I 2) Fa (λ_ _=>rfl)) (WF (Ch wT (I 2) Fa (λ_ _=>rfl)) (WF (Ch wT (I 2) Fa (λ_ _=>rfl)) (WF (Ch wT (I 2) Fa (λ_ _=>rfl)) (WF (Ch wT (I 2) Fa (λ_ _=>rfl)) PP)))))))))) io)
   (On (kt (he cQ (I 1) (nm XV.n9 rfl) (lm _)) (FM (tz (ii Nm hr rfl NK NS Nw .nil wE (WF (I 0) (WF (Ch wT (I 2) Fa (λ_ _=>rfl)) (WF (Ch wT (I 2) Fa (λ_ _=>rfl)) (WF (Ch wT (I 2) Fa (λ_ _=>rfl)) (WF (Ch wT (I 2) Fa (λ_ _=>rfl)) PP)))))))) io)
   (On (kt (he cQ (I 1) (nm XV.Hx rfl) (lm _)) (FM (tz (ii T hr rfl NF NL Nn .nil wE (WF (I 0) (WF (Ch wT (I 2) Fa (λ_ _=>rfl)) (WF (Ch wT (I 2) Fa (λ_ _=>rfl)) (WF (Ch wT (I 2) Fa (λ_ _=>rfl)) (WF (Ch wT (I 2) Fa (λ_ _=>rfl)) (WF (Ch wT (I 2) Fa (λ_ _=>rfl)) PP))))))))) io)
   (FM (tz (ii U hr rfl NG NM Np .nil wE (WF (I 0) (WF (Ch wT (I 2) Fa (λ_ _=>rfl)) (WF (Ch wT (I 2) Fa (λ_ _=>rfl)) (WF (Ch wT (I 2) Fa (λ_ _=>rfl)) (WF (Ch wT (I 2) Fa (λ_ _=>rfl)) PP))))))))))))),?_⟩
  unfold i' at j;unfold rh at i;refine⟨_,O,O,_,O,?_⟩;by_cases y:p=5
  ·rw[s2 (by rw[y])];rw[No y]at j i;obtain⟨q,r,s,u,rfl⟩:∃a b d t,l=[a,b,d,t]:=by match l,i with|[a,b,d,t],_=>exact⟨a,b,d,t,O⟩
   exact ww ⟨_,O,_,O,ns,_,_,_,O,O,TW.of g,O,_,O,ns,_,_,_,O,O,TW.of g,O,_,O,ns,_,_,_,O,O,TW.of g,O,_,O,ns,_,_,_,O,O,TW.of g,O,A,n,m,_,c,O,i,j,o,hT,hm,k⟩
  rw[sw (by intro z;injection z with z;exact y z)];rw[Ps y]at j i;refine v6 ⟨_,O,O,_,O,?_⟩;by_cases C:p=6
  ·rw[s2 (by rw[C])];rw[No C]at j i;obtain⟨q,r,s,u,rfl⟩:∃a b d t,l=[a,b,d,t]:=by match l,i with|[a,b,d,t],_=>exact⟨a,b,d,t,O⟩
   exact ww ⟨_,O,_,O,ns,_,_,_,O,O,TW.of g,O,_,O,ns,_,_,_,O,O,TW.of g,O,_,O,ns,_,_,_,O,O,TW.of g,O,_,O,ns,_,_,_,O,O,TW.of g,O,A,n,m,_,c,O,i,j,o,hT,hm,k⟩
  rw[sw (by intro z;injection z with z;exact C z)];rw[Ps C]at j i;refine v6 ⟨_,O,O,_,O,?_⟩;by_cases D:p=7
  ·rw[s2 (by rw[D])];rw[No D]at j i;obtain⟨q,r,s,u,N,rfl⟩:∃a b d t e,l=[a,b,d,t,e]:=by match l,i with|[a,b,d,t,e],_=>exact⟨a,b,d,t,e,O⟩
   exact ww ⟨_,O,_,O,ns,_,_,_,O,O,TW.of g,O,_,O,ns,_,_,_,O,O,TW.of g,O,_,O,ns,_,_,_,O,O,TW.of g,O,_,O,ns,_,_,_,O,O,TW.of g,O,_,O,ns,_,_,_,O,O,TW.of g,O,A,n,m,_,c,O,i,j,o,hT,hm,k⟩
  rw[sw (by intro z;injection z with z;exact D z)];rw[Ps D]at j i;refine v6 ⟨_,O,O,_,O,?_⟩;by_cases J:p=8
  ·rw[s2 (by rw[J])];rw[No J]at j i;obtain⟨q,r,s,u,N,N_,rfl⟩:∃a b d t e f,l=[a,b,d,t,e,f]:=by match l,i with|[a,b,d,t,e,f],_=>exact⟨a,b,d,t,e,f,O⟩
   exact ww ⟨_,O,_,O,ns,_,_,_,O,O,TW.of g,O,_,O,ns,_,_,_,O,O,TW.of g,O,_,O,ns,_,_,_,O,O,TW.of g,O,_,O,ns,_,_,_,O,O,TW.of g,O,_,O,ns,_,_,_,O,O,TW.of g,O,_,O,ns,_,_,_,O,O,TW.of g,O,A,n,m,_,c,O,i,j,o,hT,hm,k⟩
  rw[sw (by intro z;injection z with z;exact J z)];rw[Ps J]at j i;refine v6 ⟨_,O,O,_,O,?_⟩;by_cases L:p=9
  ·rw[s2 (by rw[L])];rw[No L]at j i;obtain⟨q,r,s,u,rfl⟩:∃a b d t,l=[a,b,d,t]:=by match l,i with|[a,b,d,t],_=>exact⟨a,b,d,t,O⟩
   exact ww ⟨_,O,_,O,ns,_,_,_,O,O,TW.of g,O,_,O,ns,_,_,_,O,O,TW.of g,O,_,O,ns,_,_,_,O,O,TW.of g,O,_,O,ns,_,_,_,O,O,TW.of g,O,A,n,m,_,c,O,i,j,o,hT,hm,k⟩
  rw[sw (by intro z;injection z with z;exact L z)];rw[Ps L]at j i;refine v6 ⟨_,O,O,_,O,?_⟩;by_cases x:p=10
  ·rw[s2 (by rw[x])];rw[No x]at j i;obtain⟨q,r,s,u,N,rfl⟩:∃a b d t e,l=[a,b,d,t,e]:=by match l,i with|[a,b,d,t,e],_=>exact⟨a,b,d,t,e,O⟩
   exact ww ⟨_,O,_,O,ns,_,_,_,O,O,TW.of g,O,_,O,ns,_,_,_,O,O,TW.of g,O,_,O,ns,_,_,_,O,O,TW.of g,O,_,O,ns,_,_,_,O,O,TW.of g,O,_,O,ns,_,_,_,O,O,TW.of g,O,A,n,m,_,c,O,i,j,o,hT,hm,k⟩
  rw[sw (by intro z;injection z with z;exact x z)];rw[Ps x]at j i;obtain⟨q,r,s,u,rfl⟩:∃a b d t,l=[a,b,d,t]:=by match l,i with|[a,b,d,t],_=>exact⟨a,b,d,t,O⟩
  exact v6 ⟨_,O,_,O,ns,_,_,_,O,O,TW.of g,O,_,O,ns,_,_,_,O,O,TW.of g,O,_,O,ns,_,_,_,O,O,TW.of g,O,_,O,ns,_,_,_,O,O,TW.of g,O,A,n,m,_,c,O,i,j,o,hT,hm,k⟩
def nU (l row:List Int):Option b0:=match l with
 |[d]=>some (.trip d (cA row) ((row.length:Int)/3))
 |_=>none
def jG (p:Int) (l row:List Int):Option b0:=if p=1 then j' l else if p=2 then nU l row else if p=3 then ka l else if p=4 then j_ l else i' p l
def u1 (p:Int):Nat:=if p=1 then 1 else if p=2 then 1 else if p=3 then 3 else if p=4 then 4 else rh p
def lN (d:Int) (row:List Int):Prop:=(∀z,z∈row->0<=z)/\((1<=d/\d<=127)/\(2<=(row.length:Int)/3/\(row.length:Int)/3<=64)->(row.length:Int)=3*((row.length:Int)/3))
theorem xl {a:wb}(h:a.out=[]):bm a=[a.code]:=by unfold bm;rw[h];split<;>rfl
section
variable {T:Go}
theorem zh {c:Int}:(EQ T (.halt c)).1.out=[]:=by(
simp only[EQ];split
·rfl
·split<;>rfl)
theorem zj {d n:Int}{l:List Nat}:(EQ T (.trip d l n)).1.out=[]:=by(
simp only[EQ];split
·rfl
·split
 ·rfl
 ·split<;>rfl)
theorem zk {a b m:Int}:(EQ T (.walk a b m)).1.out=[]:=by(
simp only[EQ];split
·rfl
·split<;>rfl)
theorem zi {p d i m:Int}:(EQ T (.late p d i m)).1.out=[]:=by
 simp only[EQ];split<;>rfl
theorem xr {p:Int}{l:List Int}{c:b0}(h:i' p l=some c):(EQ T c).2=T:=by(
unfold i' at h;have a:∀ {l c},h5 l=some c->(EQ T c).2=T:=λ{l c} h=>by
 unfold h5 at h;split at h
 ·cases h;simp only[EQ];split
  ·rfl
  ·split<;>rfl
 ·cases h
have b:∀ {l c},h8 l=some c->(EQ T c).2=T:=λ{l c} h=>by
 unfold h8 at h;split at h
 ·cases h;simp only[EQ];split
  ·rfl
  ·split<;>rfl
 ·cases h
have d:∀ {l c},h6 l=some c->(EQ T c).2=T:=λ{l c} h=>by
 unfold h6 at h;split at h
 ·cases h;simp only[EQ];split<;>rfl
 ·cases h
have e:∀ {l c},h9 l=some c->(EQ T c).2=T:=λ{l c} h=>by
 unfold h9 at h;split at h
 ·cases h;simp only[EQ];split<;>rfl
 ·cases h
have f:∀ {l c},h_ l=some c->(EQ T c).2=T:=λ{l c} h=>by
 unfold h_ at h;split at h
 ·cases h;simp only[EQ];split
  ·rfl
  ·split<;>rfl
 ·cases h
have g:∀ {l c},h7 l=some c->(EQ T c).2=T:=λ{l c} h=>by
 unfold h7 at h;split at h
 ·cases h;simp only[EQ];split
  ·rfl
  ·split
   ·rfl
   ·split
    ·split<;>rfl
    ·rfl
 ·cases h
have i:∀ {l c},h4 l=some c->(EQ T c).2=T:=λ{l c} h=>by
 unfold h4 at h;split at h
 ·cases h;simp only[EQ];split<;>rfl
 ·cases h
split at h
·exact a h
·split at h
 ·exact b h
 ·split at h
  ·exact d h
  ·split at h
   ·exact e h
   ·split at h
    ·exact f h
    ·split at h
     ·exact g h
     ·exact i h)
theorem eI.does (hT:eI T) {p:Int}{l row:List Int}{c:b0}(h:jG p l row=some c) (hr:p=2->∀d,l=[d]->lN d row):eI (EQ T c).2:=by(
unfold jG at h;split at h
·unfold j' at h;split at h
 ·cases h;simp only[EQ];split
  ·exact hT
  ·next h1=>
   split
   ·exact hT
   ·next h2=>
    have:=hT.sz.stops;refine⟨Le hT.bd (by simpa using h1),⟨by show(T.stops++_).length<=256;rw[lv,bz];omega,hT.sz.trips,hT.sz.walks,hT.sz.late⟩,hT.je⟩
 ·cases h
·split at h
 ·next o=>
  unfold nU at h;split at h
  ·next d=>
   cases h;obtain⟨s,t⟩:=hr o d rfl;simp only[EQ];split
   ·exact hT
   ·next h1=>
    split
    ·exact hT
    ·next h2=>
     split
     ·exact hT
     ·next r=>
      have h1:(u8 d 1 127&&u8 ((row.length:Int)/3) 2 64)=true:=by simpa using h1
      unfold u8 at h1;simp only[ga,f4]at h1;have f:=xT (cA row);have hn:(cA row).length=row.length:=by unfold cA;rw[FS]
      rw[hn]at f;have:=hT.sz.trips;refine⟨LC hT.bd (by rw[f];omega) (by simpa using h2),⟨hT.sz.stops,by show(T.trips++_).length<=1024;rw[lv,bz];omega,hT.sz.walks,λq e=>?_⟩,λq e=>?_⟩
      ·rcases f1.mp e with e|e
       ·exact hT.sz.late q e
       ·rw[ss.mp e];simp
      ·rcases f1.mp e with e|e
       ·exact hT.je q e
       ·rw[ss.mp e];show(fC (cA row)).length<=64;rw[f];omega
  ·cases h
 ·split at h
  ·unfold ka at h;split at h
   ·cases h;simp only[EQ];split
    ·exact hT
    ·next h1=>
     split
     ·exact hT
     ·next h2=>
      rename_i a b m;have h1:(eF T a&&(eF T b&&u8 m 0 240))=true:=by simpa using h1
      unfold eF u8 at h1;simp only[ga,f4]at h1;have:=hT.sz.walks;refine⟨LX hT.bd (by omega) (by omega) (by omega),⟨hT.sz.stops,hT.sz.trips,by show(T.walks++_).length<=4096;rw[lv,bz];omega,hT.sz.late⟩,hT.je⟩
   ·cases h
  ·split at h
   ·unfold j_ at h;split at h
    ·cases h;simp only[EQ];split
     ·exact hT
     ·next h1=>
      rename_i g d i m;have h1:(u8 g 0 ((T.trips.length:Int)-1)&&(u8 d 0 6&&(u8 i 0 63&&u8 m 0 240)))=true:=by simpa using h1
      unfold u8 at h1;simp only[ga,f4]at h1;have bd:=G6 hT.bd (n:=g.toNat) (d:=d.toNat) (i:=i.toNat) (m:=m.toNat) (by omega) (by omega);refine⟨bd,⟨hT.sz.stops,by rw[vl];exact hT.sz.trips,hT.sz.walks,λq e=>(bd.late q e).1⟩,λq e=>?_⟩;rw[Br]at e;obtain⟨k,j,rfl⟩:=e;have:=hT.je _ (eH j);split<;>exact this
    ·cases h
   ·rw[xr h];exact hT)
end
def uu (CP CN:B):Sp:=λvs H Q _=>∃(A:PA) (T:Go) (m:Nat) (p:Int) (ns b:B) (l row:List Int) (c:b0),vs=[.ref A.x,.int p,.ref ns,.ref b]/\H ns=some (.lst (l.map XV.int))/\H b=some (.lst (row.map XV.int))/\l.length=u1 p/\jG p l row=some c/\(p=2->∀d,l=[d]->lN d row)/\em CP CN H A T m/\eI T/\m+2<=1000/\
 ∀(V:Hp) (a:B),em CP CN V A (EQ T c).2 (m+2)->Ev A.own H V->H a=none->V a=some (.lst ((bm (EQ T c).1).map XV.int))->Q (.ref a) V
theorem KA:pc ["plan","number","numbers","row"] ["plan","number","numbers","row"] (sB tj):=nl rfl rfl rfl (by decide +kernel)
theorem H_ {f:B}{fd:sc}(F:sn K "answer_of" "answer_of" tj f fd) (T:bM K mg CP) (Y:nS mg)
  (c1:Gm P w K mg base 1 CP "add_stop" ["self","change"] (hx CP CN j' 1)) (c2:Gm P w K mg base 2 CP "add_trip" ["self","days","calls"] (uO CP CN)) (c3:Gm P w K mg base 2 CP "add_walk" ["self","start","goal","minutes"] (hx CP CN ka 3)) (c4:Gm P w K mg base 2 CP "tell_late" ["self","trip","day","call","minutes"] (hx CP CN j_ 4))
  (Ny:Gf P w K mg base 8 "answer_asked" ["plan","number","numbers"] (uv CP CN)):Db P w K mg base AC 9 f fd ["plan","number","numbers","row"] (uu CP CN):=by(
obtain⟨NY,NS,Nl,Nr,m1⟩:=c1;obtain⟨NZ,NU,Nm,Nu,m2⟩:=c2;obtain⟨N0,NV,Nn,Nv,m3⟩:=c3;obtain⟨N1,NW,Np,Nw,NI⟩:=c4;obtain⟨N2,NX,Nq,Nx,g5,NH⟩:=Ny;refine F.ok KA (λvs H Q E h=>?_) (λNR NQ outer s0 H vs Q E hr h=>?_)
·obtain⟨A,j,m,p,ns,Nk,l,row,c,rfl,_⟩:=h;rfl
·obtain⟨A,j,m,p,ns,Nk,l,row,c,rfl,s,NF,i,g,NG,y,hT,hm,k⟩:=h;refine⟨_,On (kt (he cQ (I 1) (nm Y.n1 rfl) (lm _)) (FM (tz (f2 (WF (an (I 0) T.cl m1 Nl (hr.mono) Nr .nil wE (WF (Ch wT (I 2) Fa (λ_ _=>rfl)) PP)) PP)))) io)
  (On (kt (he cQ (I 1) (nm Y.n2 rfl) (lm _)) (FM (tz (f2 (WF (an (I 0) T.cl m2 Nm (hr.mono) Nu .nil wE (WF (Ch wT (I 2) Fa (λ_ _=>rfl)) (WF (I 3) PP))) PP)))) io)
  (On (kt (he cQ (I 1) (nm Y.n3 rfl) (lm _)) (FM (tz (f2 (WF (an (I 0) T.cl m3 Nn (hr.mono) Nv .nil wE (WF (Ch wT (I 2) Fa (λ_ _=>rfl)) (WF (Ch wT (I 2) Fa (λ_ _=>rfl)) (WF (Ch wT (I 2) Fa (λ_ _=>rfl)) PP)))) PP)))) io)
  (On (kt (he cQ (I 1) (nm Y.n4 rfl) (lm _)) (FM (tz (f2 (WF (an (I 0) T.cl NI Np (hr.mono) Nw .nil wE (WF (Ch wT (I 2) Fa (λ_ _=>rfl)) (WF (Ch wT (I 2) Fa (λ_ _=>rfl)) (WF (Ch wT (I 2) Fa (λ_ _=>rfl)) (WF (Ch wT (I 2) Fa (λ_ _=>rfl)) PP))))) PP)))) io)
  (FM (tz (ii Nq hr rfl g5 NH Nx .nil wE (WF (I 0) (WF (I 1) (WF (I 2) PP))))))))),?_⟩
 have fin:(EQ j c).1.out=[]->∀H1,em CP CN H1 A (EQ j c).2 (m+1)->Ev A.own H H1->∀q,H1 q=none->Q (.ref q) (T0 H1 q (.lst [XV.int (EQ j c).1.code])):=λu H1 r n q Nj=>by
  refine k _ q ((r.same (Tl.new Nj)).more (by omega)) (n.new Nj) (gk n Nj λb U=>r.there U) ?_;rw[KE,xl u];rfl
 unfold jG at g;unfold u1 at i;refine⟨_,O,O,_,O,?_⟩;by_cases J:p=1
 ·rw[s2 (by rw[J])];rw[No J]at g i;obtain⟨C,rfl⟩:∃a,l=[a]:=by match l,i with|[a],_=>exact⟨a,O⟩
  have u:(EQ j c).1.out=[]:=by cases g;exact zh
  exact ww ⟨_,O,A.x,A.dx,_,O,y.ob,O,_,O,ns,_,_,_,O,O,TW.of s,O,A,j,m,_,c,O,i,g,y,hT.sz,by omega,λH1 r n=>⟨by show 1<=Is;decide,fin u H1 r n⟩⟩
 rw[sw (by intro z;injection z with z;exact J z)];rw[Ps J]at g i;refine v6 ⟨_,O,O,_,O,?_⟩;by_cases D:p=2
 ·rw[s2 (by rw[D])];rw[No D]at g i;obtain⟨C,rfl⟩:∃a,l=[a]:=by match l,i with|[a],_=>exact⟨a,O⟩
  have u:(EQ j c).1.out=[]:=by cases g;exact zj
  obtain⟨NL,NM⟩:=NG D C rfl;have Nz:c=.trip C (cA row) ((row.length:Int)/3):=by unfold nU at g;cases g;rfl
  rw[Nz]at fin u;exact ww ⟨_,O,A.x,A.dx,_,O,y.ob,O,_,O,ns,_,_,_,O,O,TW.of s,O,_,O,A,j,m,C,Nk,row,O,NF,NL,NM,y,hT.sz,by omega,λH1 r n=>⟨by show 1<=Is;decide,fin u H1 r n⟩⟩
 rw[sw (by intro z;injection z with z;exact D z)];rw[Ps D]at g i;refine v6 ⟨_,O,O,_,O,?_⟩;by_cases L:p=3
 ·rw[s2 (by rw[L])];rw[No L]at g i;obtain⟨C,NN,NO,rfl⟩:∃a b d,l=[a,b,d]:=by match l,i with|[a,b,d],_=>exact⟨a,b,d,O⟩
  have u:(EQ j c).1.out=[]:=by cases g;exact zk
  exact ww ⟨_,O,A.x,A.dx,_,O,y.ob,O,_,O,ns,_,_,_,O,O,TW.of s,O,_,O,ns,_,_,_,O,O,TW.of s,O,_,O,ns,_,_,_,O,O,TW.of s,O,A,j,m,_,c,O,i,g,y,hT.sz,by omega,λH1 r n=>⟨by show 1<=Is;decide,fin u H1 r n⟩⟩
 rw[sw (by intro z;injection z with z;exact L z)];rw[Ps L]at g i;refine v6 ⟨_,O,O,_,O,?_⟩;by_cases N:p=4
 ·rw[s2 (by rw[N])];rw[No N]at g i;obtain⟨C,NN,NO,N3,rfl⟩:∃a b d t,l=[a,b,d,t]:=by match l,i with|[a,b,d,t],_=>exact⟨a,b,d,t,O⟩
  have u:(EQ j c).1.out=[]:=by cases g;exact zi
  exact ww ⟨_,O,A.x,A.dx,_,O,y.ob,O,_,O,ns,_,_,_,O,O,TW.of s,O,_,O,ns,_,_,_,O,O,TW.of s,O,_,O,ns,_,_,_,O,O,TW.of s,O,_,O,ns,_,_,_,O,O,TW.of s,O,A,j,m,_,c,O,i,g,y,hT.sz,by omega,λH1 r n=>⟨by show 1<=Is;decide,fin u H1 r n⟩⟩
 rw[sw (by intro z;injection z with z;exact N z)];rw[Ps N]at g i;refine v6 ⟨_,O,_,O,_,O,A,j,m,p,ns,l,c,O,s,i,g,y,hT,hm,λV a NC NA NK ND=>k V a (by rw[xr g];exact NC) (λb o e U=>NA b o e λz=>U (by rw[ss.mp z];simp[PA.own])) NK ND⟩)
end Dv
namespace L2
open PySem PySem.Spec PyProof.Rows
def lW (e:eC):Option (Int×Int×Int):=match e.key,e.val with
 |.int k _,.int v _=>some (e.hash,k,v)
 |_,_=>none
theorem EW {e:eC}{h k v:Int}(q:lW e=some (h,k,v)):e.hash=h/\∃t u,e.key=.int k t/\e.val=.int v u:=by(
unfold lW at q;split at q
·next t u h1 h2=>cases q;exact⟨O,_,_,h1,h2⟩
·cases q)
def lF (K:xz) (wd:B) (a:List (Int×Int)):Prop:=∃o es ep,K.lookup wd=some o/\o.ExactDict/\o.data=.dict es ep/\es.toList.map lW=a.map λx=>some (x.1,x.1,x.2)
theorem AY {P:pu}{w:rs}:∀ {es:List eC}{b:List (Int×Int)},es.map lW=(b.map λx=>some (x.1,x.1,x.2))->(∀x,x∈b->vQ x.1=x.1)->
  ∃UF:List (wS×Wp),Pairs (b5 P w) es UF/\UF.map (·.1)=(b.map λx=>(it x.1:wS))/\(∀e,e∈es->∃k,(b5 P w).is k e.key=true/\e.hash=(b5 P w).hash k)/\∀p n,b.lookup p=some n->∃t,hF UF (it p:wS)=some (.int n t)
 |[],[],_,_=>⟨[],.nil,O,λe r=>by simp at r,λp n h=>by cases h⟩
 |[],_::_,h,_=>by cases h
 |_::_,[],h,_=>by cases h
 |e::es,(k,v)::b,h,f=>by
  rw[na,na]at h;injection h with h1 h2;obtain⟨UF,y,p2,A,C⟩:=AY (P:=P) (w:=w) h2 λx s=>f x (on _ s);obtain⟨m,t,u,o,q⟩:=EW h1;have g:(b5 P w).is (it k:wS) e.key=true:=by rw[o];exact il (k:=it k) ⟨t,O⟩
  refine⟨(it k,e.val)::UF,.cons g rfl y,by rw[na,na,p2],λl d=>?_,λp n a=>?_⟩
  ·rcases s1.mp d with rfl|d
   ·exact⟨_,g,by rw[m];exact(f (k,v) (lc ..)).symm⟩
   ·exact A l d
  ·unfold hF;rw[j2];rw[iZ]at a;by_cases c:p=k
   ·subst c;simp only[beq_self_eq_true]at a;cases a;simp only[decide_true,hM];exact⟨u,by rw[q]⟩
   ·have i:(p==k)=false:=by simpa using c
    rw[i]at a;have j:decide ((it k:wS)=it p)=false:=sw λz=>c (by injection z with z;exact z.symm);simp only[j];exact C p n a
def Lx (a:List (Int×Int)) (ty:TE):TE:=λZB H Q=>ty ZB H λy H1=>∃p n,y=.int p/\a.lookup p=some n/\Q (.int n) H1
theorem Jz {X:Cx}{x:Str}{i:ws}{ty:TE}{p pos:Pos}{wd:B}{a:List (Int×Int)}(hm:X.mg x=some (.ref wd)) (hg:Gl X x) (hd:lF X.K wd a) (m:∀x,x∈a->vQ x.1=x.1) (hn:(a.map λx=>(it x.1:wS)).Nodup) (hi:PE X i ty) (u:q8 i) (j:(x==("__debug__":Str))=false:=by decide):PE X (.Subscript (.Name x p) i pos) (Lx a ty):=by
 intro WP s ZB H Q W1 h;refine Ap Cp.lookup u (l8 W1 hg hm ?_ j);refine xL (hi WP s ZB H _ W1 h) λN L ⟨y,H2,b,J,k,n,d,q,E⟩=>?_;subst d;obtain⟨o,es,ep,h1,h2,f,g⟩:=hd;obtain⟨UF,A,p2,C,D⟩:=AY (P:=X.prog) (w:=X.w) g m;have r:=b.dM wd o h1;have c:L.heap.DictOf (b5 X.prog X.w) wd UF:=⟨o,es,ep,r,h2,f,λe l=>C e (by simpa using l),A,by rw[p2];exact hn⟩;obtain⟨t,z⟩:=D k n q;exact⟨c.mapOf.typeIs,BN (il (k:=it k) J) c.mapOf z ⟨.int n,H2,b.tok _,⟨t,O⟩,E⟩⟩
end L2
namespace Dv
open PySem L2 Tw
variable {P:pu}{w:rs}{K:xz}{mg:Str->Option Wp}{base:wn}{CP CN CS CL CG:B}
theorem yn {k:Nat}(L:List (List Int)) (h:∀r,r∈L->r.length<=k):L.flatten.length<=k*L.length:=by
 rw[Bi];exact mK cm k L h
theorem lV:∀(l:List (Nat×Option Int)) (m:Option Int) (r:List Int),r∈f7 m l->r.length<=5
 |[],m,r,h=>by simp[f7]at h
 |(k,x)::l,m,r,h=>by
  unfold f7 at h;split at h
  ·split at h
   ·rcases s1.mp h with rfl|h
    ·simp
    ·exact lV l _ r h
   ·exact lV l _ r h
  ·rcases s1.mp h with rfl|h
   ·simp
   ·exact lV l _ r h
  ·exact lV l _ r h
theorem AG {T:Go}{M:Nat}:∀(l:List m5) (x:jS),(ci T M x l).length<=5*l.length
 |[],x=>by simp[ci]
 |c::l,x=>by
  unfold ci;rw[lv,bh];have h1:(bK T M x c).length<=5:=by
   unfold bK;split
   ·split<;>simp
   ·split<;>simp
  cases q:we T M x c with
  |none=>simp only[j1];omega
  |some y=>
   have:=AG (T:=T) (M:=M) l y;simp only;omega
theorem FV {T:Go}{h M:Nat}{t:Int}:∀r,r∈qA T h M t->r.length<=5:=λr hr=>by
 unfold qA at hr;rw[Bj]at hr;obtain⟨x,_,hr⟩:=e3.mp hr;obtain⟨k,_,hr⟩:=e3.mp hr;split at hr
 ·simp at hr
 ·obtain⟨i,_,hi⟩:=nE.mp hr;split at hi
  ·cases hi;simp
  ·cases hi
theorem zT {room:Int}{L:List (List Int)}(hr:room<=4096) (h:∀r,r∈L->r.length<=5):(bm (la room L)).length<=20481:=by(
unfold bm la;split
·next c=>
 have:=yn L h;simp only[bh];split
 ·simp
 ·omega
·simp[bC])
theorem eV (n:Int):(bm (bC n)).length<=20481:=by
 unfold bm bC;simp
theorem p0 {a b c:Int}(h:u8 a b c=true):b<=a/\a<=c:=by unfold u8 at h;simpa using h
theorem D8 {T:Go}(hT:eI T) {p:Int}{l:List Int}{c:b0}(h:i' p l=some c):(bm (EQ T c).1).length<=20481:=by(
have two:∀(x y:Int),(bm ⟨0,[x,y]⟩).length<=20481:=λx y=>by simp[bm]
have a:∀ {l c},h5 l=some c->(bm (EQ T c).1).length<=20481:=λ{l c} h=>by
 unfold h5 at h;split at h
 ·cases h;simp only[EQ];split
  ·exact eV _
  ·split
   ·exact two _ _
   ·exact eV _
 ·cases h
have b:∀ {l c},h8 l=some c->(bm (EQ T c).1).length<=20481:=λ{l c} h=>by
 unfold h8 at h;split at h
 ·cases h;simp only[EQ];split
  ·exact eV _
  ·split
   ·exact two _ _
   ·exact eV _
 ·cases h
have d:∀ {l c},h6 l=some c->(bm (EQ T c).1).length<=20481:=λ{l c} h=>by
 unfold h6 at h;split at h
 ·cases h;simp only[EQ];split
  ·exact eV _
  ·next hw=>
   have hw:=qF _ |>.resolve_right hw;rw[ga]at hw;exact zT (p0 hw.2).2 λr hr=>lV _ _ r hr
 ·cases h
have e:∀ {l c},h9 l=some c->(bm (EQ T c).1).length<=20481:=λ{l c} h=>by
 unfold h9 at h;split at h
 ·cases h;simp only[EQ];split
  ·exact eV _
  ·next hw=>
   have hw:=qF _ |>.resolve_right hw;rw[ga,ga]at hw;refine zT (p0 hw.2.2).2 λr hr=>?_;obtain⟨i,_,hi⟩:=nE.mp hr;split at hi
   ·split at hi
    ·cases hi;simp
    ·cases hi
   ·cases hi;simp
   ·cases hi
 ·cases h
have f:∀ {l c},h_ l=some c->(bm (EQ T c).1).length<=20481:=λ{l c} h=>by
 unfold h_ at h;split at h
 ·cases h;simp only[EQ];split
  ·exact eV _
  ·split
   ·exact eV _
   ·have:=hT.sz.stops;unfold bm;simp only[bh];split
    ·simp
    ·rw[FS,fH];omega
 ·cases h
have g:∀ {l c},h7 l=some c->(bm (EQ T c).1).length<=20481:=λ{l c} h=>by
 unfold h7 at h;split at h
 ·cases h;simp only[EQ];split
  ·exact eV _
  ·next hw=>
   have hw:=qF _ |>.resolve_right hw;rw[ga]at hw;have m:=(p0 hw.2).2;split
   ·exact eV _
   ·split
    ·next l' _=>
     split
     ·exact eV _
     ·next n=>
      unfold bm;simp only[bh];split
      ·simp
      ·refine dg (Cn (AG l' _)) ?_;omega
    ·exact eV _
 ·cases h
have j:∀ {l c},h4 l=some c->(bm (EQ T c).1).length<=20481:=λ{l c} h=>by
 unfold h4 at h;split at h
 ·cases h;simp only[EQ];split
  ·exact eV _
  ·next hw=>
   have hw:=qF _ |>.resolve_right hw;rw[ga]at hw;have m:=p0 hw.2;unfold bm;simp only[bh];split
   ·simp
   ·refine dg (Cn (yn (k:=5) _ λr hr=>FV r (nA hr))) ?_;rw[aK];omega
 ·cases h
unfold i' at h;split at h
·exact a h
·split at h
 ·exact b h
 ·split at h
  ·exact d h
  ·split at h
   ·exact e h
   ·split at h
    ·exact f h
    ·split at h
     ·exact g h
     ·exact j h)
theorem xm {T:Go}(hT:eI T) {p:Int}{l row:List Int}{c:b0}(h:jG p l row=some c):(bm (EQ T c).1).length<=20481:=by(
have one:∀ {a:wb},a.out=[]->(bm a).length<=20481:=λb=>by rw[xl b];simp
unfold jG at h;split at h
·unfold j' at h;split at h
 ·cases h;exact one zh
 ·cases h
·split at h
 ·unfold nU at h;split at h
  ·cases h;exact one zj
  ·cases h
 ·split at h
  ·unfold ka at h;split at h
   ·cases h;exact one zk
   ·cases h
  ·split at h
   ·unfold j_ at h;split at h
    ·cases h;exact one zi
    ·cases h
   ·exact D8 hT h)
def pZ:List (Int×Int):=[(1,1),(2,1),(3,3),(4,4),(5,4),(6,4),(7,5),(8,6),(9,4),(10,5),(11,4)]
theorem LB {p:Int}{n k:Nat}{l row:List Int}{xs:List (List Int)}(h:fI p=some (n,k)) (g:l.length=n) (h0:k=0->xs=[]) (h1:k=1->xs=[row]):
  ∃x,jG p l row=some x/\CM (lq ((p::l)::xs))=some x/\u1 p=n/\pZ.lookup p=some (n:Int)/\(k=1↔p=2):=by(
rcases Ad h with⟨rfl,rfl,rfl⟩|⟨rfl,rfl,rfl⟩|⟨rfl,rfl,rfl⟩|⟨rfl,rfl,rfl⟩|⟨rfl,rfl,rfl⟩|⟨rfl,rfl,rfl⟩|⟨rfl,rfl,rfl⟩|⟨rfl,rfl,rfl⟩|⟨rfl,rfl,rfl⟩|⟨rfl,rfl,rfl⟩|⟨rfl,rfl,rfl⟩
·rw[h0 rfl];match l,g with|[a],_=>exact⟨_,O,O,O,O,by decide⟩
·rw[h1 rfl];match l,g with|[a],_=>exact⟨_,O,O,O,O,by decide⟩
·rw[h0 rfl];match l,g with|[a,b,c],_=>exact⟨_,O,O,O,O,by decide⟩
·rw[h0 rfl];match l,g with|[a,b,c,d],_=>exact⟨_,O,O,O,O,by decide⟩
·rw[h0 rfl];match l,g with|[a,b,c,d],_=>exact⟨_,O,O,O,O,by decide⟩
·rw[h0 rfl];match l,g with|[a,b,c,d],_=>exact⟨_,O,O,O,O,by decide⟩
·rw[h0 rfl];match l,g with|[a,b,c,d,e],_=>exact⟨_,O,O,O,O,by decide⟩
·rw[h0 rfl];match l,g with|[a,b,c,d,e,f],_=>exact⟨_,O,O,O,O,by decide⟩
·rw[h0 rfl];match l,g with|[a,b,c,d],_=>exact⟨_,O,O,O,O,by decide⟩
·rw[h0 rfl];match l,g with|[a,b,c,d,e],_=>exact⟨_,O,O,O,O,by decide⟩
·rw[h0 rfl];match l,g with|[a,b,c,d],_=>exact⟨_,O,O,O,O,by decide⟩)
theorem Al {T:Go}{c:List (List Int)}{x:b0}(h:CM c=some x):lj T c=((EQ T x).2,bm (EQ T x).1):=by
 unfold lj;rw[h];rfl
theorem Kk {d:Int}{row:List Int}(h:wy (lq [[2,d],row])=true):lN d row:=by(
have h:(CJ d&&(CJ ((row.length:Int)/3)&&(row.all (λ(z:Int)=>CK z 16)&&decide ((row.length:Int)=if(1<=d/\d<=127)/\(2<=(row.length:Int)/3/\(row.length:Int)/3<=64)then 3*((row.length:Int)/3)else 0))))=true:=h;simp only[ga,gS,f4]at h;obtain⟨_,_,b,a⟩:=h;refine⟨λz hz=>?_,λc=>?_⟩
·have:=b z hz;unfold CK at this;simp only[ga,f4]at this;exact this.1
·rw[No c]at a;exact a)
theorem x4 (xs:List XV) {i j:Nat}(h:j<=xs.length) (a:i<=j):el xs (some (i:Int)) (some (j:Int))=(xs.drop i).take (j-i):=by
 unfold el;rw[HT.o8,HT.o8,jT h,jT (by omega)]
def px (K:xz):Sp:=λvs H Q _=>∃(a:B) (ns:List Int),vs=[.ref a]/\TW K H a (ns.map XV.int)/\ns.length<=30000/\wJ ns=true/\∀(V:Hp) (l:B),V l=some (.lst ((qU ns).map XV.int))->Q (.ref l) V
theorem fo:pc ["calls","plan","told","place","number","behind","numbers","row","answer"] ["calls"] (sB iy):=nl rfl rfl rfl (by decide +kernel)
theorem yb {ns:List Int}{pl:Nat}{p:Int}{r:List Int}(h:ns.drop pl=p::r):ns[pl]?=some p/\ns.drop (pl+1)=r/\pl<ns.length:=by(
have a:pl<ns.length:=by
 apply Dj;intro c;rw[vg (by omega)]at h;cases h
rw[w6 a]at h;injection h with h1 h2;exact⟨by rw[im a,h1],h2,a⟩)
def eJ (H V:Hp):Prop:=∀b o,H b=some o->(∀x u,o≠HO.av x u)->V b=some o
theorem eJ.hide {l:List B}{H V:Hp}(h:eJ H V):eJ (hide l H) (hide l V):=λb o e m=>let ⟨a,c⟩:=wv.mp e;wv.mpr ⟨a,h b o c m⟩
theorem eJ.drop {H:Hp}{q:B}{o:Obj}{u:HO}(h:H q=some (.av o u)):eJ H (L2.hide [q] H):=λb o' e m=>wv.mpr ⟨(λz=>by rw[ss.mp z,h]at e;exact m _ _ (bT e).symm),e⟩
section
variable {G G':Hp}
theorem eJ.l (s:eJ G G') {b:B}{l:List XV}(e:G b=some (.lst l)):G' b=some (.lst l):=s _ _ e λ_ _ z=>by cases z
theorem eJ.t (s:eJ G G') {v:XV}{l:List XV}(e:TupAt G v l):TupAt G' v l:=let ⟨a,b,c⟩:=e;⟨a,b,s _ _ c λ_ _ z=>by cases z⟩
theorem gt.mf {CN:B}{n:B}{N:Nt}(s:eJ G G') (h:gt CN G n N):gt CN G' n N:=by
 obtain⟨k,c,r,o,d,f,J,os,ds,fs,h1,h2,p,u,y,A,C,D,E,m⟩:=h.ex;have j:∀ {v:XV}{l:List XV},LstAt G v l->LstAt G' v l:=λ⟨a,e,q⟩=>⟨a,e,s.l q⟩;exact⟨k,c,r,o,d,f,J,os,ds,fs,s _ _ h1 (λ_ _ z=>by cases z),s.l h2,s.l p,aj (λv x ⟨a,b,g,i,H⟩=>⟨a,b,s.t g,s.l i,s.l H⟩) u,s.l y,aj (λv x ⟨es,g,i⟩=>⟨es,j g,aj (λ_ _ q=>s.t q) i⟩) A,s.l C,aj (λv x ⟨es,g,i⟩=>⟨es,j g,aj (λ_ _ q=>s.t q) i⟩) D,s.l E,aj (λ_ _ q=>s.t q) m⟩
theorem em.mf {CP CN:B}{A:PA}{T:Go}{m:Nat}(s:eJ G G') (h:em CP CN G A T m):em CP CN G' A T m:=by(
have f:=s.hide (l:=A.own);obtain⟨ts,E,H⟩:=h.trips;obtain⟨Q,J,L⟩:=h.walks;obtain⟨lk,h1,h2,n⟩:=h.late;obtain⟨C,x,y,o⟩:=h.bb;refine⟨h.nd,s _ _ h.ob (λ_ _ z=>by cases z),s.l h.chg,⟨ts,s.l E,aj (λ_ _ ⟨a,b,c,g,j,k,D⟩=>⟨a,b,c,f.t g,f.l j,f.l k,f.l D⟩) H⟩,⟨Q,s.l J,aj (λ_ _ q=>f.t q) L⟩,⟨lk,s _ _ h1 (λ_ _ z=>by cases z),h2,λi d p r u=>?_,n.no⟩,⟨C,s _ _ x (λ_ _ z=>by cases z),y,λd hd=>⟨λv e=>let ⟨a,N,g,j,k⟩:=(o d hd).1 v e;⟨a,N,g,j.mf s,k⟩,λv e=>let ⟨a,N,g,j,k⟩:=(o d hd).2 v e;⟨a,N,g,j.mf s,k⟩⟩⟩⟩;have:=n.at_ i d p r u;unfold i5 at this⊢;cases q:jp lk (d9 i d)with
|none=>rw[q]at this;exact this
|some v=>rw[q]at this;exact f.t this)
end
theorem H' {f Oh wd:B}{fd Oi:sc}(F:sn K "answers" "answers" iy f fd) (T:bM K mg CP) (Y:nS mg) (Pa:mg "Plan"=some (.ref CP)) (TD:Mk K CP Oh) (OH:Db P w K mg base AC 1 Oh Oi ["self"] (uL CP CN)) (OK:Binds K Oi ["self"] [])
  (Pb:mg "WIDTHS"=some (.ref wd)) (OU:lF K wd pZ) (OL:Gf P w K mg base 9 "answer_of" ["plan","number","numbers","row"] (uu CP CN)):Db P w K mg base AC 10 f fd ["calls"] (px K):=by
 obtain⟨Pk,Pl,OG,OJ,O_,O7⟩:=OL;refine F.ok fo (λvs H Q E h=>?_) (λPh Pg outer s0 H vs Q E hr h=>?_)
 ·obtain⟨a,ns,rfl,_⟩:=h;rfl
 ·obtain⟨a,ns,rfl,OV,Po,OX,k⟩:=h;refine⟨_,On (tt (i:=1) fo.nd rfl (IN rfl) (Jw TD OH (hr.mono) rfl Pa OK .nil wE))
   (On (tt (i:=2) fo.nd rfl (IN rfl) (f2 PP))
   (On (tt (i:=3) fo.nd rfl (IN rfl) Fa)
   (On (kK bD (he dO (I 3) (aV bV (by rfl) T.len bR (WF (I 0) PP)) (lm _))
    (On (tt (i:=4) fo.nd rfl (IN rfl) (Ch wT (I 0) (I 3) (λ_ _=>rfl)))
    (On (tt (i:=5) fo.nd rfl (IN rfl) (kw bu (kw bu (I 3) Fa) (Jz Pb rfl OU (by decide) (by decide) (I 4) (λ_ _=>rfl))))
    (On (tt (i:=6) fo.nd rfl (IN rfl) (mq mG (I 0) (dQ (kw bu (I 3) Fa)) (dQ (I 5))))
    (On (tt (i:=7) fo.nd rfl (IN rfl) (f2 PP))
    (On (kt (he cQ (I 4) (nm Y.n2 rfl) (lm _))
     (On (tt (i:=7) fo.nd rfl (IN rfl) (mq mG (I 0) (dQ (kw bu (I 5) Fa)) (dQ (kw bu (kw bu (I 5) Fa) (Ch wT (I 0) (I 5) (λ_ _=>rfl))))))
     (FM (tt (i:=5) fo.nd rfl (IN rfl) (kw bu (kw bu (I 5) Fa) (aV bV (by rfl) T.len bR (WF (I 7) PP)))))) io)
    (On (sL (tt (i:=8) fo.nd rfl (IN rfl) (ii OG hr rfl O_ O7 OJ .nil wE (WF (I 1) (WF (I 4) (WF (I 6) (WF (I 7) PP)))))))
    (On (dL (cv b8 cV cW cP (I 2) (WF (aV bV (by rfl) T.len bR (WF (I 8) PP)) PP)))
    (On (dL (cv b8 Cq Cr Ht (I 2) (WF (I 8) PP)))
    (FM (tt (i:=3) fo.nd rfl (IN rfl) (I 5))))))))))))
   (FM (tz (I 2)))))),?_⟩
  obtain⟨OR,OM,O1,OW,OY,Pm⟩:=D4 OX;refine λx dx nx Pd ne=>?_;have sx:Tl H (T0 (T0 H dx (.own x)) x (.ins CP dx [])):=(Tl.new Pd).tr (Tl.new (by rw[Uf (Ne.symm ne)];exact nx));refine⟨x,dx,O,KE,λH1 A ex Oj OT OS=>⟨O,?_⟩⟩;subst ex;have Oy:Tl H H1:=λc u q=>OT _ _ (sx _ _ q) (by simpa using v0 q nx);have Ox:∀b,b∈A.own->H b=none:=λb OZ=>by
   rcases OS b OZ with z|z
   ·rw[z];exact nx
   ·exact sx.free z
  refine⟨g1 _,λtl NO=>?_⟩;have Oz:Tl H1 (T0 H1 tl (.lst [])):=Tl.new NO;have NN:H tl=none:=Oy.free NO;have Pe:Tl H1 (hide [tl] (T0 H1 tl (.lst []))):=λc u q=>wv.mpr ⟨by simpa using v0 q NO,Oz _ _ q⟩;have OA:tl∉A.own:=λz=>Oj.there z NO;refine⟨λm ZB H2=>∃(pl:Nat) (Of:Nat) (C:List (List (List Int))) (o:Go) (N:Nat) (out:List Int) (OB OC OD OE OF:Option XV),ZB=[some (.ref a),some (.ref A.x),some (.ref tl),some (Sc pl),OB,OC,OD,OE,OF]/\m=C.length/\iV fI Of (ns.drop pl)=some C/\out++kZ o (C.map lq)=qU ns/\em CP CN (hide [tl] H2) A o N/\eI o/\N+2*C.length<=600/\(∀c,c∈C->wy (lq c)=true)/\out.length+20500*C.length<=6150000/\H2 tl=some (.lst (out.map XV.int))/\Tl H H2,
   ⟨_,0,OR,OM,dZ,0,[],none,none,none,none,none,rfl,rfl,by rw[Bw];exact O1,by rw[lB];exact OW.symm,Oj.same Pe,⟨EV,⟨by simp[dZ],by simp[dZ],by simp[dZ],λp N4=>by simp[dZ]at N4⟩,λp N4=>by simp[dZ]at N4⟩,by omega,OY,by simp;omega,KE,Oy.tr Oz⟩,?_⟩
  rintro m ZB H2 ⟨pl,Of,C,o,N,out,OB,OC,OD,OE,OF,rfl,rfl,O0,NM,Ol,Nw,Pr,N0,Pu,Np,Oc⟩;have NI:=OV.same Oc;refine⟨_,O,_,O,a,_,O,.inl NI,_,_,O,O,_,O,?_⟩;rcases Er O0 with⟨NV,J⟩|⟨p,n,Nq,r,xs,t,Nv,Og,NV,Ov,hn,Nn,J,Oo⟩
  ·have Pn:ns.length<=pl:=by
    have:=cB cm NV;rw[iY]at this;simp at this;omega
   rw[sw (by rw[FS];omega)];refine v6 ⟨_,O,k H2 tl ?_⟩;rw[J,gU,LA,e4]at NM;rw[<- NM];exact Np
  ·obtain⟨O6,NK,Pp⟩:=yb NV;rw[s2 (by rw[FS];omega)];refine ww ⟨λPf V=>∃Ow,Ow<C.length/\_,λPf V q=>q,?_⟩;have Px:r.length+pl+1=ns.length:=by rw[<- NK,iY];omega
   have O2:(ns.map XV.int)[pl]?=some (XV.int p):=by rw[pr,O6];rfl
   refine⟨_,O,_,O,a,_,_,_,O,O,NI,lw O2,?_⟩;have N3:Nq=0->xs=[]:=λz=>by rw[z]at Nn;exact(zZ Nn).1
   have NL:Nq=1->xs=[if Nq=1 then(xs.getD 0 [])else []]:=λz=>by
    have Ou:=Nn;rw[z]at Ou;obtain⟨Ow,l,_,_,e,_⟩:=zY Ou;rw[No z,e];rfl
   obtain⟨x,c1,c2,c3,c4,Od⟩:=LB (row:=if Nq=1 then(xs.getD 0 [])else []) (xs:=xs) Ov (show(r.take n).length=n by rw[aK];omega) N3 NL;have ON:XV.int ((pl:Int)+1+(n:Int))=Sc (pl+1+n):=by unfold Sc;congr 1
   refine⟨_,O,_,_,O,O,_,O,p,_,O,c4,_,_,O,O,?_⟩;show bG 5 (XV.int ((pl:Int)+1+(n:Int))) _ _ _;rw[ON];have Oe:el (ns.map XV.int) (some ((pl:Int)+1)) (some ((pl+1+n:Nat):Int))=(r.take n).map XV.int:=by
    rw[show((pl:Int)+1)=((pl+1:Nat):Int) by omega,x4 _ (by rw[FS];omega) (by omega),<-vu,NK,<-mM,show pl+1+n-(pl+1)=n by omega]
   refine⟨_,O,_,O,_,_,O,O,_,O,_,O,_,O,a,_,O,NI,λNk NF=>?_⟩;have Pj:el (ns.map XV.int) (some ((λi j=>i+j) (pl:Int) 1)) (some ((pl+1+n:Nat):Int))=(r.take n).map XV.int:=Oe;rw[Oe];have N_:Tl H2 (T0 H2 Nk (.lst ((r.take n).map XV.int))):=Tl.new NF;have Oq:(T0 H2 Nk (.lst ((r.take n).map XV.int))) Nk=some (.lst ((r.take n).map XV.int)):=KE;generalize T0 H2 Nk (.lst ((r.take n).map XV.int))=NG at N_ Oq⊢;refine⟨g1 _,λU N8=>?_⟩;have Oa:Tl NG (T0 NG U (.lst [])):=Tl.new N8;have Ot:(T0 NG U (.lst [])) U=some (.lst []):=KE;generalize T0 NG U (.lst [])=D at Oa Ot⊢;have y:Tl H2 D:=N_.tr Oa;have ND:=Oa _ _ Oq;refine⟨_,O,O,_,O,?_⟩;by_cases Nx:p=2
   ·have NL:Nq=1:=Od.mpr Nx;rw[s2 (by rw[Nx])];rw[NL]at Nn;obtain⟨g,l,OQ,Pt,NX,NW⟩:=zY Nn;rw[No NL]at c1;have NH:xs.getD 0 []=l.take g:=by rw[NX];rfl
    rw[NH]at c1;obtain⟨O3,N2,Pq⟩:=yb (ns:=ns) (pl:=pl+1+n) (p:=(g:Int)) (r:=l) (by rw[<- OQ,<-NK,vt]);have Pw:l.length+(pl+1+n)+1=ns.length:=by rw[<- N2,iY];omega
    have O4:(ns.map XV.int)[pl+1+n]?=some (XV.int (g:Int)):=by rw[pr,O3];rfl
    have Om:=NI.same y;have OP:el (ns.map XV.int) (some (((pl+1+n:Nat):Int)+1)) (some (((pl+1+n:Nat):Int)+1+(g:Int)))=(l.take g).map XV.int:=by
     rw[show(((pl+1+n:Nat):Int)+1)=((pl+1+n+1:Nat):Int) by omega,show(((pl+1+n+1:Nat):Int)+(g:Int))=((pl+1+n+1+g:Nat):Int) by omega,x4 _ (by rw[FS];omega) (by omega),<-vu,N2,<-mM,show pl+1+n+1+g-(pl+1+n+1)=g by omega]
    refine ww ⟨_,O,_,O,_,_,O,O,_,O,_,O,_,_,O,O,_,O,_,O,a,_,_,_,O,O,Om,lw O4,_,_,O,O,_,O,a,_,O,Om,λNr N9=>?_⟩;rw[OP];have Ob:Tl D (T0 D Nr (.lst ((l.take g).map XV.int))):=Tl.new N9;have N5:(T0 D Nr (.lst ((l.take g).map XV.int))) Nr=some (.lst ((l.take g).map XV.int)):=KE;generalize T0 D Nr (.lst ((l.take g).map XV.int))=OI at Ob N5⊢;refine⟨_,O,_,_,O,O,_,O,Nr,_,O,.inl (TW.of N5),_,_,O,O,?_⟩;have Py:(((l.take g).map XV.int).length:Int)=(g:Int):=by rw[FS,aK];omega
    have OO:XV.int (((pl+1+n:Nat):Int)+1+(((l.take g).map XV.int).length:Int))=Sc (pl+1+n+1+g):=by unfold Sc;congr 1;omega
    show bG 5 (XV.int (((pl+1+n:Nat):Int)+1+(((l.take g).map XV.int).length:Int))) _ _ _;rw[OO];have Nz:p=2->∀d,r.take n=[d]->lN d (l.take g):=λ_ d hd=>by
     refine Kk ?_;have:=N0 ((p::r.take n)::xs) (by rw[J];exact lc ..);rw[Nx,hd,NX]at this;exact this
    have NQ:Nr≠tl:=λz=>by rw[z,y _ _ Np]at N9;cases N9
    have NC:ns.drop (pl+1+n+1+g)=t:=by rw[NW,<-N2,vt]
    have ND:=Ob _ _ ND;have y:=y.tr Ob;have Ny:=N5;generalize pl+1+n+1+g=NS at NC⊢;generalize l.take g=row at c1 Nz Ny;generalize OI=D at y ND Ny⊢;generalize Nr=U at Ny NQ⊢;have NY:∀s,em CP CN (T0 D tl (.av s (.lst (out.map XV.int)))) A o N:=λs=>Ol.same λc u q=>by
     obtain⟨Nj,Nu⟩:=wv.mp q;rw[Uf (by simpa using Nj)];exact y _ _ Nu
    have O9:C.length=Nv.length+1:=by rw[J];rfl
    have N6:=y _ _ Np;have N7:Nk≠tl:=λz=>by rw[z,Np]at NF;cases NF
    refine⟨tl,_,N6,True.intro,λs=>?_⟩;refine⟨_,O,_,O,_,O,_,O,A,o,N,p,Nk,U,r.take n,row,x,O,(Uf N7).trans ND,(Uf NQ).trans Ny,by rw[c3,aK];omega,c1,Nz,NY s,Nw,by omega,λNR Nl NZ NA Pc L=>?_⟩;have Nm:NR tl=some (.av s (.lst (out.map XV.int))):=NA _ _ KE OA;refine⟨Nm,?_⟩;have at_:Nl≠tl:=λz=>by rw[z,Nm]at L;cases L
    have O8:=xm Nw c1;have big:∀ {k:Nat},k<=16000000->k<=Is:=λh=>by rw[hD];omega
    have NU:∀ {k:Nat},k<=16000000->k<Is:=λh=>by rw[hD];omega
    refine⟨_,O,.inl ⟨O,_,TW.of KE⟩,_,O,Nl,_,O,.inl (TW.of ((Uf at_).trans L)),tl,_,_,O,O,KE,NU (by rw[FS];omega),?_⟩;refine⟨_,O,.inl ⟨O,_,TW.of KE⟩,_,O,tl,Nl,_,_,O,O,KE,by rw[Uf at_,Uf at_];exact L,big (by rw[lv,FS,FS,bz];omega),?_⟩;rw[gF,gF];refine⟨_,O,Nv.length,by omega,NS,Og,Nv,_,N+2,out++(((bm (EQ o x).1).length:Int)::bm (EQ o x).1),_,_,_,_,_,O,O,by rw[NC];exact Oo,?_,?_,Nw.does c1 Nz,by omega,λc N1=>N0 c (by rw[J];exact on _ N1),?_,?_,λc u q=>?_⟩
    ·rw[<- NM,J,na,AA,Al c2];simp only[dd,lA]
    ·refine(NZ.mf (eJ.drop Nm)).same λc u q=>?_;obtain⟨Nj,Nu⟩:=wv.mp q;exact wv.mpr ⟨Nj,by rw[Uf (by simpa using Nj)];exact Nu⟩
    ·rw[lv,bh];omega
    ·rw[KE,bA,na,dd];simp
    ·rw[Uf (v0 q NN)];exact NA _ _ ((Uf (v0 q NN)).trans (y _ _ (Oc _ _ q))) λz=>by rw[Ox c z]at q;cases q
   ·have N3:¬Nq=1:=λz=>Nx (Od.mp z);rw[sw (by intro z;injection z with z;exact Nx z)];rw[Ps N3]at c1;have O5:Nq=0:=by
     rcases Ad Ov with q|q|q|q|q|q|q|q|q|q|q<;>omega
    rw[O5]at Nn;obtain⟨NX,NW⟩:=zZ Nn;refine v6 ?_;obtain⟨row,NH⟩:∃row:List Int,row=[]:=⟨_,O⟩;have Nz:p=2->∀d,r.take n=[d]->lN d row:=λz=>absurd z Nx;rw[<- NH]at c1;have NQ:U≠tl:=λz=>by rw[z,N_ _ _ Np]at N8;cases N8
    have NC:ns.drop (pl+1+n)=t:=by rw[NW,<-NK,vt]
    have Ny:D U=some (.lst (row.map XV.int)):=by rw[NH];exact Ot
    generalize pl+1+n=NS at NC⊢;have NY:∀s,em CP CN (T0 D tl (.av s (.lst (out.map XV.int)))) A o N:=λs=>Ol.same λc u q=>by
     obtain⟨Nj,Nu⟩:=wv.mp q;rw[Uf (by simpa using Nj)];exact y _ _ Nu
    have O9:C.length=Nv.length+1:=by rw[J];rfl
    have N6:=y _ _ Np;have N7:Nk≠tl:=λz=>by rw[z,Np]at NF;cases NF
    refine⟨tl,_,N6,True.intro,λs=>?_⟩;refine⟨_,O,_,O,_,O,_,O,A,o,N,p,Nk,U,r.take n,row,x,O,(Uf N7).trans ND,(Uf NQ).trans Ny,by rw[c3,aK];omega,c1,Nz,NY s,Nw,by omega,λNR Nl NZ NA Pc L=>?_⟩;have Nm:NR tl=some (.av s (.lst (out.map XV.int))):=NA _ _ KE OA;refine⟨Nm,?_⟩;have at_:Nl≠tl:=λz=>by rw[z,Nm]at L;cases L
    have O8:=xm Nw c1;have big:∀ {k:Nat},k<=16000000->k<=Is:=λh=>by rw[hD];omega
    have NU:∀ {k:Nat},k<=16000000->k<Is:=λh=>by rw[hD];omega
    refine⟨_,O,.inl ⟨O,_,TW.of KE⟩,_,O,Nl,_,O,.inl (TW.of ((Uf at_).trans L)),tl,_,_,O,O,KE,NU (by rw[FS];omega),?_⟩;refine⟨_,O,.inl ⟨O,_,TW.of KE⟩,_,O,tl,Nl,_,_,O,O,KE,by rw[Uf at_,Uf at_];exact L,big (by rw[lv,FS,FS,bz];omega),?_⟩;rw[gF,gF];refine⟨_,O,Nv.length,by omega,NS,Og,Nv,_,N+2,out++(((bm (EQ o x).1).length:Int)::bm (EQ o x).1),_,_,_,_,_,O,O,by rw[NC];exact Oo,?_,?_,Nw.does c1 Nz,by omega,λc N1=>N0 c (by rw[J];exact on _ N1),?_,?_,λc u q=>?_⟩
    ·rw[<- NM,J,na,AA,Al c2];simp only[dd,lA]
    ·refine(NZ.mf (eJ.drop Nm)).same λc u q=>?_;obtain⟨Nj,Nu⟩:=wv.mp q;exact wv.mpr ⟨Nj,by rw[Uf (by simpa using Nj)];exact Nu⟩
    ·rw[lv,bh];omega
    ·rw[KE,bA,na,dd];simp
    ·rw[Uf (v0 q NN)];exact NA _ _ ((Uf (v0 q NN)).trans (y _ _ (Oc _ _ q))) λz=>by rw[Ox c z]at q;cases q
def xa (K:xz) (x q:Str) (st:v1) (f:B):Prop:=∃(d:Wp) (e:Option B) (kV c h:Wp) (b:Option B) (a ct:Wp) (g:Array (Option Wp)),
 K.lookup f=some ⟨d,e,.func (f6 x q (g9 st) (gn st) (sB st) .none kV c h b a ct),g⟩/\k' K a q=true/\cL K (.ref f)=true
def aZ (K:xz) (x:Str) (st:v1):Prop:=∃f,iP K cI x=some (some (.ref f))/\xa K x x st f
def am (K:xz) (C:B) (x q:Str) (st:v1):Prop:=∃f,fA K (.ref C) x=some (some (.ref f))/\m4 K (.ref f)=true/\xa K x q st f
structure hW (K:xz) (x:Str) (C:B):Prop where
 ns:iP K cI x=some (some (.ref C))
 pg:mZ K C Dk=true
 hd:qy K C=true
 po:v8 K C=true
 sa:fA K (.ref C) "__setattr__"=some (some (.builtin "object.__setattr__"))
 Hs:v_ K C=true
 kp:cL K (.ref C)=true
theorem hW.cls {K:xz}{x:Str}{C:B}(h:hW K x C):cp K C:=⟨h.pg,h.hd,h.po,h.sa⟩
def aR (K:xz) (x:Str) (i:Int):Prop:=∃t,iP K cI x=some (some (.int i t))
def i7 (K:xz) (x:Str):Prop:=iP K cI x=some none
section
variable {P:pu}{w:rs}{K:xz}{mg:Str->Option Wp}{base h:wn}{x q:Str}{st:v1}{C:B}{k:Nat}{ps:List Str}{sp:Sp}
abbrev q4 (x q:Str) (st:v1) (ps:List Str):Prop:=∀(kV c d:Wp) (a:Option B) (b ct:Wp) (us:List Wp),us.length=ps.length->vO (f6 x q (g9 st) (gn st) (sB st) .none kV c d a b ct) ⟨us,[]⟩=pure (ps.zip us)
theorem aZ.gf (H:aZ K x st) (X:K.In h) (G:h.Ns cI mg) (b:q4 x x st ps) (a:∀f fd,sn K x x st f fd->Db P w K mg base AC k f fd ps sp):Gf P w K mg base k x ps sp:=by
 obtain⟨f,e,j,m,kV,i,o,d,g,ct,n,l,c,kp⟩:=H;have F:=l1 (st:=st) l c kp;exact⟨f,_,a f _ F,F.binds b,hJ X G e,kp⟩
theorem am.gm (H:am K C x q st) (b:q4 x q st ps) (a:∀f fd,sn K x q st f fd->Db P w K mg base AC k f fd ps sp):Gm P w K mg base k C x ps sp:=by
 obtain⟨f,e,i,m,n,kV,j,p,d,g,ct,o,l,c,kp⟩:=H;have F:=l1 (st:=st) l c kp;exact⟨f,_,a f _ F,F.binds b,⟨e,i,kp⟩⟩
theorem am.makes (H:am K C "__init__" q st) {y:Str}(cl:hW K y C) (b:q4 "__init__" q st ps) (a:∀f fd,sn K "__init__" q st f fd->Db P w K mg base AC k f fd ps sp):∃f fd,Mk K C f/\Db P w K mg base AC k f fd ps sp/\Binds K fd ps []:=by
 obtain⟨f,e,i,m,n,kV,j,p,d,g,ct,o,l,c,kp⟩:=H;have F:=l1 (st:=st) l c kp;exact⟨f,_,⟨cl.Hs,e,i,cl.kp⟩,a f _ F,F.binds b⟩
theorem aR.con {i:Int}(H:aR K x i) (X:K.In h) (G:h.Ns cI mg):aY mg x i:=let ⟨t,e⟩:=H;⟨t,hJ X G e⟩
end
theorem am.m {K:xz}{C f:B}{x q:Str}{st:v1}{h:Wp}{i:Option B}{kV g n:Wp}{e:Option B}{d ct:Wp}{j:Array (Option Wp)}(a:fA K (.ref C) x=some (some (.ref f))) (b:m4 K (.ref f)=true) (l:K.lookup f=some ⟨h,i,.func (f6 x q (g9 st) (gn st) (sB st) .none kV g n e d ct),j⟩) (c:k' K d q=true) (k:cL K (.ref f)=true):am K C x q st:=⟨f,a,b,h,i,kV,g,n,e,d,ct,j,l,c,k⟩
theorem aZ.m {K:xz}{f:B}{x:Str}{st:v1}{g:Wp}{h:Option B}{kV e j:Wp}{d:Option B}{b ct:Wp}{i:Array (Option Wp)}(a:iP K cI x=some (some (.ref f))) (l:K.lookup f=some ⟨g,h,.func (f6 x x (g9 st) (gn st) (sB st) .none kV e j d b ct),i⟩) (c:k' K b x=true) (k:cL K (.ref f)=true):aZ K x st:=⟨f,a,g,h,kV,e,j,d,b,ct,i,l,c,k⟩
theorem aR.m {K:xz}{x:Str}{i:Int}{t:Tok}(e:iP K cI x=some (some (.int i t))):aR K x i:=⟨t,e⟩
theorem EN {K:xz}{wd:B}{a:List (Int×Int)}{o:Obj}{es:Array eC}{ep:Nat}(l:K.lookup wd=some o) (x:o.ExactDict) (d:o.data=.dict es ep) (e:es.toList.map lW=a.map λx=>some (x.1,x.1,x.2)):lF K wd a:=⟨o,es,ep,l,x,d,e⟩
structure w' (K:xz) (CN CP CS CL CG:B):Prop where
 rx:hW K "Network" CN
 DG:ao K CN "changes"
 DK:ao K CN "runs"
 DJ:ao K CN "origins"
 DH:ao K CN "departures"
 DI:ao K CN "footpaths"
 ry:hW K "Plan" CP
 DL:ao K CP "changes"
 DO:ao K CP "trips"
 DP:ao K CP "walks"
 DM:ao K CP "lateness"
 DN:ao K CP "networks"
 rz:hW K "Search" CS
 DT:ao K CS "network"
 DX:ao K CS "taken"
 DQ:ao K CS "arrivals"
 DW:ao K CS "rides"
 DV:ao K CS "ridden"
 DU:ao K CS "ready"
 DY:ao K CS "unboarded"
 DS:ao K CS "first_calls"
 DR:ao K CS "boardings"
 rv:hW K "Limits" CL
 DD:ao K CL "network"
 DF:ao K CL "ridden"
 DE:ao K CL "ready"
 DC:ao K CL "first_calls"
 ru:hW K "Guide" CG
 DA:ao K CG "goal"
 Dz:ao K CG "arrival"
 DB:ao K CG "limits"
 Hz:am K CN "__init__" "Network.__init__" tZ
 Hy:am K CN "add_run" "Network.add_run" s8
 Ji:am K CP "__init__" "Plan.__init__" t5
 Jo:am K CP "add_stop" "Plan.add_stop" s9
 Jp:am K CP "add_trip" "Plan.add_trip" s_
 Jq:am K CP "add_walk" "Plan.add_walk" tf
 Jj:am K CP "tell_late" "Plan.tell_late" ud
 Jh:am K CP "has_stop" "Plan.has_stop" tP
 Jg:am K CP "forward" "Plan.forward" tL
 Jk:am K CP "mirrored" "Plan.mirrored" tY
 Jm:am K CP "runs_around" "Plan.runs_around" t9
 Jl:am K CP "run_of" "Plan.run_of" t8
 Kv:am K CS "__init__" "Search.__init__" t_
 Kq:am K CS "begin" "Search.begin" tn
 dv:am K CS "arrive" "Search.arrive" tm
 Ku:am K CS "get_on" "Search.get_on" kQ
 Kx:am K CS "walk_on" "Search.walk_on" ug
 mB:am K CS "take_ride" "Search.take_ride" uc
 Kw:am K CS "get_off" "Search.get_off" tO
 Ks:am K CS "ride_to_the_end" "Search.ride_to_the_end" ue
 G2:am K CL "__init__" "Limits.__init__" tU
 G1:am K CL "can_board_at" "Limits.can_board_at" tq
 G4:am K CL "can_get_off_at" "Limits.can_get_off_at" t2
 G3:am K CL "last_call_off" "Limits.last_call_off" tV
 FJ:am K CG "__init__" "Guide.__init__" tN
 FN:am K CG "can_walk_to" "Guide.can_walk_to" uh
 FI:am K CG "can_board" "Guide.can_board" tw
 FL:am K CG "can_get_off" "Guide.can_get_off" tD
 Ff:aZ K "mirrored_network" tX
 E8:aZ K "is_day" tQ
 Fl:aZ K "can_run" tE
 Fn:aZ K "shifted" ub
 Fb:aZ K "first_journey" tI
 Fo:aZ K "first_walk" tK
 Fi:aZ K "first_ride" tJ
 Fp:aZ K "worthwhile" ui
 E_:aZ K "minutes_on_foot" t4
 E6:aZ K "first_boardings" tH
 E9:aZ K "earliest" tG
 Fd:aZ K "latest" tW
 E':aZ K "front" tM
 Fh:aZ K "profile" t6
 Fj:aZ K "reach" t7
 Fc:aZ K "journey" tT
 E5:aZ K "board" tp
 E4:aZ K "can_ask" tu
 Fe:aZ K "is_minute" tR
 Fg:aZ K "is_most" tS
 Fm:aZ K "searched" ua
 E7:aZ K "counted" tF
 E2:aZ K "answers" iy
 E3:aZ K "answer_of" tj
 E1:aZ K "answer_asked" ti
 GH:aR K "OUT_OF_RANGE" (-2)
 Gp:aR K "CANNOT_RUN" (-4)
 Gu:aR K "FULL" (-8)
 GG:aR K "NO_WAY" (-1)
 GN:aR K "TOO_MANY" (-3)
 GC:aR K "MOST_STOPS" 256
 GD:aR K "MOST_TRIPS" 1024
 GF:aR K "MOST_WALKS" 4096
 Gy:aR K "MINUTES_OF_A_DAY" 1440
 Gz:aR K "MINUTES_TOLD" 2880
 Gq:aR K "DAYS_OF_A_WEEK" 7
 yK:aR K "NEVER" 1000000
 GR:aR K "WALKED" (-1)
 GA:aR K "MOST_RIDES_OF_FRONT" 8
 GB:aR K "MOST_ROWS" 4096
 GP:aR K "UNREACHED" (-1)
 GL:aR K "STOP" 1
 GO:aR K "TRIP" 2
 GQ:aR K "WALK" 3
 Gw:aR K "LATE" 4
 Gr:aR K "EARLIEST" 5
 Gx:aR K "LATEST" 6
 Gs:aR K "FRONT" 7
 GI:aR K "PROFILE" 8
 GK:aR K "REACH" 9
 Gv:aR K "JOURNEY" 10
 A1:i7 K "len"
 A3:i7 K "range"
 L9:i7 K "zip"
 A2:i7 K "list"
 A4:i7 K "sorted"
 L8:i7 K "min"
section
variable {P:pu}{w:rs}{K:xz}{mg:Str->Option Wp}{base h:wn}{CN CP CS CL CG wd fa:B}
theorem D2 (D:w' K CN CP CS CL CG) (X:K.In h) (G:h.Ns cI mg) (OP:iP K cI "WIDTHS"=some (some (.ref wd))) (OU:lF K wd pZ) {f:B}{fd:sc}(F:sn K "answers" "answers" iy f fd):Db P w K mg base AC 10 f fd ["calls"] (px K):=by
 have TS:a' K mg CS CN:=⟨D.rz.cls,D.DT,D.DX,D.DQ,D.DW,D.DV,D.DU,D.DY,D.DS,D.DR,D.rx.cls,D.DG,D.DK,D.DJ,D.DH,D.DI,gL X G D.A3,gL X G D.A1⟩;have TP:bM K mg CP:=⟨D.ry.cls,D.DL,D.DO,D.DP,D.DM,D.DN,gL X G D.A1,gL X G D.A3,gL X G D.L9,D.GH.con X G,D.Gp.con X G,D.Gu.con X G,D.GC.con X G,D.GD.con X G,D.GF.con X G,D.Gy.con X G,D.Gz.con X G,D.Gq.con X G⟩;have b:ej mg:=⟨D.GG.con X G,D.GN.con X G,D.GP.con X G,D.GR.con X G,D.yK.con X G,D.GA.con X G,gL X G D.L8,gL X G D.A2,gL X G D.A4⟩;have TA:nS mg:=⟨D.GL.con X G,D.GO.con X G,D.GQ.con X G,D.Gw.con X G,D.Gr.con X G,D.Gx.con X G,D.Gs.con X G,D.GI.con X G,D.GK.con X G,D.Gv.con X G⟩;have d:e7 K CL CG:=⟨D.rv.cls,D.DD,D.DF,D.DE,D.DC,D.ru.cls,D.DA,D.Dz,D.DB⟩;have NC:=hJ X G D.rx.ns;have O_:=hJ X G D.ry.ns;have q:=hJ X G D.rz.ns;have O9:=hJ X G D.rv.ns;have O8:=hJ X G D.ru.ns;have OO:=D.yK.con X G;have Pa:=gL X G D.A2;have Pb:=gL X G D.A4;obtain⟨P1,Pp,Pc,OE,O3,NQ⟩:∃f fd,Db P w K mg base AC 1 f fd ["self","stop","ready"] (pz CS CN)/\Binds K fd ["self","stop","ready"] []/\b3 K CS "get_on" f/\sn K "get_on" "Search.get_on" kQ f fd:=by
  obtain⟨f,e,i,Qi,Qj,kV,PM,Ql,Pd,Pe,ct,Qk,l,c,kp⟩:=D.Ku;have F:=l1 (st:=kQ) l c kp;exact⟨f,_,zc F TS,F.binds (λ_ _ _ _ _ _ us a=>match us,a with|[_,_,_],_=>rfl),⟨e,i,kp⟩,F⟩
 have NH:Gm P w K mg base 2 CS "arrive" ["self","stop","minute","ready"] (mH CS CN):=D.dv.gm (λ_ _ _ _ _ _ us a=>match us,a with|[_,_,_,_],_=>rfl) λf fd F=>Ia F TS NQ OE O3;obtain⟨PQ,Pg,s,x,y⟩:=id NH;have Ov:Gm P w K mg base 3 CS "walk_on" ["self","stop","minute"] (pG CS CN):=D.Kx.gm (λ_ _ _ _ _ _ us a=>match us,a with|[_,_,_],_=>rfl) λf fd F=>I0 F TS s x y;obtain⟨Qh,PL,N,Np,NA⟩:=id Ov;have Oh:Gm P w K mg base 1 CS "get_off" ["self"] (uF CS CN):=D.Kw.gm (λ_ _ _ _ _ _ us a=>match us,a with|[_],_=>rfl) λf fd F=>Iy F TS;obtain⟨P9,Py,N4,OJ,O5⟩:=id Oh;have u:Gm P w K mg base 4 CS "take_ride" ["self"] (mJ CS CN):=D.mB.gm (λ_ _ _ _ _ _ us a=>match us,a with|[_],_=>rfl) λf fd F=>IX F TS s x y N Np NA N4 OJ O5;obtain⟨Qg,PK,N8,ON,O7⟩:=id u;have z:Gm P w K mg base 5 CS "ride_to_the_end" ["self"] (pF CS CN):=D.Ks.gm (λ_ _ _ _ _ _ us a=>match us,a with|[_],_=>rfl) λf fd F=>IZ F TS N8 ON O7;obtain⟨PY,Pm,NY,OB,O1⟩:=id z;have r:Gm P w K mg base 4 CS "begin" ["self","start","minute"] (mI CS CN):=D.Kq.gm (λ_ _ _ _ _ _ us a=>match us,a with|[_,_,_],_=>rfl) λf fd F=>Ic F TS s x y N Np NA;obtain⟨PR,Ph,NW,Oz,O0⟩:=id r;obtain⟨Qe,PJ,o,n,p⟩:∃f fd,Mk K CS f/\Db P w K mg base AC 1 f fd ["self","network"] (iz CS CN)/\Binds K fd ["self","network"] []:=D.Kv.makes D.rz (λ_ _ _ _ _ _ us a=>match us,a with|[_,_],_=>rfl) λf fd F=>IU F TS OO;have t:Gf P w K mg base 6 "searched" ["network","start","minute"] (kW CS CN):=D.Fm.gf X G (λ_ _ _ _ _ _ us a=>match us,a with|[_,_,_],_=>rfl) λf fd F=>IV F TS q o n p NW Oz O0 NY OB O1;obtain⟨Qc,PF,L,Nn,Nu,Nx⟩:=id t;have NF:Gm P w K mg base 1 CN "add_run" ["self","stops","comes","goes"] (ur CN):=D.Hy.gm (λ_ _ _ _ _ _ us a=>match us,a with|[_,_,_,_],_=>rfl) λf fd F=>H6 F TS;obtain⟨PN,Pf,NV,Oy,OZ⟩:=id NF;obtain⟨P8,Px,T,H,Nl⟩:∃f fd,Mk K CN f/\Db P w K mg base AC 2 f fd ["self","changes","runs","walks"] (pD CN)/\Binds K fd ["self","changes","runs","walks"] []:=D.Hz.makes D.rx (λ_ _ _ _ _ _ us a=>match us,a with|[_,_,_,_],_=>rfl) λf fd F=>IJ F TS Pa Pb NV Oy OZ;have Oe:Gf P w K mg base 4 "mirrored_network" ["changes","runs","walks"] (uI CN):=D.Ff.gf X G (λ_ _ _ _ _ _ us a=>match us,a with|[_,_,_],_=>rfl) λf fd F=>IH F TS NC T H Nl;obtain⟨P6,Pu,N2,OH,OS,OX⟩:=id Oe;have NN:Gf P w K mg base 1 "is_day" ["day"] (pB):=D.E8.gf X G (λ_ _ _ _ _ _ us a=>match us,a with|[_],_=>rfl) λf fd F=>IA F TP;obtain⟨PX,Pl,C,Nj,Nr,Nw⟩:=id NN;have Q:Gf P w K mg base 1 "is_minute" ["minute"] (pC):=D.Fe.gf X G (λ_ _ _ _ _ _ us a=>match us,a with|[_],_=>rfl) λf fd F=>IB F TP;obtain⟨P5,Pt,GMI,OG,OR,OW⟩:=id Q;have m:Gf P w K mg base 1 "is_most" ["most"] (jD):=D.Fg.gf X G (λ_ _ _ _ _ _ us a=>match us,a with|[_],_=>rfl) λf fd F=>IC F (D.GB.con X G);have N9:Gm P w K mg base 1 CP "has_stop" ["self","stop"] (pA CP CN):=D.Jh.gm (λ_ _ _ _ _ _ us a=>match us,a with|[_,_],_=>rfl) λf fd F=>Iz F TP;obtain⟨P2,Pq,E,Nk,Ny⟩:=id N9;have g:Gf P w K mg base 2 "can_ask" ["plan","start","goal","day","minute"] (ht CP CN):=D.E4.gf X G (λ_ _ _ _ _ _ us a=>match us,a with|[_,_,_,_,_],_=>rfl) λf fd F=>Ih F TP E Nk Ny C Nj Nr Nw GMI OG OR OW;obtain⟨PU,Pj,A,Y,Nq,Nv⟩:=id g;obtain⟨P_,Pz,Of,N5,OK⟩:∃f fd,Mk K CP f/\Db P w K mg base AC 1 f fd ["self"] (uL CP CN)/\Binds K fd ["self"] []:=D.Ji.makes D.ry (λ_ _ _ _ _ _ us a=>match us,a with|[_],_=>rfl) λf fd F=>IM F TP;have ST:Gm P w K mg base 1 CP "add_stop" ["self","change"] (hx CP CN j' 1):=D.Jo.gm (λ_ _ _ _ _ _ us a=>match us,a with|[_,_],_=>rfl) λf fd F=>H7 F TP;have CR:Gf P w K mg base 1 "can_run" ["stops","comes","goes","stop_count"] (uz):=D.Fl.gf X G (λ_ _ _ _ _ _ us a=>match us,a with|[_,_,_,_],_=>rfl) λf fd F=>Ik F TP;obtain⟨PV,Pk,NX,OA,OQ,OV⟩:=id CR;have Ot:Gm P w K mg base 2 CP "add_trip" ["self","days","calls"] (uO CP CN):=D.Jp.gm (λ_ _ _ _ _ _ us a=>match us,a with|[_,_,_],_=>rfl) λf fd F=>H8 F TP NX OA OQ OV;have Ou:Gm P w K mg base 2 CP "add_walk" ["self","start","goal","minutes"] (hx CP CN ka 3):=D.Jq.gm (λ_ _ _ _ _ _ us a=>match us,a with|[_,_,_,_],_=>rfl) λf fd F=>H9 F TP E Nk Ny;have LT:Gm P w K mg base 2 CP "tell_late" ["self","trip","day","call","minutes"] (hx CP CN j_ 4):=D.Jj.gm (λ_ _ _ _ _ _ us a=>match us,a with|[_,_,_,_,_],_=>rfl) λf fd F=>IY F TP C Nj Nr Nw;have Oq:Gf P w K mg base 1 "shifted" ["minutes","call","before","since"] (uN):=D.Fn.gf X G (λ_ _ _ _ _ _ us a=>match us,a with|[_,_,_,_],_=>rfl) λf fd F=>IW F;obtain⟨Qd,PH,N7,OM,OT,OY⟩:=id Oq;have Oo:Gm P w K mg base 2 CP "run_of" ["self","trip","begins","weekday"] (uM CP CN):=D.Jl.gm (λ_ _ _ _ _ _ us a=>match us,a with|[_,_,_,_],_=>rfl) λf fd F=>IS F TP N7 OM OT OY;obtain⟨Qb,PD,N6,OL,O6⟩:=id Oo;have Ol:Gm P w K mg base 3 CP "runs_around" ["self","day"] (pE CP CN):=D.Jm.gm (λ_ _ _ _ _ _ us a=>match us,a with|[_,_],_=>rfl) λf fd F=>IT F TP N6 OL O6;obtain⟨Qa,PB,J,Nm,Nz⟩:=id Ol;have j:Gm P w K mg base 4 CP "forward" ["self","day"] (fu CP CN gW):=D.Jg.gm (λ_ _ _ _ _ _ us a=>match us,a with|[_,_],_=>rfl) λf fd F=>Iu F TP J Nm Nz NC T H Nl;obtain⟨PZ,Pn,NZ,OC,O2⟩:=id j;have U:Gm P w K mg base 5 CP "mirrored" ["self","day"] (fu CP CN lG):=D.Jk.gm (λ_ _ _ _ _ _ us a=>match us,a with|[_,_],_=>rfl) λf fd F=>II F TP J Nm Nz N2 OH OS OX;obtain⟨P7,Pw,N3,OI,O4⟩:=id U;have k:Gf P w K mg base 1 "counted" ["rows","most"] (jC):=D.E7.gf X G (λ_ _ _ _ _ _ us a=>match us,a with|[_,_],_=>rfl) λf fd F=>Il F TP b;have NO:Gf P w K mg base 7 "earliest" ["plan","start","goal","day","minute"] (cx CP CN h5 4):=D.E9.gf X G (λ_ _ _ _ _ _ us a=>match us,a with|[_,_,_,_,_],_=>rfl) λf fd F=>Im F TP b TS A Y Nq Nv NZ OC O2 L Nn Nu Nx;have Oa:Gf P w K mg base 7 "latest" ["plan","start","goal","day","minute"] (cx CP CN h8 4):=D.Fd.gf X G (λ_ _ _ _ _ _ us a=>match us,a with|[_,_,_,_,_],_=>rfl) λf fd F=>IG F TP b TS A Y Nq Nv N3 OI O4 L Nn Nu Nx;have FR:Gf P w K mg base 7 "front" ["plan","start","goal","day","minute","most"] (cx CP CN h6 5):=D.E'.gf X G (λ_ _ _ _ _ _ us a=>match us,a with|[_,_,_,_,_,_],_=>rfl) λf fd F=>Iv F TP b TS q o n p g m j r u k;have Oi:Gf P w K mg base 1 "minutes_on_foot" ["network","start"] (uK CN):=D.E_.gf X G (λ_ _ _ _ _ _ us a=>match us,a with|[_,_],_=>rfl) λf fd F=>IL F b TS;have FB:Gf P w K mg base 1 "first_boardings" ["network","on_foot"] (uA CN):=D.E6.gf X G (λ_ _ _ _ _ _ us a=>match us,a with|[_,_],_=>rfl) λf fd F=>Io F b TS;have Ox:Gf P w K mg base 6 "worthwhile" ["network","start","goal","first","last"] (uQ CN):=D.Fp.gf X G (λ_ _ _ _ _ _ us a=>match us,a with|[_,_,_,_,_],_=>rfl) λf fd F=>I2 F b TS q o n p Oi FB z;have Oj:Gf P w K mg base 7 "profile" ["plan","start","goal","day","first","last","most"] (cx CP CN h9 6):=D.Fh.gf X G (λ_ _ _ _ _ _ us a=>match us,a with|[_,_,_,_,_,_,_],_=>rfl) λf fd F=>IP F TP g Q m j Ox k;have Om:Gf P w K mg base 7 "reach" ["plan","start","day","minute","most"] (cx CP CN h_ 4):=D.Fj.gf X G (λ_ _ _ _ _ _ us a=>match us,a with|[_,_,_,_,_],_=>rfl) λf fd F=>IQ F TP b TS g m j t k;have NK:Gf P w K mg base 7 "board" ["plan","stop","day","minute","most"] (cx CP CN h4 4):=D.E5.gf X G (λ_ _ _ _ _ _ us a=>match us,a with|[_,_,_,_,_],_=>rfl) λf fd F=>Ig F TP b TS g m j k;have NI:Gm P w K mg base 1 CL "can_board_at" ["self","stop","minute"] (uw CL):=D.G1.gm (λ_ _ _ _ _ _ us a=>match us,a with|[_,_,_],_=>rfl) λf fd F=>Ie F d;have Og:Gm P w K mg base 1 CL "can_get_off_at" ["self","stop","minute"] (uJ CL):=D.G4.gm (λ_ _ _ _ _ _ us a=>match us,a with|[_,_,_],_=>rfl) λf fd F=>IK F d;have Ob:Gm P w K mg base 1 CL "last_call_off" ["self","run"] (uH CL CN):=D.G3.gm (λ_ _ _ _ _ _ us a=>match us,a with|[_,_],_=>rfl) λf fd F=>IF F d TS;have Ow:Gm P w K mg base 2 CG "can_walk_to" ["self","stop","minute","left"] (uP CL CG CN):=D.FN.gm (λ_ _ _ _ _ _ us a=>match us,a with|[_,_,_,_],_=>rfl) λf fd F=>I1 F d NI;have NL:Gm P w K mg base 2 CG "can_board" ["self","run","call","left"] (ux CL CG CN):=D.FI.gm (λ_ _ _ _ _ _ us a=>match us,a with|[_,_,_,_],_=>rfl) λf fd F=>Ii F d Ob;have NM:Gm P w K mg base 2 CG "can_get_off" ["self","stop","minute","left"] (uy CL CG CN):=D.FL.gm (λ_ _ _ _ _ _ us a=>match us,a with|[_,_,_,_],_=>rfl) λf fd F=>Ij F d Og;obtain⟨P4,Pr,Od,N1,OF⟩:∃f fd,Mk K CL f/\Db P w K mg base AC 1 f fd ["self","search"] (uG CL CS CN)/\Binds K fd ["self","search"] []:=D.G2.makes D.rv (λ_ _ _ _ _ _ us a=>match us,a with|[_,_],_=>rfl) λf fd F=>IE F d TS b;obtain⟨P0,Po,Oc,N0,OD⟩:∃f fd,Mk K CG f/\Db P w K mg base AC 5 f fd ["self","mirrored","goal","arrival","rides"] (uE CL CG CN)/\Binds K fd ["self","mirrored","goal","arrival","rides"] []:=D.FJ.makes D.ru (λ_ _ _ _ _ _ us a=>match us,a with|[_,_,_,_,_],_=>rfl) λf fd F=>Iw F d TS q o n p O9 Od N1 OF r u;have NU:Gf P w K mg base 3 "first_walk" ["network","guide","stop","minute","left"] (uD CL CG CN):=D.Fo.gf X G (λ_ _ _ _ _ _ us a=>match us,a with|[_,_,_,_,_],_=>rfl) λf fd F=>Ir F d TS b Ow;have NS:Gf P w K mg base 3 "first_ride" ["network","guide","stop","ready","left"] (uC CL CG CN):=D.Fi.gf X G (λ_ _ _ _ _ _ us a=>match us,a with|[_,_,_,_,_],_=>rfl) λf fd F=>Iq F d TS b NL NM;have NR:Gf P w K mg base 4 "first_journey" ["network","guide","start","minute","rides"] (uB CL CG CN):=D.Fb.gf X G (λ_ _ _ _ _ _ us a=>match us,a with|[_,_,_,_,_],_=>rfl) λf fd F=>Ip F d TS NU NS;have N_:Gf P w K mg base 7 "journey" ["plan","start","goal","day","minute","most"] (cx CP CN h7 5):=D.Fc.gf X G (λ_ _ _ _ _ _ us a=>match us,a with|[_,_,_,_,_,_],_=>rfl) λf fd F=>ID F TP b TS O8 Oc N0 OD g m j U t NR k;have ND:Gf P w K mg base 8 "answer_asked" ["plan","number","numbers"] (uv CP CN):=D.E1.gf X G (λ_ _ _ _ _ _ us a=>match us,a with|[_,_,_],_=>rfl) λf fd F=>Ib F TA NO Oa FR Oj Om N_ NK;have NG:Gf P w K mg base 9 "answer_of" ["plan","number","numbers","row"] (uu CP CN):=D.E3.gf X G (λ_ _ _ _ _ _ us a=>match us,a with|[_,_,_,_],_=>rfl) λf fd F=>H_ F TP TA ST Ot Ou LT ND;exact H' F TP TA O_ Of N5 OK (hJ X G OP) OU NG
theorem all_mk (D:w' K CN CP CS CL CG) (X:K.In h) (G:h.Ns cI mg) (j:mg "answers"=some (.ref fa)) (g:iP K cI "WIDTHS"=some (some (.ref wd))) (i:lF K wd pZ):
  ∃fd:sc,(∀(s:Rs) (v:Wp),mW s fd ⟨[v],[]⟩ [("calls",v)])/\∀base:wn,K.In base->base.Ns cI mg->Db P w K mg base AC 10 fa fd ["calls"] (px K):=by
 obtain⟨f,e,m,n,kV,d,k,a,b,ct,o,l,c,kp⟩:=D.E2;have q:=j.symm.trans (hJ X G e);cases q;exact⟨f6 "answers" "answers" (g9 iy) (gn iy) (sB iy) .none kV d k a b ct,λs v=>.of_eq rfl,λbase _ _=>D2 D X G g i (l1 (st:=iy) l c kp)⟩
end
end Dv
open PySem PySem.W PyProof.Rows
theorem PySem.Challenge.cw_timeways_s01_answers_holds : PySem.Challenge.rw_timeways_s01_answers.Holds := by
 w_on;k_headS;(case hw=>exact⟨[.list []],by decide +kernel,by decide +kernel⟩)
 k_fillS
 refine L2.L0 (k:=10) (x:="calls") (sp:=λK=>Dv.px K) ?said ?hn ?hdf ?hr (λw h Y=>MD Y) ?F ?hsp
 case said=>decide +kernel
 case hn=>decide
 case hdf=>rfl
 case hr=>exact⟨rfl,by decide,by decide⟩
 case hsp=>intro K H a ns f j d i c;exact⟨a,ns,rfl,c,f,d,λV l e=>⟨l,rfl,e⟩⟩
 case F=>
  intro w mg fa h b G g
  refine' Dv.all_mk ⟨⟨?_,?_,?_,?_,?_,?_,?_⟩,?_,?_,?_,?_,?_,⟨?_,?_,?_,?_,?_,?_,?_⟩,?_,?_,?_,?_,?_,⟨?_,?_,?_,?_,?_,?_,?_⟩,?_,?_,?_,?_,?_,?_,?_,?_,?_,⟨?_,?_,?_,?_,?_,?_,?_⟩,?_,?_,?_,?_,⟨?_,?_,?_,?_,?_,?_,?_⟩,?_,?_,?_,.m ?_ ?_ ?_ ?_ ?_,.m ?_ ?_ ?_ ?_ ?_,.m ?_ ?_ ?_ ?_ ?_,.m ?_ ?_ ?_ ?_ ?_,.m ?_ ?_ ?_ ?_ ?_,.m ?_ ?_ ?_ ?_ ?_,.m ?_ ?_ ?_ ?_ ?_,.m ?_ ?_ ?_ ?_ ?_,.m ?_ ?_ ?_ ?_ ?_,.m ?_ ?_ ?_ ?_ ?_,.m ?_ ?_ ?_ ?_ ?_,.m ?_ ?_ ?_ ?_ ?_,.m ?_ ?_ ?_ ?_ ?_,.m ?_ ?_ ?_ ?_ ?_,.m ?_ ?_ ?_ ?_ ?_,.m ?_ ?_ ?_ ?_ ?_,.m ?_ ?_ ?_ ?_ ?_,.m ?_ ?_ ?_ ?_ ?_,.m ?_ ?_ ?_ ?_ ?_,.m ?_ ?_ ?_ ?_ ?_,.m ?_ ?_ ?_ ?_ ?_,.m ?_ ?_ ?_ ?_ ?_,.m ?_ ?_ ?_ ?_ ?_,.m ?_ ?_ ?_ ?_ ?_,.m ?_ ?_ ?_ ?_ ?_,.m ?_ ?_ ?_ ?_ ?_,.m ?_ ?_ ?_ ?_ ?_,.m ?_ ?_ ?_ ?_ ?_,.m ?_ ?_ ?_ ?_,.m ?_ ?_ ?_ ?_,.m ?_ ?_ ?_ ?_,.m ?_ ?_ ?_ ?_,.m ?_ ?_ ?_ ?_,.m ?_ ?_ ?_ ?_,.m ?_ ?_ ?_ ?_,.m ?_ ?_ ?_ ?_,.m ?_ ?_ ?_ ?_,.m ?_ ?_ ?_ ?_,.m ?_ ?_ ?_ ?_,.m ?_ ?_ ?_ ?_,.m ?_ ?_ ?_ ?_,.m ?_ ?_ ?_ ?_,.m ?_ ?_ ?_ ?_,.m ?_ ?_ ?_ ?_,.m ?_ ?_ ?_ ?_,.m ?_ ?_ ?_ ?_,.m ?_ ?_ ?_ ?_,.m ?_ ?_ ?_ ?_,.m ?_ ?_ ?_ ?_,.m ?_ ?_ ?_ ?_,.m ?_ ?_ ?_ ?_,.m ?_ ?_ ?_ ?_,.m ?_ ?_ ?_ ?_,.m ?_,.m ?_,.m ?_,.m ?_,.m ?_,.m ?_,.m ?_,.m ?_,.m ?_,.m ?_,.m ?_,.m ?_,.m ?_,.m ?_,.m ?_,.m ?_,.m ?_,.m ?_,.m ?_,.m ?_,.m ?_,.m ?_,.m ?_,.m ?_,.m ?_,.m ?_,?_,?_,?_,?_,?_,?_⟩ b G g ?_ (Dv.EN ?_ ?_ ?_ ?_)
  any_goals first|k_is|(delta L2.ao;k_is)|(delta Dv.i7;k_is)
  any_goals first|k_is|exact⟨rfl,rfl,rfl⟩|rfl